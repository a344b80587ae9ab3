import PyProof.Rows.All
import Wide.All
import OpenK.AllK
import Wide.FinOn
import HandS.ForMost
import HandS.Exc
import HandS.TryOnly
import HandS.ExcOwn
import HandS.WordsExc
import HandS.Star
import HandS.OwnEq
import HandS.SlotsOwn
import HandS.Property
import HandS.TryMany
import HandS.Wide
import HandS.IsInst
import HandS.Zip
import PyProof.WalksMore
import HandS.Walk
import HandS.ClsMeth
import KE.GoesMore
import KE.GoesEnum
import HandS.TupAny
import HandS.Conv
import HandS.Gcd
import HandS.Style
import HandS.Nested
import KE.KDflt
import HandS.EndTab
import KE.KNestM
import PyProof.NeKinds
import HandS.Dict
import HandS.Small
import PyProof.Rows.TupMore
import HandS.Text
import HandS.StrMore
import HandS.TupMul
import HandS.SortKw
import KE.DataMinKey
import KE.LtSeq
import HandS.SortInts
import HandS.SetBool
import HandS.Strs
import PyProof.Rows.TupDisplay
import HandS.SetFor
import HandS.Deep
import HandS.TupSets
import HandS.WideBits
import KE.KDictKeyed
import PyProof.StrOps2
import KE.KxField
import HandS.FStr
import HandS.Replace
import PyProof.StrLawsReplace
import HandS.Defaults
import HandS.MakeKwOnly
import HandS.ExcIs
import PyProof.Rows.CountFlat
import PySem.Challenge.RW_oddcents_k32_payments_and_errors
set_option Elab.async false
set_option linter.all false
set_option maxRecDepth 100000
set_option maxHeartbeats 20000000
namespace Odd
open PySem PySem.Spec PyProof.Rows L2

/-! ### own operators of plain instances -/
section
variable {X : Cx} {CX : CXT} {pins : List (Addr × Obj)} {σ : L2.St} {H : Hp} {s : Shared} {a C dx g : Addr} {fs : List (Str × V)} {n : Nat} {sp : Sp} {E : XK}

theorem inst_at (I : Inv X pins σ H s) (e : H a = some (.ins C dx fs)) : ∃ ox od, PySem.W.InstAt s.heap a ox C (some od) := by
  obtain ⟨mA, O, _⟩ := ins_get I.hok e
  obtain ⟨od, J, _⟩ := O.look
  exact ⟨_, _, J⟩

theorem call_ref {Q : VK} {us : List Value} {vs : List V} (F : FnR X.prog X.w X.K X.mg X.base CX n g sp) (hr : Room n X.A) (hx : Passes CX X E) (I : Inv X pins σ H s) (r : Vals vs us) (h : sp vs H Q E) :
    wpAny (model X.prog X.w) X.A (call (.ref g) us) (EP X pins σ Q) X.xe s := wpAny_call (run_fnR F hr hx I r h)
theorem call_in1 {Q : VK} {us : List Value} {vs : List V} (F : FnR X.prog X.w X.K X.mg X.base CX n g sp) (hr : Room (n + 1) X.A) (hx : Passes CX X E) (I : Inv X pins σ H s) (r : Vals vs us) (h : sp vs H Q E) :
    wpAny (model X.prog X.w) X.A.in1 (call (.ref g) us) (EP X pins σ Q) X.xe s := wpAny_call (SlX.run_at F hr.in1 I.env0.in1 hx I r h)

/-- x op y, both instances of the class at C, whose def is at g -/
def rOpSame (C : Addr) (sp : Sp) (E : XK) : R2 := fun x y H Q => ∃ a b dx dy fs gs, x = .ref a ∧ y = .ref b ∧ H a = some (.ins C dx fs) ∧ H b = some (.ins C dy gs) ∧ sp [x, y] H Q E
theorem op_same {op : Operator} (hc : PySem.W.selfFirst X.K C = true) (hs : PySem.W.findIn X.K (.ref C) (PySem.dunder op.info.2) = some (some (.ref g))) (hf : PySem.W.isFn X.K (.ref g) = true)
    (F : FnR X.prog X.w X.K X.mg X.base CX n g sp) (hr : Room n X.A) (hx : Passes CX X E) : OpR X (binaryOp op) (rOpSame C sp E) := by
  intro pins s σ H x y v u Q I rx ry h
  obtain ⟨a, b, dx, dy, fs, gs, rfl, rfl, ha, hb, q⟩ := h
  cases (show v = Value.ref a from rx)
  cases (show u = Value.ref b from ry)
  obtain ⟨ox, od, J⟩ := inst_at I ha
  obtain ⟨oy, od', J'⟩ := inst_at I hb
  obtain ⟨m, hF⟩ := I.fr
  refine PySem.W.binop_K hF I.ok.mod.kin J J'.type hc hs hf (wpAny_mono (call_ref (vs := [.ref a, .ref b]) F hr hx I (.cons rfl (.cons rfl .nil)) q) (fun w s' z => ?_) fun _ _ x => x)
  obtain ⟨z', H', I', rz, qz⟩ := z
  exact SlX.cmpback rz ⟨z', H', I', rz, qz⟩

/-- x op n, n an int -/
def rOpInt (C : Addr) (sp : Sp) (E : XK) : R2 := fun x y H Q => ∃ a i dx fs, x = .ref a ∧ y = .int i ∧ H a = some (.ins C dx fs) ∧ sp [x, y] H Q E
theorem op_int {op : Operator} {fo ro rc : Option Value} (hc : PySem.W.selfFirst X.K C = true) (hs : PySem.W.findIn X.K (.ref C) (PySem.dunder op.info.2) = some (some (.ref g))) (hf : PySem.W.isFn X.K (.ref g) = true)
    (hrc : PySem.W.findIn X.K (.ref C) (dunderR op.info.2) = some rc) (hp : rc = none ∨ ∃ g : Addr, rc = some (.ref g)) (h1 : PySem.W.findIn X.K (.type "int") (PySem.dunder op.info.2) = some fo) (h2 : PySem.W.findIn X.K (.type "int") (dunderR op.info.2) = some ro)
    (hsub : PySem.W.subIn X.K (.type "int") (.ref C) = some false)
    (F : FnR X.prog X.w X.K X.mg X.base CX n g sp) (hr : Room n X.A) (hx : Passes CX X E) : OpR X (binaryOp op) (rOpInt C sp E) := by
  intro pins s σ H x y v u Q I rx ry h
  obtain ⟨a, i, dx, fs, rfl, rfl, ha, q⟩ := h
  cases (show v = Value.ref a from rx)
  obtain ⟨t, e⟩ := (show ∃ t, u = Value.int i t from ry)
  cases e
  obtain ⟨ox, od, J⟩ := inst_at I ha
  obtain ⟨m, hF⟩ := I.fr
  refine PySem.W.ksp_binT (T := "int") hF I.ok.mod.kin J (by first | rfl | kernel_rfl) hc hs hf hrc hp h1 h2 hsub (wpAny_mono (call_ref (vs := [.ref a, .int i]) F hr hx I (.cons rfl (.cons ⟨t, rfl⟩ .nil)) q) (fun w s' z => ?_) fun _ _ x => x)
  obtain ⟨z', H', I', rz, qz⟩ := z
  exact SlX.cmpback rz ⟨z', H', I', rz, qz⟩

/-- -x -/
def rNeg (C : Addr) (sp : Sp) (E : XK) : V → Hp → VK → Prop := fun x H Q => ∃ a dx fs, x = .ref a ∧ H a = some (.ins C dx fs) ∧ sp [x] H Q E
theorem un_ins (hs : PySem.W.findIn X.K (.ref C) "__neg__" = some (some (.ref g))) (hf : PySem.W.isFn X.K (.ref g) = true)
    (F : FnR X.prog X.w X.K X.mg X.base CX n g sp) (hr : Room n X.A) (hx : Passes CX X E) : UnR X (unaryOp .USub) (rNeg C sp E) := by
  intro pins s σ H x v Q I rx h
  obtain ⟨a, dx, fs, rfl, ha, q⟩ := h
  cases (show v = Value.ref a from rx)
  obtain ⟨ox, od, J⟩ := inst_at I ha
  obtain ⟨m, hF⟩ := I.fr
  exact PySem.W.ksp_neg hF I.ok.mod.kin J hs hf (call_ref (vs := [.ref a]) F hr hx I (.cons rfl .nil) q)

/-- len(x) -/
def rLenI (C : Addr) (sp : Sp) (E : XK) : List V → Hp → VK → Prop := fun vs H Q => ∃ a dx fs, vs = [.ref a] ∧ H a = some (.ins C dx fs) ∧ sp [.ref a] H (fun z H' => ∃ i, z = .int i ∧ 0 ≤ i ∧ i < 2 ^ 63 ∧ Q z H') E
theorem call_lenI (hs : PySem.W.findIn X.K (.ref C) "__len__" = some (some (.ref g))) (hf : PySem.W.isFn X.K (.ref g) = true)
    (F : FnR X.prog X.w X.K X.mg X.base CX n g sp) (hr : Room (n + 1) X.A) (hx : Passes CX X E) : CallR X (.builtin "len") (rLenI C sp E) := by
  intro pins s σ H xs us Q I r h
  obtain ⟨a, dx, fs, rfl, ha, q⟩ := h
  obtain ⟨u, rfl, ru⟩ := vals1 r
  cases (show u = Value.ref a from ru)
  obtain ⟨ox, od, J⟩ := inst_at I ha
  obtain ⟨m, hF⟩ := I.fr
  refine PySem.W.len_K hF I.ok.mod.kin J hs hf (wpAny_mono (call_in1 (vs := [.ref a]) F hr hx I (.cons rfl .nil) q) (fun w s' z => ?_) fun _ _ x => x)
  obtain ⟨z', H', I', rz, i, ei, h0, h1, qz⟩ := z
  subst ei
  obtain ⟨t, e⟩ := (show ∃ t, w = Value.int i t from rz)
  cases e
  exact ⟨⟨h0, h1⟩, .int i, H', I'.tok _, ⟨_, rfl⟩, qz⟩

/-- abs(x) -/
def rAbsI (C : Addr) (sp : Sp) (E : XK) : List V → Hp → VK → Prop := fun vs H Q => ∃ a dx fs, vs = [.ref a] ∧ H a = some (.ins C dx fs) ∧ sp [.ref a] H Q E
theorem call_absI (hs : PySem.W.findIn X.K (.ref C) "__abs__" = some (some (.ref g))) (hf : PySem.W.isFn X.K (.ref g) = true)
    (F : FnR X.prog X.w X.K X.mg X.base CX n g sp) (hr : Room (n + 1) X.A) (hx : Passes CX X E) : CallR X (.builtin "abs") (rAbsI C sp E) := by
  intro pins s σ H xs us Q I r h
  obtain ⟨a, dx, fs, rfl, ha, q⟩ := h
  obtain ⟨u, rfl, ru⟩ := vals1 r
  cases (show u = Value.ref a from ru)
  obtain ⟨ox, od, J⟩ := inst_at I ha
  refine Calls.call_function_entry kind_abs plain_abs entry_abs (args_abs _) ?_
  unfold Builtin.«abs»
  refine wpAny_bind (m := oneArg "abs" _) (wpAny_pure ?_)
  refine wpAny_bind (m := callSpecial? (.ref a) (Str.ofString "__abs__")) (PySem.W.special_fn I.kIn J hs (beq_iff_eq.mp hf) (wpAny_mono (call_in1 (vs := [.ref a]) F hr hx I (.cons rfl .nil) q) (fun w s' z => ?_) fun _ _ x => x))
  exact wpAny_pure ⟨_, rfl, z⟩
end
end Odd

namespace Odd
open PySem PySem.Spec PyProof.Rows L2

/-! ### rules that leave the choice to the reading -/
/-- X runs the body of X0: itself, or a comprehension's block in it -/
structure Like (X0 X : Cx) : Prop where
  prog : X.prog = X0.prog
  w : X.w = X0.w
  K : X.K = X0.K
  mg : X.mg = X0.mg
  base : X.base = X0.base
  A : X.A = X0.A
  calm : X.calm = X0.calm
theorem Like.refl {X : Cx} : Like X X := ⟨rfl, rfl, rfl, rfl, rfl, rfl, rfl⟩
abbrev Pas (X : Cx) (E : XK) : Prop := Passes (L2.CX X.prog X.w) X E
abbrev Fn (X : Cx) (k : Nat) (f : Addr) (sp : Sp) : Prop := FnR X.prog X.w X.K X.mg X.base (L2.CX X.prog X.w) k f sp
section
variable {X0 X : Cx} {E : XK}
theorem Like.fn {k : Nat} {f : Addr} {sp : Sp} (l : Like X0 X) (F : Fn X0 k f sp) : Fn X k f sp := by
  unfold Fn at F ⊢
  rw [l.prog, l.w, l.K, l.mg, l.base]
  exact F
theorem Like.room {k : Nat} (l : Like X0 X) (r : Room k X0.A) : Room k X.A := by rw [l.A]; exact r

/-! what may be chosen -/
def OpD (X0 : Cx) (E : XK) (f : Value → Value → Sem Value) (r : R2) : Prop := ∀ X, Like X0 X → Pas X E → OpR X f r
def UnD (X0 : Cx) (E : XK) (f : Value → Sem Value) (r : V → Hp → VK → Prop) : Prop := ∀ X, Like X0 X → Pas X E → UnR X f r
def CaD (X0 : Cx) (E : XK) (u : Value) (r : List V → Hp → VK → Prop) : Prop := ∀ X, Like X0 X → Pas X E → CallR X u r
def TrD (X0 : Cx) (E : XK) (r : V → Hp → (Bool → Hp → Prop) → Prop) : Prop := ∀ X, Like X0 X → Pas X E → TruR X r
def AtR (X : Cx) (f : Str) (r : V → Hp → VK → Prop) : Prop :=
  ∀ (b : Bool) (pins : List (Addr × Obj)) (s : Shared) (σ : L2.St) (H : Hp) (x : V) (v : Value) (Q : VK), Inv X pins σ H s → RelV x v → r x H Q → wpAny (model X.prog X.w) X.A (getAttr v f b) (EP X pins σ Q) X.xe s
def AtD (X0 : Cx) (E : XK) (f : Str) (r : V → Hp → VK → Prop) : Prop := ∀ X, Like X0 X → Pas X E → AtR X f r
/-- a subscript, also of an own class's instance -/
def IxO (X : Cx) (r : R2) : Prop :=
  ∀ (value slice : Expr) (pins : List (Addr × Obj)) (s : Shared) (σ : L2.St) (H : Hp) (x y : V) (v u : Value) (Q : VK), Inv X pins σ H s → RelV x v → RelV y u → r x y H Q →
    subscripted slice false v u = operate [v, u] (getItem v u) → subscripted slice true v u = runValue (.builtin "lifetime.subscript" ⟨[v, u], []⟩) → wpAny (model X.prog X.w) X.A (subscriptTail value slice v u) (EP X pins σ Q) X.xe s
def IxD (X0 : Cx) (E : XK) (r : R2) : Prop := ∀ X, Like X0 X → Pas X E → IxO X r

/-! the readings -/
def tOpA (X0 : Cx) (E : XK) (f : Value → Value → Sem Value) (ta tb : TE) : TE := fun σ H Q => ta σ H fun x H1 => tb σ H1 fun y H2 => ∃ r, OpD X0 E f r ∧ r x y H2 Q
def tUnA (X0 : Cx) (E : XK) (f : Value → Sem Value) (ta : TE) : TE := fun σ H Q => ta σ H fun x H1 => ∃ r, UnD X0 E f r ∧ r x H1 Q
def tAtA (X0 : Cx) (E : XK) (f : Str) (ta : TE) : TE := fun σ H Q => ta σ H fun x H1 => ∃ r, AtD X0 E f r ∧ r x H1 Q
def tIxA (X0 : Cx) (E : XK) (ta tb : TE) : TE := fun σ H Q => ta σ H fun x H1 => tb σ H1 fun y H2 => ∃ r, IxD X0 E r ∧ r x y H2 Q
def tTrA (X0 : Cx) (E : XK) (ta : TE) : TT := fun σ H Q => ta σ H fun x H1 => ∃ r, TrD X0 E r ∧ r x H1 Q
def tChA (X0 : Cx) (E : XK) (f g : Value → Value → Sem Value) (ta tb tc : TE) : TE := fun σ H Q => ta σ H fun x H1 => tb σ H1 fun y H2 => ∃ r, OpD X0 E f r ∧ r x y H2 fun z H3 => ∃ k, z = .bl k ∧
  (if k = true then tc σ H3 fun w' H4 => ∃ r', OpD X0 E g r' ∧ r' y w' H4 Q else Q (.bl false) H3)
/-- a built-in function or type by its name -/
def tBiA (X0 : Cx) (E : XK) (x : Str) (u : Value) (t : TA) : TE := fun σ H Q => X0.mg x = none ∧ t σ H fun vs H1 => ∃ r, CaD X0 E u r ∧ r vs H1 Q
/-- a def or class of the module by its name -/
def tGlA (X0 : Cx) (E : XK) (x : Str) (t : TA) : TE := fun σ H Q => ∃ f, X0.mg x = some (.ref f) ∧ PySem.W.keepIn X0.K (.ref f) = true ∧ t σ H fun vs H1 => ∃ r, CaD X0 E (.ref f) r ∧ r vs H1 Q
/-- own methods -/
def tMeA (X0 : Cx) (E : XK) (m : Str) (ta : TE) (t : TA) : TE := fun σ H Q => ta σ H fun x H1 => ∃ a C dx fs g, x = .ref a ∧ H1 a = some (.ins C dx fs) ∧ Cls X0.K C ∧ Meth X0.K C m g ∧ PySem.W.keepIn X0.K (.ref g) = true ∧ fs.lookup m = none ∧
  t σ H1 fun vs H2 => ∃ r, CaD X0 E (.ref g) r ∧ r (x :: vs) H2 Q
/-- what a for walks: a list, a tuple -/
def iSeq (K : PySem.W.Frag) (tl : TE) : TI := fun σ H R => tl σ H fun x H1 => ∃ a, x = .ref a ∧ (((∃ xs, SqL K H1 a xs) ∧ R (Itl K a) H1) ∨ ((∃ xs, SqT K H1 a xs) ∧ R (Itt K a) H1))

variable {a b c e o : Expr} {es : List Expr} {ta tb tc te : TE} {t : TA} {pos p apos sp_ : Pos} {x m : Str}
theorem pe_opA {op : Operator} (l : Like X0 X) (h : Pas X E) (ha : PE X a ta) (hb : PE X b tb) : PE X (.BinOp a op b pos) (tOpA X0 E (binaryOp op) ta tb) := by
  refine ⟨fun pins s σ H Q I q => ?_⟩
  exact wpAny_BinOp (binT ha hb I q fun v u s2 x y H2 I2 rx ry q => let ⟨r, hr, q⟩ := q; hr X l h pins s2 σ H2 x y v u Q I2 rx ry q)
theorem pe_unA {op : UnaryOp} (l : Like X0 X) (h : Pas X E) (ha : PE X a ta) : PE X (.UnaryOp op a pos) (tUnA X0 E (unaryOp op) ta) := by
  refine ⟨fun pins s σ H Q I q => ?_⟩
  exact UnaryOp_ (thn (ha.run pins s σ H _ I q) fun v s1 ⟨x, H1, I1, r1, r, hr, q1⟩ => hr X l h pins s1 σ H1 x v Q I1 r1 q1)
theorem pe_cmpA {op : CmpOp} (l : Like X0 X) (h : Pas X E) (ha : PE X a ta) (hb : PE X b tb) (hm : behindInMarks op b = false) : PE X (.Compare a [op] [b] pos) (tOpA X0 E (compareOp op) ta tb) := by
  refine ⟨fun pins s σ H Q I q => ?_⟩
  exact wpAny_Compare1 (binT ha hb I q fun v u s2 x y H2 I2 rx ry q => let ⟨r, hr, q⟩ := q; hr X l h pins s2 σ H2 x y v u Q I2 rx ry q) hm
theorem pt_cmpA {op : CmpOp} (l : Like X0 X) (h : Pas X E) (ha : PE X a ta) (hb : PE X b tb) (hm : behindInMarks op b = false) : PT X (.Compare a [op] [b] pos) (tTest (tOpA X0 E (compareOp op) ta tb)) := by
  refine ⟨fun pins s σ H Q I q => ?_⟩
  refine wpAny_isTrue_Compare1 (thn (ha.run pins s σ H _ I q) fun v s1 ⟨x, H1, I1, r1, q1⟩ => thn (hb.run pins s1 σ H1 _ I1 q1) fun u s2 ⟨y, H2, I2, r2, r, hr, q2⟩ =>
    thn (hr X l h pins s2 σ H2 x y v u _ I2 r1 r2 q2) fun c s3 ⟨z, H3, I3, r3, k, e, q3⟩ => ?_) hm
  subst e
  cases r3
  exact wpAny_truthy_bool ⟨H3, I3, q3⟩
theorem pe_chA {op op' : CmpOp} (l : Like X0 X) (h : Pas X E) (ha : PE X a ta) (hb : PE X b tb) (hc : PE X c tc) (hm : lastMarks [op, op'] [b, c] = false := by with_unfolding_all rfl) :
    PE X (.Compare a [op, op'] [b, c] pos) (tChA X0 E (compareOp op) (compareOp op') ta tb tc) := by
  refine ⟨fun pins s σ H Q I q => ?_⟩
  refine Compare_chain (thn (ha.run pins s σ H _ I q) fun v s1 ⟨x, H1, I1, r1, q1⟩ => chain_link (thn (hb.run pins s1 σ H1 _ I1 q1) fun u s2 ⟨y, H2, I2, r2, r, hr, q2⟩ =>
    thn (hr X l h pins s2 σ H2 x y v u _ I2 r1 r2 q2) fun d s3 ⟨z, H3, I3, r3, k, e, q3⟩ => ?_)) hm
  subst e
  cases r3
  refine wpAny_truthy_bool ?_
  cases k with
  | false => exact ite_ff ⟨.bl false, H3, I3, rfl, q3⟩
  | true => exact ite_tt (chain_last (thn (hc.run pins s3 σ H3 _ I3 q3) fun w' s4 ⟨z', H4, I4, r4, r', hr', q4⟩ => hr' X l h pins s4 σ H4 y z' u w' Q I4 r2 r4 q4))
theorem pt_chA {op op' : CmpOp} (l : Like X0 X) (h : Pas X E) (ha : PE X a ta) (hb : PE X b tb) (hc : PE X c tc) (hm : lastMarks [op, op'] [b, c] = false := by with_unfolding_all rfl) :
    PT X (.Compare a [op, op'] [b, c] pos) (tTest (tChA X0 E (compareOp op) (compareOp op') ta tb tc)) := by
  refine ⟨fun pins s σ H Q I q => ?_⟩
  refine isTrue_chain (thn (ha.run pins s σ H _ I q) fun v s1 ⟨x, H1, I1, r1, q1⟩ => test_link (thn (hb.run pins s1 σ H1 _ I1 q1) fun u s2 ⟨y, H2, I2, r2, r, hr, q2⟩ =>
    thn (hr X l h pins s2 σ H2 x y v u _ I2 r1 r2 q2) fun d s3 ⟨z, H3, I3, r3, k, e, q3⟩ => ?_)) hm
  subst e
  cases r3
  refine wpAny_truthy_bool ?_
  cases k with
  | false =>
    obtain ⟨k, e, q4⟩ := q3
    cases e
    exact ite_ff ⟨H3, I3, q4⟩
  | true =>
    refine ite_tt (test_last (thn (hc.run pins s3 σ H3 _ I3 q3) fun w' s4 ⟨z', H4, I4, r4, r', hr', q4⟩ => thn (hr' X l h pins s4 σ H4 y z' u w' _ I4 r2 r4 q4) fun d s5 ⟨z5, H5, I5, r5, k, e, q5⟩ => ?_))
    subst e
    cases r5
    exact wpAny_truthy_bool ⟨H5, I5, q5⟩
theorem pt_trA (l : Like X0 X) (h : Pas X E) (ha : PE X a ta) (he : ∀ whole, isTrue a X.env whole = (do let v ← whole; standAt a.pos; holding [v] (truthy v)) := by intro _; rfl) : PT X a (tTrA X0 E ta) := by
  refine ⟨fun pins s σ H Q I q => ?_⟩
  exact isTrue_plain (thn (ha.run pins s σ H _ I q) fun v s1 ⟨x, H1, I1, r1, r, hr, q1⟩ => hr X l h pins s1 σ H1 x v Q I1 r1 q1) (he _)
theorem pe_atA (l : Like X0 X) (h : Pas X E) {f : Str} (he : PE X e te) (hb : attributeBase e f X.env (eval e X.env) = eval e X.env := by rfl) : PE X (.Attribute e f pos) (tAtA X0 E f te) := by
  refine ⟨fun pins s σ H Q I q => ?_⟩
  refine attr_of hb (thn (he.run pins s σ H _ I q) fun u s1 ⟨x, H1, I1, rx, r, hr, q⟩ => hr X l h _ pins s1 σ H1 x u Q I1 rx q)
theorem pe_ixA (l : Like X0 X) (h : Pas X E) (ha : PE X a ta) (hb : PE X b tb) (hs : ∀ o i, subscripted b false o i = operate [o, i] (getItem o i) := by exact fun _ _ => rfl)
    (hs2 : ∀ o i, subscripted b true o i = runValue (.builtin "lifetime.subscript" ⟨[o, i], []⟩) := by exact fun _ _ => rfl) : PE X (.Subscript a b pos) (tIxA X0 E ta tb) := by
  refine ⟨fun pins s σ H Q I q => ?_⟩
  exact Subscript_ (binT ha hb I q fun v u s2 x y H2 I2 rx ry q => let ⟨r, hr, q⟩ := q; hr X l h a b pins s2 σ H2 x y v u Q I2 rx ry q (hs _ _) (hs2 _ _))
theorem pe_biA {id : String} (l : Like X0 X) (h : Pas X E) (hg : Gl X x) (hv : bootBuiltins x = some (.builtin id)) (ha : PA X (e :: es) t) (hn : x ≠ "__name__" := by decide) (hdb : (x == ("__debug__" : Str)) = false := by decide)
    (he : starEach (e :: es) X.env = (false, eval e X.env) :: starEach es X.env := by rfl) (hpl : (backTo pos (starEach es X.env)).any (·.1) = false := by rfl) : PE X (.Call (.Name x p) (e :: es) [] pos) (tBiA X0 E x (.builtin id) t) := by
  refine ⟨fun pins s σ H Q I ⟨hm, q⟩ => ?_⟩
  rw [← l.mg] at hm
  refine wpAny_Call_Name_kw (ld_blt I hg hm hv ?_ hn hdb)
  exact PyProof.Rows.callWith_builtin1 (thn (ha.run pos pins s σ H _ I q) fun us s1 ⟨vs, H1, I1, r1, r, hr, q1⟩ => hr X l h pins s1 σ H1 vs us Q I1 r1 q1) he hpl
theorem pe_tyA {T : String} (l : Like X0 X) (h : Pas X E) (hg : Gl X x) (hv : bootBuiltins x = some (.type T)) (ha : PA X (e :: es) t) (hn : x ≠ "__name__" := by decide) (hdb : (x == ("__debug__" : Str)) = false := by decide)
    (he : starEach (e :: es) X.env = (false, eval e X.env) :: starEach es X.env := by rfl) (hpl : (backTo pos (starEach es X.env)).any (·.1) = false := by rfl) : PE X (.Call (.Name x p) (e :: es) [] pos) (tBiA X0 E x (.type T) t) := by
  refine ⟨fun pins s σ H Q I ⟨hm, q⟩ => ?_⟩
  rw [← l.mg] at hm
  refine wpAny_Call_Name_kw (ld_blt I hg hm hv ?_ hn hdb)
  exact PyProof.Rows.callWith_type1 (thn (ha.run pos pins s σ H _ I q) fun us s1 ⟨vs, H1, I1, r1, r, hr, q1⟩ => hr X l h pins s1 σ H1 vs us Q I1 r1 q1) he hpl
theorem pe_glA (l : Like X0 X) (h : Pas X E) (hg : Gl X x) (ha : PA X (e :: es) t) (hdb : (x == ("__debug__" : Str)) = false := by decide) (he : starEach (e :: es) X.env = (false, eval e X.env) :: starEach es X.env := by rfl)
    (hpl : (backTo pos (starEach es X.env)).any (·.1) = false := by rfl) : PE X (.Call (.Name x p) (e :: es) [] pos) (tGlA X0 E x t) := by
  refine ⟨fun pins s σ H Q I ⟨f, hm, hk, q⟩ => ?_⟩
  rw [← l.mg] at hm
  rw [← l.K] at hk
  refine wpAny_Call_Name_kw (ld_glob I hg hm ?_ hdb)
  exact PySem.W.callWith_K (h₀ := X.base) I.ok.mod.kin hk (thn (ha.run pos pins s σ H _ I q) fun us s1 ⟨vs, H1, I1, r1, r, hr, q1⟩ => ⟨I1.kIn, hr X l h pins s1 σ H1 vs us Q I1 r1 q1⟩) he hpl
theorem pe_gl0 (l : Like X0 X) (h : Pas X E) (hg : Gl X x) (hdb : (x == ("__debug__" : Str)) = false := by decide) : PE X (.Call (.Name x p) [] [] pos) (tGlA X0 E x tNil) := by
  refine ⟨fun pins s σ H Q I ⟨f, hm, hk, r, hr, q⟩ => ?_⟩
  rw [← l.mg] at hm
  rw [← l.K] at hk
  refine wpAny_Call_Name_kw (ld_glob I hg hm ?_ hdb)
  exact PySem.W.callWith_K0 I.kIn hk (hr X l h pins s σ H [] [] Q I .nil q)
/-- x(*y) -/
def tGlS (X0 : Cx) (E : XK) (x : Str) (te : TE) : TE := fun σ H Q => ∃ f, X0.mg x = some (.ref f) ∧ PySem.W.keepIn X0.K (.ref f) = true ∧ te σ H fun y H1 => ∃ a xs, y = V.ref a ∧ (SqT X0.K H1 a xs ∨ SqL X0.K H1 a xs) ∧ ∃ r, CaD X0 E (.ref f) r ∧ r xs H1 Q
theorem pe_glS (l : Like X0 X) (h : Pas X E) (hg : Gl X x) (he : PE X e te) (hd : (x == ("__debug__" : Str)) = false := by decide) (hst : starEach [.Starred e sp_] X.env = [(true, eval e X.env)] := by rfl) :
    PE X (.Call (.Name x p) [.Starred e sp_] [] pos) (tGlS X0 E x te) := by
  refine ⟨fun pins s σ H Q I ⟨f, hm, hk, q⟩ => ?_⟩
  rw [← l.mg] at hm
  rw [← l.K] at hk
  refine wpAny_Call_Name_kw (ld_glob I hg hm ?_ hd)
  refine PySem.W.callWith_S (h₀ := X.base) I.ok.mod.kin hk (thn (he.run pins s σ H _ I q) fun v s1 ⟨y, H1, I1, ry, a, xs, ey, hxs, r, hr, q⟩ => ?_) hst
  subst ey
  obtain rfl : v = Value.ref a := ry
  rw [← l.K] at hxs
  exact StX.star_any I1 hxs fun us s2 I2 rv => ⟨I2.kIn, hr X l h pins s2 σ H1 xs us Q I2 rv q⟩
/-- x(e, .., *y) -/
theorem pe_glS2 (l : Like X0 X) (h : Pas X E) (hg : Gl X x) (ha : PA X (e :: es) t) (hd : (x == ("__debug__" : Str)) = false := by decide)
    (he : starEach (e :: es) X.env = (false, eval e X.env) :: starEach es X.env := by rfl) (hst : (backTo pos (starEach es X.env)).any (·.1) = true := by rfl) :
    PE X (.Call (.Name x p) (e :: es) [] pos) (tGlA X0 E x t) := by
  refine ⟨fun pins s σ H Q I ⟨f, hm, hk, q⟩ => ?_⟩
  rw [← l.mg] at hm
  rw [← l.K] at hk
  refine wpAny_Call_Name_kw (ld_glob I hg hm ?_ hd)
  exact PySem.W.callWith_S2 (h₀ := X.base) I.ok.mod.kin hk (thn (ha.run pos pins s σ H _ I q) fun us s1 ⟨vs, H1, I1, r1, r, hr, q1⟩ => ⟨I1.kIn, hr X l h pins s1 σ H1 vs us Q I1 r1 q1⟩) he hst
theorem pi_seq {tg e : Expr} (he : PE X e te) : PI X tg e (iSeq X.K te) := by
  refine ⟨fun pins s σ H R I q => ?_⟩
  refine thn (he.run pins s σ H _ I q) fun v s1 ⟨x, H1, I1, r1, a, ex, q1⟩ => ?_
  subst ex
  cases r1
  rcases q1 with ⟨⟨xs, hq⟩, q⟩ | ⟨⟨xs, hq⟩, q⟩
  · obtain ⟨its, rv, p, hz⟩ := I1.list hq
    refine wpAny_pyIter_list p.isList ?_
    refine ⟨s1.heap.objs.size, [s1.heap.objs.size], _, _, H1, rfl, I1.kept (t' := s1.toks) fun b o e => Heap.get?_push_of_some _ e, turn_list a _, ⟨_, Heap.get?_push_size _ rfl, rfl, rfl⟩, fun b hb => ?_, q⟩
    have e : b = s1.heap.objs.size := by simpa using hb
    subst e
    exact I1.fpOk (Nat.le_refl _) (I1.hok.fresh (Nat.le_refl _))
  · obtain ⟨its, rv, p, hz⟩ := I1.tuple hq
    refine wpAny_pyIter_tuple (show s1.heap.IsTuple a its.toArray from p) ?_
    refine ⟨s1.heap.objs.size, [s1.heap.objs.size], _, _, H1, rfl, I1.kept (t' := s1.toks) fun b o e => Heap.get?_push_of_some _ e, turn_tuple a _, ⟨_, Heap.get?_push_size _ rfl, rfl, rfl⟩, fun b hb => ?_, q⟩
    have e : b = s1.heap.objs.size := by simpa using hb
    subst e
    exact I1.fpOk (Nat.le_refl _) (I1.hok.fresh (Nat.le_refl _))
end
end Odd

namespace Odd
open PySem PySem.Spec PyProof.Rows L2

/-! ### more rules -/
section
variable {X0 X : Cx} {E : XK} {a b e : Expr} {rest : List Expr} {ta tb te : TE} {pos p p2 : Pos} {x m : Str}
/-- not e as a value, by any truth -/
def tNotA (X0 : Cx) (E : XK) (ta : TE) : TE := fun σ H Q => ta σ H fun x H1 => ∃ r, TrD X0 E r ∧ r x H1 fun c H2 => Q (.bl (!c)) H2
theorem pe_notA (l : Like X0 X) (h : Pas X E) (ha : PE X a ta) : PE X (.UnaryOp .Not a pos) (tNotA X0 E ta) := by
  refine ⟨fun pins s σ H Q I q => ?_⟩
  refine UnaryOp_ (thn (ha.run pins s σ H _ I q) fun v s1 ⟨x, H1, I1, r1, r, hr, q1⟩ => ?_)
  exact not_of (thn (hr X l h pins s1 σ H1 x v (fun c H2 => Q (.bl (!c)) H2) I1 r1 q1) fun c s2 ⟨H2, I2, q2⟩ => ⟨.bl (!c), H2, I2, rfl, q2⟩)
/-- a built-in class as a value; a class or def of the module as a value -/
def tBvA (X0 : Cx) (x : Str) (v : V) : TE := fun σ H Q => X0.mg x = none ∧ Q v H
theorem pe_bvA {v : V} {u : Value} (l : Like X0 X) (hg : Gl X x) (hv : bootBuiltins x = some u) (r : RelV v u) (hn : x ≠ "__name__" := by decide) (hd : (x == ("__debug__" : Str)) = false := by decide) : PE X (.Name x pos) (tBvA X0 x v) :=
  ⟨fun pins s σ H Q I ⟨hm, q⟩ => ld_blt I hg (by rw [l.mg]; exact hm) hv ⟨v, H, I, r, q⟩ hn hd⟩
def tGvA (X0 : Cx) (x : Str) : TE := fun σ H Q => ∃ f, X0.mg x = some (.ref f) ∧ Q (.ref f) H
theorem pe_gvA (l : Like X0 X) (hg : Gl X x) (hd : (x == ("__debug__" : Str)) = false := by decide) : PE X (.Name x pos) (tGvA X0 x) :=
  ⟨fun pins s σ H Q I ⟨f, hm, q⟩ => ld_glob I hg (by rw [l.mg]; exact hm) ⟨.ref f, H, I, rfl, q⟩ hd⟩
/-- x op= e -/
def tAugA (X0 : Cx) (E : XK) (i : Nat) (f : Value → Value → Sem Value) (te : TE) : TS := tAug i te (fun x y H Q => ∃ r, OpD X0 E f r ∧ r x y H Q)
theorem ps_augA {op : Operator} {i : Nat} {pos' : Pos} (l : Like X0 X) (h : Pas X E) (hN : X.N.Nodup) (hi : X.N[i]? = some x) (hx : Loc X.env.scope x) (he : PE X e te) (hf : X.fn x = true ∨ X.env.scope.names.lookup x = some .local := by first | exact .inl rfl | exact .inr rfl | assumption) :
    PS X (.AugAssign (.Name x pos') op e pos) (tAugA X0 E i (inplaceOp op) te) :=
  ps_aug hN hi hx he (fun pins s σ H x y v u Q I rx ry ⟨r, hr, q⟩ => hr X l h pins s σ H x y v u Q I rx ry q) hf
/-- an own exception class without an __init__ -/
structure ExcC (K : PySem.W.Frag) (mg : Str → Option Value) (x : Str) (C : Addr) : Prop where
  mg : mg x = some (.ref C)
  exc : PySem.W.excIn K C [.type "ValueError", .type "Exception", .type "BaseException", .type "object"] "ValueError.__new__" = true
  kp : PySem.W.keepIn K (.ref C) = true
  sub : PySem.W.subIn K (.ref C) (.type "BaseException") = some true
  ty : PySem.W.typeIn K (.ref C) = some (.type "type")
/-- raise x('..') -/
def tRaA (X0 : Cx) (W : WX) (x : Str) : TS := fun _ σ H => ∃ C, ExcC X0.K X0.mg x C ∧ W (.ref C) none σ H
theorem ps_raA {W : WX} {j : Nat} {pos' : Pos} (hc : X.calm = true) (tk : Takes X W) (hg : Gl X x) (hdb : (x == ("__debug__" : Str)) = false := by decide) :
    PS X (.Raise (some (.Call (.Name x p) [.Constant (.str m) j p2] [] pos')) none pos) (tRaA X W x) := by
  refine ⟨fun pins s σ H D I ⟨C, c, q⟩ => ?_⟩
  exact (ps_raise hc tk (pmk_own PySem.F.excBase_ValueError c.exc c.mg c.kp (raises_own c.sub c.ty) hg hdb)).run pins s σ H D I q
end
section
variable {P : Program} {w : World} {K : PySem.W.Frag} {mg : Str → Option Value} {base : Heap} {N : List Str} {qual : Str} {sc : Scope} {f : Addr} {cd : Value} {A : Around} {outer : List Env} {s : Shared} {H : Hp} {E : XK}
theorem tk_main : Takes (cxOf (L2.CX P w) P w K mg base N qual sc f cd A outer s H E) (fun cls d _ H => E cls d H) := takes_of rfl rfl rfl rfl
theorem pas_main : Pas (cxOf (L2.CX P w) P w K mg base N qual sc f cd A outer s H E) E := passes_call tk_main fun _ _ _ _ h => h
theorem own_main : PassesOwn (model P w) (cxOf (L2.CX P w) P w K mg base N qual sc f cd A outer s H E).A (cxOf (L2.CX P w) P w K mg base N qual sc f cd A outer s H E).env (cxOf (L2.CX P w) P w K mg base N qual sc f cd A outer s H E).xe := passes_of rfl
end

/-! ### the steps of a reading -/
section
variable {X0 : Cx} {E : XK} {σ : L2.St} {H : Hp} {Q : VK} {QB : Bool → Hp → Prop} {QA : List V → Hp → Prop} {D : Ends} {ta tb tc te : TE} {t u : TT} {tr : TA} {ts tz : TS} {v : V} {i : Nat} {g : TG} {f : Value → Value → Sem Value} {f1 : Value → Sem Value} {x : Str} {uu : Value}
theorem w_var (h : σ[i]? = some (some v)) (q : Q v H) : tVar i σ H Q := ⟨v, h, q⟩
theorem w_c (q : Q v H) : tC v σ H Q := q
theorem w_op (h : ta σ H fun x H1 => tb σ H1 fun y H2 => ∃ r, OpD X0 E f r ∧ r x y H2 Q) : tOpA X0 E f ta tb σ H Q := h
theorem w_un (h : ta σ H fun x H1 => ∃ r, UnD X0 E f1 r ∧ r x H1 Q) : tUnA X0 E f1 ta σ H Q := h
theorem w_at (h : ta σ H fun y H1 => ∃ r, AtD X0 E x r ∧ r y H1 Q) : tAtA X0 E x ta σ H Q := h
theorem w_ix (h : ta σ H fun x H1 => tb σ H1 fun y H2 => ∃ r, IxD X0 E r ∧ r x y H2 Q) : tIxA X0 E ta tb σ H Q := h
theorem w_tr (h : ta σ H fun x H1 => ∃ r, TrD X0 E r ∧ r x H1 QB) : tTrA X0 E ta σ H QB := h
theorem w_notA (h : ta σ H fun x H1 => ∃ r, TrD X0 E r ∧ r x H1 fun c H2 => Q (.bl (!c)) H2) : tNotA X0 E ta σ H Q := h
theorem w_ch {f2 : Value → Value → Sem Value} (h : ta σ H fun x H1 => tb σ H1 fun y H2 => ∃ r, OpD X0 E f r ∧ r x y H2 fun z H3 => ∃ k, z = .bl k ∧ (if k = true then tc σ H3 fun w' H4 => ∃ r', OpD X0 E f2 r' ∧ r' y w' H4 Q else Q (.bl false) H3)) :
    tChA X0 E f f2 ta tb tc σ H Q := h
theorem w_bi (hm : X0.mg x = none) (h : tr σ H fun vs H1 => ∃ r, CaD X0 E uu r ∧ r vs H1 Q) : tBiA X0 E x uu tr σ H Q := ⟨hm, h⟩
theorem w_gl {a : Addr} (hm : X0.mg x = some (.ref a)) (hk : PySem.W.keepIn X0.K (.ref a) = true) (h : tr σ H fun vs H1 => ∃ r, CaD X0 E (.ref a) r ∧ r vs H1 Q) : tGlA X0 E x tr σ H Q := ⟨a, hm, hk, h⟩
theorem w_glS {a : Addr} (hm : X0.mg x = some (.ref a)) (hk : PySem.W.keepIn X0.K (.ref a) = true) (h : te σ H fun y H1 => ∃ b xs, y = V.ref b ∧ (SqT X0.K H1 b xs ∨ SqL X0.K H1 b xs) ∧ ∃ r, CaD X0 E (.ref a) r ∧ r xs H1 Q) : tGlS X0 E x te σ H Q := ⟨a, hm, hk, h⟩
theorem w_bv (hm : X0.mg x = none) (q : Q v H) : tBvA X0 x v σ H Q := ⟨hm, q⟩
theorem w_gv {a : Addr} (hm : X0.mg x = some (.ref a)) (q : Q (.ref a) H) : tGvA X0 x σ H Q := ⟨a, hm, q⟩
theorem w_nil (q : QA [] H) : tNil σ H QA := q
theorem w_cons (h : ta σ H fun x H1 => tr σ H1 fun xs H2 => QA (x :: xs) H2) : tCons ta tr σ H QA := h
theorem w_tup (h : tr σ H fun xs H1 => xs.length ≤ sizeLine ∧ ∀ p, H1 p = none → Q (.ref p) (upd H1 p (.tup xs))) : tTup tr σ H Q := h
theorem w_lst (h : tr σ H fun xs H1 => xs.length ≤ sizeLine ∧ ∀ p, H1 p = none → Q (.ref p) (upd H1 p (.lst xs))) : tLst tr σ H Q := h
theorem w_test (h : ta σ H fun x H' => ∃ k, x = .bl k ∧ QB k H') : tTest ta σ H QB := h
theorem w_and (h : t σ H fun c H1 => if c = true then u σ H1 QB else QB false H1) : tAnd t u σ H QB := h
theorem w_or (h : t σ H fun c H1 => if c = true then QB true H1 else u σ H1 QB) : tOr t u σ H QB := h
theorem w_not (h : t σ H fun c H1 => QB (!c) H1) : tNot t σ H QB := h
theorem w_andV (h : ta σ H fun x H1 => ∃ c, x = .bl c ∧ if c = true then tb σ H1 Q else Q (.bl false) H1) : tAndV ta tb σ H Q := h
theorem w_orV (h : ta σ H fun x H1 => ∃ c, x = .bl c ∧ if c = true then Q (.bl true) H1 else tb σ H1 Q) : tOrV ta tb σ H Q := h
theorem w_ifx (h : t σ H fun c H1 => if c = true then ta σ H1 Q else tb σ H1 Q) : tIf t ta tb σ H Q := h
theorem w_seq (h : ts { D with nx := tz D } σ H) : tSeq ts tz D σ H := h
theorem w_asg (h : te σ H fun x H1 => g x σ H1 D.nx) : tAsg te g D σ H := h
theorem w_name {R : L2.St → Hp → Prop} (h : R (σ.set i (some v)) H) : gName i v σ H R := h
theorem w_ret (h : te σ H D.rt) : tRet te D σ H := h
theorem w_retN (h : D.rt .non H) : tRetN D σ H := h
theorem w_next (h : D.nx σ H) : tNext D σ H := h
theorem w_drop (h : te σ H fun _ H1 => D.nx σ H1) : tDrop te D σ H := h
theorem w_if (h : t σ H fun b H1 => if b = true then ts D σ H1 else tz D σ H1) : tIfS t ts tz D σ H := h
theorem w_fld {K : PySem.W.Frag} {fl : Str} (h : tb σ H fun y H1 => ta σ H1 fun x H2 => ∃ a C dx fs, x = .ref a ∧ H2 a = some (.ins C dx fs) ∧ Cls K C ∧ NoAttr K C fl ∧ fs.length < 1000 ∧ D.nx σ (upd H2 a (.ins C dx (putF fl y fs)))) : sFld K ta tb fl D σ H := h
theorem ite_d {p : Prop} [Decidable p] {A B : Prop} (h1 : p → A) (h2 : ¬ p → B) : if decide p = true then A else B := by
  by_cases h : p
  · rw [decide_eq_true h]; exact iteT (h1 h)
  · rw [decide_eq_false h]; exact iteF (h2 h)
theorem ite_n {p : Prop} [Decidable p] {A B : Prop} (h1 : ¬ p → A) (h2 : p → B) : if (!decide p) = true then A else B := by
  by_cases h : p
  · rw [decide_eq_true h]; exact iteF (h2 h)
  · rw [decide_eq_false h]; exact iteT (h1 h)
theorem ite_nf {A B : Prop} (h : A) : if (!false) = true then A else B := iteT h
theorem ite_nt {A B : Prop} (h : B) : if (!true) = true then A else B := iteF h
theorem bl_ex {k : Bool} {R : Bool → Prop} (h : R k) : ∃ c, V.bl k = V.bl c ∧ R c := ⟨k, rfl, h⟩
end
/-! ### what may be chosen: ints -/
section
variable {X0 : Cx} {E : XK} {H : Hp} {Q : VK} {i j : Int} {QB : Bool → Hp → Prop}
theorem s_add (q : Q (.int (i + j)) H) : ∃ r, OpD X0 E (binaryOp .Add) r ∧ r (.int i) (.int j) H Q := ⟨_, fun _ _ _ => op_add, i, j, rfl, rfl, q⟩
theorem s_sub (q : Q (.int (i - j)) H) : ∃ r, OpD X0 E (binaryOp .Sub) r ∧ r (.int i) (.int j) H Q := ⟨_, fun _ _ _ => op_sub, i, j, rfl, rfl, q⟩
theorem s_lt (q : Q (.bl (decide (i < j))) H) : ∃ r, OpD X0 E (compareOp .Lt) r ∧ r (.int i) (.int j) H Q := ⟨_, fun _ _ _ => op_lt, i, j, rfl, rfl, q⟩
theorem s_le (q : Q (.bl (decide (i ≤ j))) H) : ∃ r, OpD X0 E (compareOp .LtE) r ∧ r (.int i) (.int j) H Q := ⟨_, fun _ _ _ => op_le, i, j, rfl, rfl, q⟩
theorem s_gt (q : Q (.bl (decide (j < i))) H) : ∃ r, OpD X0 E (compareOp .Gt) r ∧ r (.int i) (.int j) H Q := ⟨_, fun _ _ _ => op_gt, i, j, rfl, rfl, q⟩
theorem s_ge (q : Q (.bl (decide (j ≤ i))) H) : ∃ r, OpD X0 E (compareOp .GtE) r ∧ r (.int i) (.int j) H Q := ⟨_, fun _ _ _ => op_ge, i, j, rfl, rfl, q⟩
theorem s_eqI (q : Q (.bl (decide (i = j))) H) : ∃ r, OpD X0 E (compareOp .Eq) r ∧ r (.int i) (.int j) H Q := ⟨_, fun _ _ _ => op_eq, rfl, by rw [dec_int, Bool.beq_eq_decide_eq]; exact q⟩
theorem s_neI (q : Q (.bl (!decide (i = j))) H) : ∃ r, OpD X0 E (compareOp .NotEq) r ∧ r (.int i) (.int j) H Q := ⟨_, fun _ _ _ => op_ne, rfl, by rw [dec_int, Bool.beq_eq_decide_eq]; exact q⟩
theorem s_eqB {b c : Bool} (q : Q (.bl (decide (b = c))) H) : ∃ r, OpD X0 E (compareOp .Eq) r ∧ r (.bl b) (.bl c) H Q := ⟨_, fun _ _ _ => op_eq, rfl, by rw [dec_bl, Bool.beq_eq_decide_eq]; exact q⟩
theorem s_neB {b c : Bool} (q : Q (.bl (!decide (b = c))) H) : ∃ r, OpD X0 E (compareOp .NotEq) r ∧ r (.bl b) (.bl c) H Q := ⟨_, fun _ _ _ => op_ne, rfl, by rw [dec_bl, Bool.beq_eq_decide_eq]; exact q⟩
theorem s_mul (h : CMul i j) (q : Q (.int (i * j)) H) : ∃ r, OpD X0 E (binaryOp .Mult) r ∧ r (.int i) (.int j) H Q := ⟨_, fun _ _ _ => op_mul, i, j, rfl, rfl, h, q⟩
theorem s_mod (h : 0 < j) (q : Q (.int (i % j)) H) : ∃ r, OpD X0 E (binaryOp .Mod) r ∧ r (.int i) (.int j) H Q := ⟨_, fun _ _ _ => op_mod, i, j, rfl, rfl, h, q⟩
theorem s_fdiv (h : CDiv i j) (q : Q (.int (i / j)) H) : ∃ r, OpD X0 E (binaryOp .FloorDiv) r ∧ r (.int i) (.int j) H Q := ⟨_, fun _ _ _ => op_fdiv, i, j, rfl, rfl, h, q⟩
theorem s_pow (h : CPow i j) (q : Q (.int (i ^ j.toNat)) H) : ∃ r, OpD X0 E (binaryOp .Pow) r ∧ r (.int i) (.int j) H Q := ⟨_, fun _ _ _ => op_pow, i, j, rfl, rfl, h, q⟩
theorem s_neg (q : Q (.int (-i)) H) : ∃ r, UnD X0 E (unaryOp .USub) r ∧ r (.int i) H Q := ⟨_, fun _ _ _ => un_neg, i, rfl, q⟩
theorem s_truB {b : Bool} (q : QB b H) : ∃ r, TrD X0 E r ∧ r (.bl b) H QB := ⟨fun x H Q => ∃ k, TruV X0.K x H k ∧ Q k H, fun X l _ => by rw [← l.K]; exact tru_ok, b, rfl, q⟩
theorem s_truI (q : QB (i != 0) H) : ∃ r, TrD X0 E r ∧ r (.int i) H QB := ⟨fun x H Q => ∃ k, TruV X0.K x H k ∧ Q k H, fun X l _ => by rw [← l.K]; exact tru_ok, _, rfl, q⟩
/-- isinstance(x, T), a built-in T -/
theorem s_isi {x : V} {t : Value} {n : String} {b : Bool} (ty : TyX X0.K H x t) (hk : PySem.W.kitOne X0.K t (.type n) = some b) (q : Q (.bl b) H) : ∃ r, CaD X0 E (.builtin "isinstance") r ∧ r [x, .ty n] H Q :=
  ⟨rIsi X0.K, fun X l _ => by rw [← l.K]; exact call_isi, x, .ty n, t, .type n, b, rfl, .ty n, ty, hk, q⟩
theorem s_isiI {n : String} {b : Bool} (hk : kitB "int" n = some b) (q : Q (.bl b) H) : ∃ r, CaD X0 E (.builtin "isinstance") r ∧ r [.int i, .ty n] H Q := s_isi (.base (.int i)) (kit_ty hk) q
/-- a def -/
theorem s_fn {k : Nat} {f : Addr} {sp : Sp} {vs : List V} (F : Fn X0 k f sp) (hr : Room k X0.A) (q : sp vs H Q E) : ∃ r, CaD X0 E (.ref f) r ∧ r vs H Q :=
  ⟨fun vs H Q => sp vs H Q E, fun X l h pins s σ H xs us Q I r q => call_ref (l.fn F) (l.room hr) h I r q, q⟩
/-- a class with an __init__ -/
theorem s_mk {k : Nat} {C f : Addr} {sp : Sp} {vs : List V} (M : Mk X0.K C f) (F : Fn X0 k f sp) (hr : Room (k + 1) X0.A)
    (q : ∀ x dx, H x = none → H dx = none → dx ≠ x → sp (V.ref x :: vs) (upd (upd H dx (.own x)) x (.ins C dx [])) (fun v H2 => v = .non ∧ Q (.ref x) H2) E) : ∃ r, CaD X0 E (.ref C) r ∧ r vs H Q :=
  ⟨fun vs H Q => ∀ x dx, H x = none → H dx = none → dx ≠ x → sp (V.ref x :: vs) (upd (upd H dx (.own x)) x (.ins C dx [])) (fun v H2 => v = .non ∧ Q (.ref x) H2) E,
    fun X l h pins s σ H xs us Q I r q => StX.run_makeR (by rw [l.K]; exact M) (l.fn F) (l.room hr) h I r q, q⟩
/-- x.f, an attribute of the instance -/
theorem s_fld {a C dx : Addr} {fs : List (Str × V)} {f : Str} {v : V} (e : H a = some (.ins C dx fs)) (c : Cls X0.K C) (n : NoAttr X0.K C f) (lk : fs.lookup f = some v) (q : Q v H) : ∃ r, AtD X0 E f r ∧ r (.ref a) H Q :=
  ⟨fun x H Q => ∃ a C dx fs v, x = .ref a ∧ H a = some (.ins C dx fs) ∧ Cls X0.K C ∧ NoAttr X0.K C f ∧ fs.lookup f = some v ∧ Q v H,
    fun X l h b pins s σ H x u Q I rx ⟨a, C, dx, fs, v, ex, e, c, n, lk, q⟩ => by
      subst ex
      obtain rfl : u = Value.ref a := rx
      rw [← l.K] at c n
      exact getattr_ok I e c n lk fun u' s2 I2 ru => ⟨v, H, I2, ru, q⟩, a, C, dx, fs, v, rfl, e, c, n, lk, q⟩
end
end Odd

namespace Odd
open PySem PySem.Spec PyProof.Rows L2

/-- x op n with n an int: neither side's type meddles -/
structure OpInt (K : PySem.W.Frag) (C : Addr) (m r : Str) : Prop where
  rr : PySem.W.findIn K (.ref C) r = some none
  h1 : ∃ fo, PySem.W.findIn K (.type "int") m = some fo
  h2 : ∃ ro, PySem.W.findIn K (.type "int") r = some ro
  sb : PySem.W.subIn K (.type "int") (.ref C) = some false
/-- x != y by the own == -/
structure OwnNe (K : PySem.W.Frag) (C : Addr) : Prop where
  ne : PySem.W.findIn K (.ref C) "__ne__" = some (some (.builtin "object.__ne__"))
  own : PySem.W.notFirst K C (.ref C) = true
  tup : PySem.W.notFirst K C (.type "tuple") = true

section
variable {X : Cx} {CX : CXT} {pins : List (Addr × Obj)} {σ : L2.St} {H : Hp} {s : Shared} {a C dx g : Addr} {fs : List (Str × V)} {n : Nat} {sp : Sp} {E : XK}

/-- x == y (and <, ..), x an instance of the class at C, y of a type that does not go first -/
def rCmpI (K : PySem.W.Frag) (C : Addr) (sp : Sp) (E : XK) : R2 := fun x y H Q => ∃ a dx fs t, x = .ref a ∧ H a = some (.ins C dx fs) ∧ TyX K H y t ∧ PySem.W.notFirst K C t = true ∧ sp [x, y] H Q E
theorem op_cmpI {op : CmpOp} (hop : ∀ a b, compareOp op a b = richCompare op a b) (hs : PySem.W.findIn X.K (.ref C) (cmpInfo op).2.1 = some (some (.ref g))) (hf : PySem.W.isFn X.K (.ref g) = true) (F : FnR X.prog X.w X.K X.mg X.base CX n g sp)
    (hr : Room n X.A) (hx : Passes CX X E) : OpR X (compareOp op) (rCmpI X.K C sp E) := by
  intro pins s σ H x y v u Q I rx ry h
  obtain ⟨a, dx, fs, t, rfl, ha, ty, hn, q⟩ := h
  cases (show v = Value.ref a from rx)
  obtain ⟨ox, od, J⟩ := inst_at I ha
  obtain ⟨PP, Z, hz, _⟩ := kit_of I ry ty
  obtain ⟨m, hF⟩ := I.fr
  rw [hop]
  refine PySem.W.cmp_K (op := op) (tb := t) hr.units0 hF I.ok.mod.kin J (Z.ty _ _ I.kIn hz) hn hs hf (wpAny_mono (call_ref (vs := [.ref a, y]) F hr hx I (.cons rfl (.cons ry .nil)) q) (fun w s' z => ?_) fun _ _ x => x)
  obtain ⟨z', H', I', rz, qz⟩ := z
  exact SlX.cmpback rz ⟨z', H', I', rz, qz⟩

/-- x[i] -/
def rIxI (C : Addr) (sp : Sp) (E : XK) : R2 := fun x y H Q => ∃ a dx fs, x = .ref a ∧ H a = some (.ins C dx fs) ∧ sp [x, y] H Q E
theorem fnIn_fun {K : PySem.W.Frag} {x qual : Str} {st : Stmt} {f : Addr} {fd : FuncData} (F : Fun K x qual st f fd) : PySem.W.fnIn K f = true := by
  obtain ⟨oc, od, kV, doc, pm, an, cdv, ct, osl, rfl, lk, hcd⟩ := F.ex
  unfold PySem.W.fnIn
  rw [lk]
theorem ix_ins (hs : PySem.W.findIn X.K (.ref C) "__getitem__" = some (some (.ref g))) (hf : PySem.W.fnIn X.K g = true) (hfn : PySem.W.isFn X.K (.ref g) = true) (F : FnR X.prog X.w X.K X.mg X.base CX n g sp)
    (hr : Room (n + 1) X.A) (hx : Passes CX X E) : IxO X (rIxI C sp E) := by
  intro value slice pins s σ H x y v u Q I rx ry h _ hsl
  obtain ⟨a, dx, fs, rfl, ha, q⟩ := h
  cases (show v = Value.ref a from rx)
  obtain ⟨ox, od, J⟩ := inst_at I ha
  obtain ⟨m, hF⟩ := I.fr
  exact PySem.W.sub_K hF I.ok.mod.kin J hs hf hfn (call_in1 (vs := [.ref a, y]) F hr hx I (.cons rfl (.cons ry .nil)) q) hsl
theorem ix_plain {r : R2} (h : IxR X r) : IxO X r := fun value slice pins s σ H x y v u Q I rx ry q h1 _ => h value slice pins s σ H x y v u Q I rx ry q h1

/-- a property that raises nothing -/
def rPropI (C : Addr) (sp : Sp) : V → Hp → VK → Prop := fun x H Q => ∃ a dx fs, x = .ref a ∧ H a = some (.ins C dx fs) ∧ sp [x] H Q E0
theorem at_prop {f : Str} {p : Addr} (c : Cls X.K C) (hp : PropOf X.K C f p g) (F : FnR X.prog X.w X.K X.mg X.base (L2.CX X.prog X.w) n g sp) (hr : Room (n + 1) X.A) : AtR X f (rPropI C sp) := by
  intro b pins s σ H x v Q I rx h
  obtain ⟨a, dx, fs, rfl, ha, q⟩ := h
  cases (show v = Value.ref a from rx)
  obtain ⟨ox, od, J⟩ := inst_at I ha
  obtain ⟨rest, hrec⟩ := hp.rec_
  have I1 : Inv X pins σ H { s with toks := s.toks + 1 } := I.tok (s.toks + 1)
  have hc : (PySem.W.clsIn X.K C).isSome = true := by
    obtain ⟨cd, hc, _⟩ := PySem.W.any_some c.hd
    rw [hc]
    rfl
  refine PySem.W.get_bind I.kIn J (PySem.W.plainGet_of (c.get f)).1 (PySem.W.findObj_data hc hp.at_ hp.get hp.tak) (PySem.W.plainGet_of (c.get f)).2 (wpAny_call (PySem.W.prop_get (s := { s with toks := s.toks + 1 }) I.kIn hrec ?_))
  refine codeAny_mono (F X.A.in1 X.stack { s with toks := s.toks + 1 } H [.ref a] [.ref a] Q E0 hr.in1 I1.env0.in1 (.cons rfl .nil) q) fun r s' hq => ?_
  cases r with
  | error er =>
    obtain ⟨_, _, _, _, _, _, _, _, _, _, _, _, z⟩ := hq
    exact z.elim
  | ok fl =>
    cases fl with
    | ret u =>
      obtain ⟨v, H', I3, rv, q3⟩ := I1.after hq
      exact wpAny_of_eq (PySem.W.handedOut_of (handed_of rv)) ⟨v, H', I3, rv, q3⟩
    | next => exact False.elim hq
    | brk => exact False.elim hq
    | cont => exact False.elim hq
end

section
variable {X0 : Cx} {E : XK} {H : Hp} {Q : VK} {k : Nat} {C g a b dx dy : Addr} {fs gs : List (Str × V)} {sp : Sp} {m f : Str} {y : V}
/-- both instances of one class -/
theorem s_opSame {op : Operator} (hc : PySem.W.selfFirst X0.K C = true) (M : Meth X0.K C m g) (hm : PySem.dunder op.info.2 = m) (F : Fn X0 k g sp) (hr : Room k X0.A) (ha : H a = some (.ins C dx fs)) (hb : H b = some (.ins C dy gs)) (q : sp [.ref a, .ref b] H Q E) :
    ∃ r, OpD X0 E (binaryOp op) r ∧ r (.ref a) (.ref b) H Q := by
  subst hm
  exact ⟨rOpSame C sp E, fun X l h => op_same (by rw [l.K]; exact hc) (by rw [l.K]; exact M.at_) (by rw [l.K]; exact M.fn) (l.fn F) (l.room hr) h, a, b, dx, dy, fs, gs, rfl, rfl, ha, hb, q⟩
theorem s_opInt {op : Operator} {r' : Str} {i : Int} (hc : PySem.W.selfFirst X0.K C = true) (M : Meth X0.K C m g) (O : OpInt X0.K C m r') (hm : PySem.dunder op.info.2 = m) (hr' : dunderR op.info.2 = r') (F : Fn X0 k g sp) (hr : Room k X0.A) (ha : H a = some (.ins C dx fs))
    (q : sp [.ref a, .int i] H Q E) : ∃ r, OpD X0 E (binaryOp op) r ∧ r (.ref a) (.int i) H Q := by
  subst hm hr'
  obtain ⟨fo, h1⟩ := O.h1
  obtain ⟨ro, h2⟩ := O.h2
  exact ⟨rOpInt C sp E, fun X l h => op_int (by rw [l.K]; exact hc) (by rw [l.K]; exact M.at_) (by rw [l.K]; exact M.fn) (by rw [l.K]; exact O.rr) (.inl rfl) (by rw [l.K]; exact h1) (by rw [l.K]; exact h2) (by rw [l.K]; exact O.sb) (l.fn F) (l.room hr) h,
    a, i, dx, fs, rfl, rfl, ha, q⟩
theorem s_negI (M : Meth X0.K C "__neg__" g) (F : Fn X0 k g sp) (hr : Room k X0.A) (ha : H a = some (.ins C dx fs)) (q : sp [.ref a] H Q E) : ∃ r, UnD X0 E (unaryOp .USub) r ∧ r (.ref a) H Q :=
  ⟨rNeg C sp E, fun X l h => un_ins (by rw [l.K]; exact M.at_) (by rw [l.K]; exact M.fn) (l.fn F) (l.room hr) h, a, dx, fs, rfl, ha, q⟩
theorem s_absI (M : Meth X0.K C "__abs__" g) (F : Fn X0 k g sp) (hr : Room (k + 1) X0.A) (ha : H a = some (.ins C dx fs)) (q : sp [.ref a] H Q E) : ∃ r, CaD X0 E (.builtin "abs") r ∧ r [.ref a] H Q :=
  ⟨rAbsI C sp E, fun X l h => call_absI (by rw [l.K]; exact M.at_) (by rw [l.K]; exact M.fn) (l.fn F) (l.room hr) h, a, dx, fs, rfl, ha, q⟩
theorem s_lenI (M : Meth X0.K C "__len__" g) (F : Fn X0 k g sp) (hr : Room (k + 1) X0.A) (ha : H a = some (.ins C dx fs)) (q : sp [.ref a] H (fun z H' => ∃ i, z = .int i ∧ 0 ≤ i ∧ i < 2 ^ 63 ∧ Q z H') E) : ∃ r, CaD X0 E (.builtin "len") r ∧ r [.ref a] H Q :=
  ⟨rLenI C sp E, fun X l h => call_lenI (by rw [l.K]; exact M.at_) (by rw [l.K]; exact M.fn) (l.fn F) (l.room hr) h, a, dx, fs, rfl, ha, q⟩
theorem s_ixI {x qual : Str} {st : Stmt} {fd : FuncData} (M : Meth X0.K C "__getitem__" g) (U : Fun X0.K x qual st g fd) (F : Fn X0 k g sp) (hr : Room (k + 1) X0.A) (ha : H a = some (.ins C dx fs)) (q : sp [.ref a, y] H Q E) :
    ∃ r, IxD X0 E r ∧ r (.ref a) y H Q :=
  ⟨rIxI C sp E, fun X l h => ix_ins (by rw [l.K]; exact M.at_) (by rw [l.K]; exact fnIn_fun U) (by rw [l.K]; exact M.fn) (l.fn F) (l.room hr) h, a, dx, fs, rfl, ha, q⟩
theorem s_prop {p : Addr} (c : Cls X0.K C) (hp : PropOf X0.K C f p g) (F : Fn X0 k g sp) (hr : Room (k + 1) X0.A) (ha : H a = some (.ins C dx fs)) (q : sp [.ref a] H Q E0) : ∃ r, AtD X0 E f r ∧ r (.ref a) H Q :=
  ⟨rPropI C sp, fun X l h => at_prop (by rw [l.K]; exact c) (by rw [l.K]; exact hp) (l.fn F) (l.room hr), a, dx, fs, rfl, ha, q⟩
theorem s_eqOwn {t : Value} (M : Meth X0.K C "__eq__" g) (F : Fn X0 k g sp) (hr : Room k X0.A) (ha : H a = some (.ins C dx fs)) (ty : TyX X0.K H y t) (hn : PySem.W.notFirst X0.K C t = true) (q : sp [.ref a, y] H Q E) :
    ∃ r, OpD X0 E (compareOp .Eq) r ∧ r (.ref a) y H Q :=
  ⟨rCmpI X0.K C sp E, fun X l h => by rw [← l.K]; exact op_cmpI (op := .Eq) (fun _ _ => rfl) (by rw [l.K]; exact M.at_) (by rw [l.K]; exact M.fn) (l.fn F) (l.room hr) h, a, dx, fs, t, rfl, ha, ty, hn, q⟩
theorem s_ixL {xs : List V} {i : Int} {v : V} (h : SqL X0.K H a xs) (ha : atI xs i = some v) (q : Q v H) : ∃ r, IxD X0 E r ∧ r (.ref a) (.int i) H Q :=
  ⟨rIxL X0.K, fun X l _ => by rw [← l.K]; exact ix_plain ix_list, a, xs, i, v, rfl, rfl, h, ha, q⟩
theorem s_ixT {xs : List V} {i : Int} {v : V} (h : SqT X0.K H a xs) (ha : atI xs i = some v) (q : Q v H) : ∃ r, IxD X0 E r ∧ r (.ref a) (.int i) H Q :=
  ⟨rIxT X0.K, fun X l _ => by rw [← l.K]; exact ix_plain ix_tup, a, xs, i, v, rfl, rfl, h, ha, q⟩
/-- len of a list, of a tuple -/
theorem s_lenL {xs : List V} (h : SqL X0.K H a xs) (q : Q (.int xs.length) H) : ∃ r, CaD X0 E (.builtin "len") r ∧ r [.ref a] H Q :=
  ⟨fun vs H Q => ∃ x n, vs = [x] ∧ LenV X0.K x H n ∧ Q (.int n) H, fun X l _ => by rw [← l.K]; exact call_len, .ref a, xs.length, rfl, .inl ⟨xs, h, rfl⟩, q⟩
theorem s_lenT {xs : List V} (h : SqT X0.K H a xs) (q : Q (.int xs.length) H) : ∃ r, CaD X0 E (.builtin "len") r ∧ r [.ref a] H Q :=
  ⟨fun vs H Q => ∃ x n, vs = [x] ∧ LenV X0.K x H n ∧ Q (.int n) H, fun X l _ => by rw [← l.K]; exact call_len, .ref a, xs.length, rfl, .inr ⟨xs, h, rfl⟩, q⟩
end

/-! ### a def's promise by positional values -/
section
variable {P : Program} {w : World} {K : PySem.W.Frag} {mg : Str → Option Value} {base : Heap}
theorem fnr_ok {x qual : Str} {st : Stmt} {f : Addr} {fd : FuncData} {N ps : List Str} {k : Nat} {sp : Sp} (F : Fun K x qual st f fd) (S : FnScope N ps (defScope st)) (hb : Binds K fd ps []) (len : ∀ vs H Q E, sp vs H Q E → vs.length = ps.length)
    (hbody : ∀ (cdv : Value) (A : Around) (outer : List Env) (s : Shared) (H : Hp) (vs : List V) (Q : VK) (E : XK), Room k (A.deeper (envOfC qual (defScope st) s.heap.objs.size f cdv)) → sp vs H Q E →
      ∃ t, PSs (cxOf (L2.CX P w) P w K mg base N qual (defScope st) f cdv A outer s H E) (defBody st) t ∧ t { nx := fun _ H' => Q .non H', rt := Q } (start N vs) H) : FnR P w K mg base (L2.CX P w) (k + 1) f sp :=
  ((F.okX S len hbody).raw hb .nil).imp fun vs H Q E h => by rw [List.append_nil]; exact h
theorem fnr_star {x qual pv : Str} {st : Stmt} {f : Addr} {fd : FuncData} {N ps : List Str} {k : Nat} {sp : Sp} (F : Fun K x qual st f fd) (S : FnScope N (ps ++ [pv]) (defScope st))
    (hb : ∀ (kV doc pm : Value) (an : Option Addr) (cdv ct : Value) (us rest : List Value), us.length = ps.length → bindArgs (PySem.W.fnOf x qual (defArgs st) (defBody st) (defScope st) .none kV doc pm an cdv ct) ⟨us ++ rest, []⟩ = (newTuple rest >>= fun t => pure (ps.zip us ++ [(pv, t)])))
    (hbody : ∀ (cdv : Value) (A : Around) (outer : List Env) (s : Shared) (H : Hp) (vs : List V) (Q : VK) (E : XK), Room k (A.deeper (envOfC qual (defScope st) s.heap.objs.size f cdv)) → sp vs H Q E →
      ∃ t, PSs (cxOf (L2.CX P w) P w K mg base N qual (defScope st) f cdv A outer s H E) (defBody st) t ∧ t { nx := fun _ H' => Q .non H', rt := Q } (start N vs) H) :
    FnR P w K mg base (L2.CX P w) (k + 1) f (fun vs H Q E => ∃ ws rest, vs = ws ++ rest ∧ ws.length = ps.length ∧ rest.length ≤ sizeLine ∧ ∀ p, H p = Option.none → sp (ws ++ [V.ref p]) (upd H p (.tup rest)) Q E) := by
  obtain ⟨oc, od, kV, doc, pm, an, cdv, ct, osl, rfl, lk, hcd⟩ := F.ex
  exact StX.fn_star lk hcd S StX.cxUp (hb kV doc pm an cdv ct) fun A outer s H vs Q E hr hsp => hbody cdv A outer s H vs Q E hr hsp
theorem fnr_star1 {x qual p1 pv : Str} {st : Stmt} {f : Addr} {fd : FuncData} {N : List Str} {k : Nat} {sp : Sp} (F : Fun K x qual st f fd) (S : FnScope N ([p1] ++ [pv]) (defScope st))
    (h0 : ∀ (kV doc pm : Value) (an : Option Addr) (cdv ct a : Value), bindArgs (PySem.W.fnOf x qual (defArgs st) (defBody st) (defScope st) .none kV doc pm an cdv ct) ⟨[a], []⟩ = (newTuple [] >>= fun t => pure [(p1, a), (pv, t)]))
    (h1 : ∀ (kV doc pm : Value) (an : Option Addr) (cdv ct a r : Value) (rs : List Value), bindArgs (PySem.W.fnOf x qual (defArgs st) (defBody st) (defScope st) .none kV doc pm an cdv ct) ⟨a :: r :: rs, []⟩ = (newTuple (r :: rs) >>= fun t => pure [(p1, a), (pv, t)]))
    (hbody : ∀ (cdv : Value) (A : Around) (outer : List Env) (s : Shared) (H : Hp) (vs : List V) (Q : VK) (E : XK), Room k (A.deeper (envOfC qual (defScope st) s.heap.objs.size f cdv)) → sp vs H Q E →
      ∃ t, PSs (cxOf (L2.CX P w) P w K mg base N qual (defScope st) f cdv A outer s H E) (defBody st) t ∧ t { nx := fun _ H' => Q .non H', rt := Q } (start N vs) H) :
    FnR P w K mg base (L2.CX P w) (k + 1) f (fun vs H Q E => ∃ ws rest, vs = ws ++ rest ∧ ws.length = [p1].length ∧ rest.length ≤ sizeLine ∧ ∀ p, H p = Option.none → sp (ws ++ [V.ref p]) (upd H p (.tup rest)) Q E) :=
  fnr_star F S (fun kV doc pm an cdv ct us rest hl => StX.bind_star1 (B := fun l => bindArgs (PySem.W.fnOf x qual (defArgs st) (defBody st) (defScope st) .none kV doc pm an cdv ct) ⟨l, []⟩) (h0 kV doc pm an cdv ct) (h1 kV doc pm an cdv ct) us rest hl) hbody
end
end Odd

namespace Odd
open PySem PySem.Spec PyProof.Rows L2
/-! ### sum, max, min of a tuple of ints -/
section
variable {prog : Program} {w : World} {A : Around} {E : Value → Shared → Prop} {s : Shared} {l : Addr} {its : List Value} {ns : List Int} {Q : Value → Shared → Prop}
theorem tup_walk {xs : Array (Int × Tok)} {items : Array Value} {R : Value → Shared → Prop} (hl : s.heap.IsTuple l items)
    (h : ∀ s₂ : Shared, s₂ = { s with heap := s₂.heap } → (∀ b o, s.heap.get? b = some o → s₂.heap.get? b = some o) → (s₂.heap.IsTupleIter s.heap.objs.size l 0 ∧ s₂.heap.IsTuple l items) → (∀ b ∈ [s.heap.objs.size, l], b < s₂.heap.objs.size) → l ≠ s.heap.objs.size → R (.ref s.heap.objs.size) s₂) :
    wpAny (model prog w) A (pyIter (.ref l)) R E s := by
  have hlt : l < s.heap.objs.size := by
    obtain ⟨o, ho, _⟩ := hl
    exact Heap.lt_size ho
  refine wpAny_pyIter_tuple hl (h _ rfl (fun b o e => Heap.get?_push_of_some _ e) ⟨⟨_, Heap.get?_push_size _ rfl, rfl, rfl⟩, hl.at fun o e => Heap.get?_push_of_some _ e⟩ (fun b hb => ?_) (Nat.ne_of_lt hlt))
  show b < (s.heap.push _).objs.size
  rw [Heap.size_push]
  simp only [List.mem_cons, List.not_mem_nil, or_false] at hb
  rcases hb with rfl | rfl
  · exact Nat.lt_succ_self _
  · exact Nat.lt_succ_of_lt hlt
theorem old_of {s s₂ : Shared} {h' : Heap} (k : ∀ b o, s.heap.get? b = some o → s₂.heap.get? b = some o) (hk : ∀ b o, b ∉ [s.heap.objs.size] → s₂.heap.get? b = some o → h'.get? b = some o) : ∀ b o, s.heap.get? b = some o → h'.get? b = some o := fun b o e =>
  hk b o (fun z => by rw [List.mem_singleton] at z; subst z; exact absurd (Heap.lt_size e) (Nat.lt_irrefl _)) (k b o e)
theorem sumT_raw (hh : A.handled = none) (hl : s.heap.IsTuple l its.toArray) (hi : IntsAre its ns)
    (h : ∀ h' tk t', (∀ b o, s.heap.get? b = some o → h'.get? b = some o) → Q (.int ns.sum t') { s with heap := h', toks := tk }) : wpAny (model prog w) A (call (.builtin "sum") [.ref l]) Q E s := by
  obtain ⟨xs, e⟩ := hi.allInts.items
  have hn : numsOf (intItems xs).toList = ns := by rw [← e]; exact hi.numsOf
  rw [nums_intItems] at hn
  rw [e] at hl
  refine call_sum_walkG (tup_walk (xs := xs) hl fun s₂ e2 k st hfp hne => ?_)
  refine ⟨_, _, _, _, _, _, numAt xs, rfl, Walks.tuple (A := A.in1) hh _ l hne (intItems xs), st, hfp, (fun _ _ => intItems_at), fun h' tk t' hk => ?_⟩
  have z := h h' tk t' (old_of k hk)
  have e3 : (intItems xs).size = xs.size := by simp [intItems]
  rw [e3, preSum_eq, List.take_of_length_le (by simp), hn]
  rw [e2]
  exact z
theorem maxT_raw (hh : A.handled = none) (hl : s.heap.IsTuple l its.toArray) (hi : IntsAre its ns) (hne : 0 < ns.length)
    (h : ∀ h' tk M t', (∀ b o, s.heap.get? b = some o → h'.get? b = some o) → M ∈ ns → (∀ a, a ∈ ns → a ≤ M) → Q (.int M t') { s with heap := h', toks := tk }) : wpAny (model prog w) A (call (.builtin "max") [.ref l]) Q E s := by
  obtain ⟨xs, e⟩ := hi.allInts.items
  have hn : numsOf (intItems xs).toList = ns := by rw [← e]; exact hi.numsOf
  rw [nums_intItems] at hn
  subst hn
  rw [e] at hl
  have hsz : 0 < xs.size := by simpa using hne
  refine call_max_walk (tup_walk (xs := xs) hl fun s₂ e2 k st hfp hne => ?_)
  refine ⟨_, _, _, _, _, _, _, rfl, Walks.tuple (A := A.in1) hh _ l hne (intItems xs), st, hfp, by simpa [intItems] using hsz, CmpOf.ints_gt (numAt xs) (fun _ _ => intItems_at), fun v h' tk hP hk => ?_⟩
  have hP' : (intItems xs)[argBest (fun i j => decide (numAt xs i > numAt xs j)) (xs.size - 1)]? = some v := by simpa [intItems] using hP
  obtain ⟨t, rfl⟩ := intItems_at hP'
  obtain ⟨h1, h2⟩ := argBest_gt (numAt xs) (xs.size - 1)
  rw [e2]
  refine h h' tk _ t (old_of k hk) ?_ fun a ha => ?_
  · rw [numAt_eq]; exact PySem.getD_mem (by rw [List.length_map, Array.length_toList]; omega)
  · obtain ⟨j, hj, rfl⟩ := mem_getD ha
    rw [List.length_map, Array.length_toList] at hj
    rw [← numAt_eq]; exact h2 j (by omega)
theorem minT_raw (hh : A.handled = none) (hl : s.heap.IsTuple l its.toArray) (hi : IntsAre its ns) (hne : 0 < ns.length)
    (h : ∀ h' tk M t', (∀ b o, s.heap.get? b = some o → h'.get? b = some o) → M ∈ ns → (∀ a, a ∈ ns → M ≤ a) → Q (.int M t') { s with heap := h', toks := tk }) : wpAny (model prog w) A (call (.builtin "min") [.ref l]) Q E s := by
  obtain ⟨xs, e⟩ := hi.allInts.items
  have hn : numsOf (intItems xs).toList = ns := by rw [← e]; exact hi.numsOf
  rw [nums_intItems] at hn
  subst hn
  rw [e] at hl
  have hsz : 0 < xs.size := by simpa using hne
  refine call_min_walk (tup_walk (xs := xs) hl fun s₂ e2 k st hfp hne => ?_)
  refine ⟨_, _, _, _, _, _, _, rfl, Walks.tuple (A := A.in1) hh _ l hne (intItems xs), st, hfp, by simpa [intItems] using hsz, CmpOf.ints_lt (numAt xs) (fun _ _ => intItems_at), fun v h' tk hP hk => ?_⟩
  have hP' : (intItems xs)[argBest (fun i j => decide (numAt xs i < numAt xs j)) (xs.size - 1)]? = some v := by simpa [intItems] using hP
  obtain ⟨t, rfl⟩ := intItems_at hP'
  obtain ⟨h1, h2⟩ := argBest_lt (numAt xs) (xs.size - 1)
  rw [e2]
  refine h h' tk _ t (old_of k hk) ?_ fun a ha => ?_
  · rw [numAt_eq]; exact PySem.getD_mem (by rw [List.length_map, Array.length_toList]; omega)
  · obtain ⟨j, hj, rfl⟩ := mem_getD ha
    rw [List.length_map, Array.length_toList] at hj
    rw [← numAt_eq]; exact h2 j (by omega)
end
def rSumT (K : PySem.W.Frag) : List V → Hp → VK → Prop := fun vs H Q => ∃ (a : Addr) (ns : List Int), vs = [V.ref a] ∧ SqT K H a (ns.map V.int) ∧ Q (.int ns.sum) H
def rMaxT (K : PySem.W.Frag) : List V → Hp → VK → Prop := fun vs H Q => ∃ (a : Addr) (ns : List Int), vs = [V.ref a] ∧ SqT K H a (ns.map V.int) ∧ 0 < ns.length ∧ ∀ m, m ∈ ns → (∀ y, y ∈ ns → y ≤ m) → Q (.int m) H
def rMinT (K : PySem.W.Frag) : List V → Hp → VK → Prop := fun vs H Q => ∃ (a : Addr) (ns : List Int), vs = [V.ref a] ∧ SqT K H a (ns.map V.int) ∧ 0 < ns.length ∧ ∀ m, m ∈ ns → (∀ y, y ∈ ns → m ≤ y) → Q (.int m) H
section
variable {X : Cx}
theorem cr_sumT (hc : X.calm = true) : CallR X (.builtin "sum") (rSumT X.K) := by
  intro pins s σ H vs us Q I r h
  obtain ⟨a, ns, rfl, hs, q⟩ := h
  obtain ⟨its, rv, hl, _⟩ := I.tuple hs
  rw [Vals.ref1 r]
  exact sumT_raw (I.ok.hd hc) hl rv.ints fun h' tk t' hk => ⟨.int _, H, I.kept hk, ⟨_, rfl⟩, q⟩
theorem cr_maxT (hc : X.calm = true) : CallR X (.builtin "max") (rMaxT X.K) := by
  intro pins s σ H vs us Q I r h
  obtain ⟨a, ns, rfl, hs, hne, q⟩ := h
  obtain ⟨its, rv, hl, _⟩ := I.tuple hs
  rw [Vals.ref1 r]
  exact maxT_raw (I.ok.hd hc) hl rv.ints hne fun h' tk m t' hk h1 h2 => ⟨.int _, H, I.kept hk, ⟨_, rfl⟩, q m h1 h2⟩
theorem cr_minT (hc : X.calm = true) : CallR X (.builtin "min") (rMinT X.K) := by
  intro pins s σ H vs us Q I r h
  obtain ⟨a, ns, rfl, hs, hne, q⟩ := h
  obtain ⟨its, rv, hl, _⟩ := I.tuple hs
  rw [Vals.ref1 r]
  exact minT_raw (I.ok.hd hc) hl rv.ints hne fun h' tk m t' hk h1 h2 => ⟨.int _, H, I.kept hk, ⟨_, rfl⟩, q m h1 h2⟩
end
/-- the greatest, the least of ints (0 of none) -/
def maxI : List Int → Int
  | [] => 0
  | [a] => a
  | a :: b :: r => max a (maxI (b :: r))
def minI : List Int → Int
  | [] => 0
  | [a] => a
  | a :: b :: r => min a (minI (b :: r))
theorem maxI_spec : ∀ (l : List Int), l ≠ [] → maxI l ∈ l ∧ ∀ y ∈ l, y ≤ maxI l
  | [], h => absurd rfl h
  | [a], _ => ⟨List.mem_singleton.mpr rfl, fun y hy => by rw [List.mem_singleton] at hy; subst hy; exact Int.le_refl _⟩
  | a :: b :: r, _ => by
    obtain ⟨h1, h2⟩ := maxI_spec (b :: r) (by simp)
    refine ⟨?_, fun y hy => ?_⟩
    · show max a (maxI (b :: r)) ∈ _
      rcases Int.le_total a (maxI (b :: r)) with q | q
      · rw [Int.max_eq_right q]; exact List.mem_cons_of_mem _ h1
      · rw [Int.max_eq_left q]; exact List.mem_cons_self
    · show y ≤ max a (maxI (b :: r))
      rcases List.mem_cons.mp hy with rfl | hy
      · exact Int.le_max_left _ _
      · exact Int.le_trans (h2 y hy) (Int.le_max_right _ _)
theorem minI_spec : ∀ (l : List Int), l ≠ [] → minI l ∈ l ∧ ∀ y ∈ l, minI l ≤ y
  | [], h => absurd rfl h
  | [a], _ => ⟨List.mem_singleton.mpr rfl, fun y hy => by rw [List.mem_singleton] at hy; subst hy; exact Int.le_refl _⟩
  | a :: b :: r, _ => by
    obtain ⟨h1, h2⟩ := minI_spec (b :: r) (by simp)
    refine ⟨?_, fun y hy => ?_⟩
    · show min a (minI (b :: r)) ∈ _
      rcases Int.le_total a (minI (b :: r)) with q | q
      · rw [Int.min_eq_left q]; exact List.mem_cons_self
      · rw [Int.min_eq_right q]; exact List.mem_cons_of_mem _ h1
    · show min a (minI (b :: r)) ≤ y
      rcases List.mem_cons.mp hy with rfl | hy
      · exact Int.min_le_left _ _
      · exact Int.le_trans (Int.min_le_right _ _) (h2 y hy)
theorem max_one {l : List Int} {m : Int} (h1 : m ∈ l) (h2 : ∀ y ∈ l, y ≤ m) : m = maxI l := by
  obtain ⟨a, b⟩ := maxI_spec l (fun e => by subst e; cases h1)
  have := h2 _ a
  have := b _ h1
  omega
theorem min_one {l : List Int} {m : Int} (h1 : m ∈ l) (h2 : ∀ y ∈ l, m ≤ y) : m = minI l := by
  obtain ⟨a, b⟩ := minI_spec l (fun e => by subst e; cases h1)
  have := h2 _ a
  have := b _ h1
  omega
section
variable {X0 : Cx} {E : XK} {H : Hp} {Q : VK} {a : Addr} {ns : List Int}
theorem s_sumT (hc : X0.calm = true) (h : SqT X0.K H a (ns.map V.int)) (q : Q (.int ns.sum) H) : ∃ r, CaD X0 E (.builtin "sum") r ∧ r [.ref a] H Q :=
  ⟨rSumT X0.K, fun X l _ => by rw [← l.K]; exact cr_sumT (l.calm.trans hc), a, ns, rfl, h, q⟩
theorem s_sumL (hc : X0.calm = true) (h : SqL X0.K H a (ns.map V.int)) (q : Q (.int ns.sum) H) : ∃ r, CaD X0 E (.builtin "sum") r ∧ r [.ref a] H Q :=
  ⟨rSum X0.K, fun X l _ => by rw [← l.K]; exact cr_sum (l.calm.trans hc), a, ns, rfl, h, q⟩
theorem s_maxT (hc : X0.calm = true) (h : SqT X0.K H a (ns.map V.int)) (hn : ns ≠ []) (q : Q (.int (maxI ns)) H) : ∃ r, CaD X0 E (.builtin "max") r ∧ r [.ref a] H Q :=
  ⟨rMaxT X0.K, fun X l _ => by rw [← l.K]; exact cr_maxT (l.calm.trans hc), a, ns, rfl, h, List.length_pos_iff.mpr hn, fun m h1 h2 => by rw [max_one h1 h2]; exact q⟩
theorem s_minT (hc : X0.calm = true) (h : SqT X0.K H a (ns.map V.int)) (hn : ns ≠ []) (q : Q (.int (minI ns)) H) : ∃ r, CaD X0 E (.builtin "min") r ∧ r [.ref a] H Q :=
  ⟨rMinT X0.K, fun X l _ => by rw [← l.K]; exact cr_minT (l.calm.trans hc), a, ns, rfl, h, List.length_pos_iff.mpr hn, fun m h1 h2 => by rw [min_one h1 h2]; exact q⟩
theorem s_maxL (hc : X0.calm = true) (h : SqL X0.K H a (ns.map V.int)) (hn : ns ≠ []) (q : Q (.int (maxI ns)) H) : ∃ r, CaD X0 E (.builtin "max") r ∧ r [.ref a] H Q :=
  ⟨rMax X0.K, fun X l _ => by rw [← l.K]; exact cr_max (l.calm.trans hc), a, ns, rfl, h, List.length_pos_iff.mpr hn, fun m h1 h2 => by rw [max_one h1 h2]; exact q⟩
theorem s_minL (hc : X0.calm = true) (h : SqL X0.K H a (ns.map V.int)) (hn : ns ≠ []) (q : Q (.int (minI ns)) H) : ∃ r, CaD X0 E (.builtin "min") r ∧ r [.ref a] H Q :=
  ⟨rMin X0.K, fun X l _ => by rw [← l.K]; exact cr_min (l.calm.trans hc), a, ns, rfl, h, List.length_pos_iff.mpr hn, fun m h1 h2 => by rw [min_one h1 h2]; exact q⟩
/-- tuple(xs), list(xs) -/
theorem s_tupleL {xs : List V} (h : SqL X0.K H a xs) (q : ∀ l, H l = none → Q (.ref l) (upd H l (.tup xs))) : ∃ r, CaD X0 E (.type "tuple") r ∧ r [.ref a] H Q :=
  ⟨fun vs H Q => ∃ p ys, vs = [.ref p] ∧ ((SqL X0.K H p ys ∧ ∀ l, H l = none → Q (.ref l) (upd H l (.tup ys))) ∨ (SqT X0.K H p ys ∧ Q (.ref p) H)), fun X l _ => by rw [← l.K]; exact call_tuple_of, a, xs, rfl, .inl ⟨h, q⟩⟩
theorem s_listOf {xs : List V} (h : SqL X0.K H a xs ∨ SqT X0.K H a xs) (q : ∀ l, H l = none → Q (.ref l) (upd H l (.lst xs))) : ∃ r, CaD X0 E (.type "list") r ∧ r [.ref a] H Q :=
  ⟨fun vs H Q => ∃ p ys, vs = [.ref p] ∧ (SqL X0.K H p ys ∨ SqT X0.K H p ys) ∧ ∀ l, H l = none → Q (.ref l) (upd H l (.lst ys)), fun X l _ => by rw [← l.K]; exact call_list_of, a, xs, rfl, h, q⟩
end
end Odd

namespace Odd
open PySem PySem.Spec PyProof.Rows L2 RZ
/-! ### comprehensions whose turns only make objects -/
theorem same_new {H : Hp} {p : Addr} {o : HO} (h : H p = none) : Same H (upd H p o) := fun b u e => by rw [upd_ne (ne_of_none e h)]; exact e
theorem same_mut {H H' : Hp} {p : Addr} {o : HO} (s : Same H H') (h : H p = none) : Same H (upd H' p o) := fun b u e => by rw [upd_ne (ne_of_none e h)]; exact s b u e
theorem same_t {K : PySem.W.Frag} {H H' : Hp} {a : Addr} {xs : List V} (e : Same H H') (h : SqT K H a xs) : SqT K H' a xs := by
  rcases h with (h | ⟨o, h⟩) | h
  · exact .inl (.inl (e _ _ h))
  · exact .inl (.inr ⟨o, e _ _ h⟩)
  · exact .inr h
theorem sz5 {n : Nat} (h : n ≤ 100000) : n ≤ sizeLine := Nat.le_trans h (by decide)
/-- one turn: what the test and the element give -/
def Turn1 (tt : TT) (te : TE) (σ2 : L2.St) (H' : Hp) (o o' : List V) : Prop :=
  ∀ (K1 : VK) (K0 : Hp → Prop), (∀ y H4, Same H' H4 → o' = o ++ [y] → K1 y H4) → (∀ H3, Same H' H3 → o' = o → K0 H3) → tt σ2 H' fun b H3 => if b = true then te σ2 H3 K1 else K0 H3
theorem turn1_map {te : TE} {σ2 : L2.St} {H' : Hp} {o : List V} {y : V} (h : ∀ R : VK, (∀ H4, Same H' H4 → R y H4) → te σ2 H' R) : Turn1 tYes te σ2 H' o (o ++ [y]) := fun K1 K0 k1 _ => by
  show (if true = true then te σ2 H' K1 else K0 H')
  rw [if_pos rfl]
  exact h K1 fun H4 s => k1 y H4 s rfl
section
variable {K : PySem.W.Frag} {J : It} {n : Nat} {G : Hp → Prop} {Y : Nat → Hp → V → Hp → Prop} {g : TG} {tt : TT} {te : TE} {vs : List Nat} {σ : L2.St} {H : Hp} {Q : VK}
theorem c_walk (w : Walk J n G Y) (out : Nat → List V) (h0 : out 0 = []) (hz : ∀ i, i < n → (out i).length < 100000) (hG : ∀ H', Same H H' → G H')
    (turn : ∀ i x H1 H', i < n → Same H H1 → Y i H1 x H' → Same H1 H' ∧ ∀ R : L2.St → Hp → Prop, (∀ σ2 H2, Same H' H2 → wipe σ2 vs = wipe σ vs → Turn1 tt te σ2 H2 (out i) (out (i + 1)) → R σ2 H2) → g x (wipe σ vs) H' R)
    (q : ∀ p H', H p = none → Same H H' → H' p = some (.lst (out n)) → Q (.ref p) H') :
    ∀ D, H D = none → ∃ W : Nat → Nat → Hp → Prop, (∃ m, W 0 m (upd H D (.lst []))) ∧ ∀ i m H, W i m H →
      (J.stop i H ∧ Q (.ref D) H) ∨ (J.go i H ∧ ∃ Nx : Hp → Prop, (∀ H', Nx H' → ∃ m', m' < m ∧ W (i + 1) m' H') ∧ ∀ x H', J.yld i H x H' → g x (wipe σ vs) H' fun σ2 H2 => wipe σ2 vs = wipe σ vs ∧ tt σ2 H2 fun b H3 =>
        if b = true then te σ2 H3 fun y H4 => ∃ acc, H4 D = some (.lst acc) ∧ acc.length < sizeLine ∧ Nx (upd H4 D (.lst (acc ++ [y]))) else Nx H3) := fun D hD =>
  lc_it w (Qd := fun H' => Q (.ref D) H') (fun i H' => Same H H' ∧ H' D = some (.lst (out i))) ⟨same_new hD, by rw [upd_same, h0]⟩ (fun i H' _ p => hG H' p.1) (fun i x H1 H' hi p y => by
      obtain ⟨s1, tn⟩ := turn i x H1 H' hi p.1 y
      refine tn _ fun σ2 H2 s2 ew t => ⟨ew, ?_⟩
      have sD : H2 D = some (.lst (out i)) := s2 _ _ (s1 _ _ p.2)
      have sH : Same H H2 := (p.1.trans s1).trans s2
      exact t _ _ (fun y H4 s4 eo => ⟨out i, s4 _ _ sD, Nat.lt_of_lt_of_le (hz i hi) (by decide), same_mut (sH.trans s4) hD, by rw [upd_same, eo]⟩) fun H3 s3 eo => ⟨sH.trans s3, by rw [eo]; exact s3 _ _ sD⟩)
    fun H' p => q D H' hD p.1 p.2
variable {a b : Addr} {xs ys : List V} {j : Nat}
theorem walk_listS : Walk (Itl K a) xs.length (fun H => SqL K H a xs) (YAt xs) :=
  ⟨fun i _ hi q => ⟨xs, xs[i], q, by simp [hi]⟩, fun _ q => ⟨xs, q, Nat.le_refl _⟩, fun i H x H' _ q y => ⟨y.1, y.2 xs q⟩⟩
theorem walk_tupS : Walk (Itt K a) xs.length (fun H => SqT K H a xs) (YAt xs) :=
  ⟨fun i _ hi q => ⟨xs, xs[i], q, by simp [hi]⟩, fun _ q => ⟨xs, q, Nat.le_refl _⟩, fun i H x H' _ q y => ⟨y.1, y.2 xs q⟩⟩
theorem walk_zipTS (hn : n = min xs.length ys.length) : Walk (ItzT K a b) n (fun H => SqT K H a xs ∧ SqT K H b ys) (YPair (fun i => xs[i]?) (fun i => ys[i]?)) := by
  subst hn
  refine ⟨fun i _ hi q => ?_, fun _ q => ⟨xs, ys, q.1, q.2, by omega⟩, fun i H v H' _ q y => ?_⟩
  · have h1 : i < xs.length := by omega
    have h2 : i < ys.length := by omega
    exact ⟨xs, ys, xs[i], ys[i], q.1, q.2, by simp [h1], by simp [h2]⟩
  · obtain ⟨T, x, z, h1, h2, h3, h4, h5⟩ := y
    exact ⟨T, x, z, h1, h2, h3, h4 xs q.1, h5 ys q.2⟩
/-- over a tuple, a list: the target a name -/
theorem c_tup (out : Nat → List V) (h0 : out 0 = []) (hz : ∀ i, i < xs.length → (out i).length < 100000) (hx : SqT K H a xs) (hw : ∀ x, wipe ((wipe σ vs).set j (some x)) vs = wipe σ vs)
    (turn : ∀ i x H', xs[i]? = some x → Same H H' → Turn1 tt te ((wipe σ vs).set j (some x)) H' (out i) (out (i + 1))) (q : ∀ p H', H p = none → Same H H' → H' p = some (.lst (out xs.length)) → Q (.ref p) H')
    {tl : TE} (ht : ∀ R : VK, R (.ref a) H → tl σ H R) : tLc (iSeq K tl) (gName j) tt te vs σ H Q :=
  ht _ ⟨a, rfl, .inr ⟨⟨xs, hx⟩, c_walk walk_tupS out h0 hz (fun H' s => same_t s hx) (fun i x H1 H' hi s y => by
    obtain ⟨e1, e2⟩ := y
    subst e1
    exact ⟨Same.refl _, fun R k => k _ _ (Same.refl _) (hw x) (turn i x _ e2 s)⟩) q⟩⟩
theorem c_list (out : Nat → List V) (h0 : out 0 = []) (hz : ∀ i, i < xs.length → (out i).length < 100000) (hx : SqL K H a xs) (hw : ∀ x, wipe ((wipe σ vs).set j (some x)) vs = wipe σ vs)
    (turn : ∀ i x H', xs[i]? = some x → Same H H' → Turn1 tt te ((wipe σ vs).set j (some x)) H' (out i) (out (i + 1))) (q : ∀ p H', H p = none → Same H H' → H' p = some (.lst (out xs.length)) → Q (.ref p) H')
    {tl : TE} (ht : ∀ R : VK, R (.ref a) H → tl σ H R) : tLc (iSeq K tl) (gName j) tt te vs σ H Q :=
  ht _ ⟨a, rfl, .inl ⟨⟨xs, hx⟩, c_walk walk_listS out h0 hz (fun H' s => s.seq hx) (fun i x H1 H' hi s y => by
    obtain ⟨e1, e2⟩ := y
    subst e1
    exact ⟨Same.refl _, fun R k => k _ _ (Same.refl _) (hw x) (turn i x _ e2 s)⟩) q⟩⟩
/-- over range(n) -/
theorem c_rng {ta : TA} {n : Nat} (out : Nat → List V) (h0 : out 0 = []) (hn : n < 100000) (hz : ∀ i, i < n → (out i).length < 100000) (hw : ∀ x, wipe ((wipe σ vs).set j (some x)) vs = wipe σ vs)
    (turn : ∀ (i : Nat) H', i < n → Same H H' → Turn1 tt te ((wipe σ vs).set j (some (.int i))) H' (out i) (out (i + 1))) (q : ∀ p H', H p = none → Same H H' → H' p = some (.lst (out n)) → Q (.ref p) H')
    (ht : ∀ R : List V → Hp → Prop, R [.int n] H → ta σ H R) : tLc (iRng1 ta) (gName j) tt te vs σ H Q :=
  ht _ ⟨n, rfl, by omega, by omega, by
    rw [Int.toNat_natCast]
    exact c_walk (Y := YFn fun i => .int (0 + (i : Int))) (G := fun _ => True) ⟨fun i _ hi _ => hi, fun _ _ => Nat.le_refl _, fun i H x H' _ _ y => y⟩ out h0 hz (fun _ _ => True.intro) (fun i x H1 H' hi s y => by
      obtain ⟨e1, e2⟩ := y
      subst e1 e2
      refine ⟨Same.refl _, fun R k => k _ _ (Same.refl _) (hw _) ?_⟩
      show Turn1 tt te ((wipe σ vs).set j (some (.int ((0 : Int) + (i : Int))))) _ _ _
      rw [Int.zero_add]
      exact turn i _ hi s) q⟩
/-- over zip of two tuples: the target two names -/
theorem c_zipT {ta : TA} {j2 : Nat} (out : Nat → List V) (h0 : out 0 = []) (hz : ∀ i, i < min xs.length ys.length → (out i).length < 100000) (hx : SqT K H a xs) (hy : SqT K H b ys)
    (hw : ∀ x y, wipe (((wipe σ vs).set j (some x)).set j2 (some y)) vs = wipe σ vs)
    (turn : ∀ i x y H', xs[i]? = some x → ys[i]? = some y → Same H H' → Turn1 tt te (((wipe σ vs).set j (some x)).set j2 (some y)) H' (out i) (out (i + 1)))
    (q : ∀ p H', H p = none → Same H H' → H' p = some (.lst (out (min xs.length ys.length))) → Q (.ref p) H') (ht : ∀ R : List V → Hp → Prop, R [.ref a, .ref b] H → ta σ H R) :
    tLc (iZipA K ta) (gTup K 2 (gCons (gName j) (gCons (gName j2) gNil))) tt te vs σ H Q :=
  ht _ ⟨a, b, xs, ys, rfl, .inr ⟨hx, hy, c_walk (walk_zipTS rfl) out h0 hz (fun H' s => ⟨same_t s hx, same_t s hy⟩) (fun i x H1 H' hi s y => by
    obtain ⟨T, x, z, e1, e2, e3, e4, e5⟩ := y
    subst e1 e3
    exact ⟨same_new e2, fun R k => ⟨T, [x, z], rfl, SqT.of upd_same, rfl, x, [z], rfl, z, [], rfl, rfl, k _ _ (Same.refl _) (hw x z) (turn i x z _ e4 e5 (s.trans (same_new e2)))⟩⟩) q⟩⟩
end
end Odd

namespace Odd
open PySem PySem.Spec PyProof.Rows L2
/-! ### data in the heap -/
section
variable {K : PySem.W.Frag} {H H' : Hp}
mutual
theorem dp_same (s : Same H H') : ∀ {v : V} {d : PyData}, Dp K H v d → Dp K H' v d
  | _, _, .non => .non
  | _, _, .bl b => .bl b
  | _, _, .int i => .int i
  | _, _, .str x => .str x
  | _, _, .lst h hs => .lst (s.seq h) (dpAll_same s hs)
  | _, _, .tup h hs => .tup (same_t s h) (dpAll_same s hs)
theorem dpAll_same (s : Same H H') : ∀ {vs : List V} {ds : List PyData}, DpAll K H vs ds → DpAll K H' vs ds
  | _, _, .nil => .nil
  | _, _, .cons h hs => .cons (dp_same s h) (dpAll_same s hs)
end
theorem dp_ints : ∀ (cs : List Int), DpAll K H (cs.map V.int) (cs.map PyData.int)
  | [] => .nil
  | c :: cs => .cons (.int c) (dp_ints cs)
theorem dpAll_len : ∀ {vs : List V} {ds : List PyData}, DpAll K H vs ds → vs.length = ds.length
  | _, _, .nil => rfl
  | _, _, .cons _ hs => congrArg (· + 1) (dpAll_len hs)
theorem dpAll_get : ∀ {vs : List V} {ds : List PyData} {i : Nat} {d : PyData}, DpAll K H vs ds → ds[i]? = some d → ∃ v, vs[i]? = some v ∧ Dp K H v d
  | _, _, _, _, .nil, e => by simp at e
  | _, _, 0, _, .cons h _, e => by simp at e; subst e; exact ⟨_, rfl, h⟩
  | _, _, i + 1, _, .cons _ hs, e => by
    obtain ⟨v, h1, h2⟩ := dpAll_get (i := i) hs (by simpa using e)
    exact ⟨v, by simpa using h1, h2⟩
theorem dpAll_map {α : Type} {f : α → V} {g : α → PyData} (h : ∀ x, Dp K H (f x) (g x)) : ∀ l : List α, DpAll K H (l.map f) (l.map g)
  | [] => .nil
  | x :: l => .cons (h x) (dpAll_map h l)
end
/-- data without a bool among its parts -/
def nb : PyData → Bool
  | .none => true
  | .bool _ => false
  | .int _ => true
  | .str _ => true
  | .list xs => nbAll xs
  | .tuple xs => nbAll xs
  | .dict _ => false
where nbAll : List PyData → Bool
  | [] => true
  | x :: xs => nb x && nbAll xs
mutual
theorem eqv_iff : ∀ {d e : PyData}, nb d = true → nb e = true → (PyData.eqv d e = true ↔ d = e)
  | .none, e, _, he => by cases e <;> simp_all [PyData.eqv, nb]
  | .bool b, _, h, _ => by simp [nb] at h
  | .int i, e, _, he => by cases e <;> simp_all [PyData.eqv, nb]
  | .str x, e, _, he => by cases e <;> simp_all [PyData.eqv, nb]
  | .list xs, e, h, he => by
    cases e with
    | list ys =>
      have := eqvAll_iff (xs := xs) (ys := ys) (by simpa [nb] using h) (by simpa [nb] using he)
      simpa [PyData.eqv] using this
    | _ => simp_all [PyData.eqv, nb]
  | .tuple xs, e, h, he => by
    cases e with
    | tuple ys =>
      have := eqvAll_iff (xs := xs) (ys := ys) (by simpa [nb] using h) (by simpa [nb] using he)
      simpa [PyData.eqv] using this
    | _ => simp_all [PyData.eqv, nb]
  | .dict _, _, h, _ => by simp [nb] at h
theorem eqvAll_iff : ∀ {xs ys : List PyData}, nb.nbAll xs = true → nb.nbAll ys = true → (PyData.eqvAll xs ys = true ↔ xs = ys)
  | [], [], _, _ => by simp [PyData.eqvAll]
  | [], _ :: _, _, _ => by simp [PyData.eqvAll]
  | _ :: _, [], _, _ => by simp [PyData.eqvAll]
  | x :: xs, y :: ys, h, h' => by
    have h1 : nb x = true ∧ nb.nbAll xs = true := by simpa [nb.nbAll] using h
    have h2 : nb y = true ∧ nb.nbAll ys = true := by simpa [nb.nbAll] using h'
    have a := eqv_iff (d := x) (e := y) h1.1 h2.1
    have b := eqvAll_iff (xs := xs) (ys := ys) h1.2 h2.2
    simp only [PyData.eqvAll, Bool.and_eq_true, a, b, List.cons.injEq]
end
theorem eqv_dec {d e : PyData} {p : Prop} [Decidable p] (h : nb d = true) (h' : nb e = true) (q : d = e ↔ p) : PyData.eqv d e = decide p := by
  rw [Bool.eq_iff_iff, eqv_iff h h', decide_eq_true_iff, q]
theorem nb_ints : ∀ cs : List Int, nb.nbAll (cs.map PyData.int) = true
  | [] => rfl
  | _ :: cs => by simp [nb.nbAll, nb, nb_ints cs]
theorem lay_ints : ∀ cs : List Int, PyData.canLayAll0 (cs.map PyData.int) = true
  | [] => by simp [PyData.canLayAll0]
  | _ :: cs => by simp [PyData.canLayAll0, PyData.canLay0, lay_ints cs]
theorem dep_ints : ∀ cs : List Int, PyData.depthAll (cs.map PyData.int) = 0
  | [] => by simp [PyData.depthAll]
  | _ :: cs => by simp [PyData.depthAll, PyData.depth, dep_ints cs]
theorem shaped_tup (cs : List Int) : SeqAt.shaped (.tuple (cs.map PyData.int)) = true := by
  simp [SeqAt.shaped, PyData.canLay0, PyData.depth, lay_ints, dep_ints]
theorem shaped_lst (cs : List Int) : SeqAt.shaped (.list (cs.map PyData.int)) = true := by
  simp [SeqAt.shaped, PyData.canLay0, PyData.depth, lay_ints, dep_ints]
theorem map_int_inj {cs ds : List Int} : cs.map PyData.int = ds.map PyData.int ↔ cs = ds := by
  constructor
  · intro h
    have := congrArg (List.map fun d => match d with | PyData.int i => i | _ => 0) h
    simpa [List.map_map, Function.comp_def] using this
  · rintro rfl; rfl
theorem eqv_tups (cs ds : List Int) : PyData.eqv (.tuple (cs.map PyData.int)) (.tuple (ds.map PyData.int)) = decide (cs = ds) :=
  eqv_dec (by simp [nb, nb_ints]) (by simp [nb, nb_ints]) (by rw [PyData.tuple.injEq]; exact map_int_inj)
theorem eqv_lsts (cs ds : List Int) : PyData.eqv (.list (cs.map PyData.int)) (.list (ds.map PyData.int)) = decide (cs = ds) :=
  eqv_dec (by simp [nb, nb_ints]) (by simp [nb, nb_ints]) (by rw [PyData.list.injEq]; exact map_int_inj)
section
variable {X0 : Cx} {E : XK} {H : Hp} {Q : VK} {x y : V} {d e : PyData} {a b : Addr} {cs ds : List Int}
theorem s_eqD (hu : X0.A.units + 64 < cLine) (hx : Dp X0.K H x d) (hy : Dp X0.K H y e) (h1 : SeqAt.shaped d = true) (h2 : SeqAt.shaped e = true) (q : Q (.bl (PyData.eqv d e)) H) : ∃ r, OpD X0 E (compareOp .Eq) r ∧ r x y H Q :=
  ⟨rEqD X0.K, fun X l _ => by rw [← l.K]; exact op_eqD (by rw [l.A]; exact hu), d, e, hx, hy, h1, h2, q⟩
theorem s_neD (hu : X0.A.units + 64 < cLine) (hx : Dp X0.K H x d) (hy : Dp X0.K H y e) (h1 : SeqAt.shaped d = true) (h2 : SeqAt.shaped e = true) (q : Q (.bl (!PyData.eqv d e)) H) : ∃ r, OpD X0 E (compareOp .NotEq) r ∧ r x y H Q :=
  ⟨rNeD X0.K, fun X l _ => by rw [← l.K]; exact op_neD (by rw [l.A]; exact hu), d, e, hx, hy, h1, h2, q⟩
theorem s_eqTups (hu : X0.A.units + 64 < cLine) (ha : SqT X0.K H a (cs.map V.int)) (hb : SqT X0.K H b (ds.map V.int)) (q : Q (.bl (decide (cs = ds))) H) : ∃ r, OpD X0 E (compareOp .Eq) r ∧ r (.ref a) (.ref b) H Q :=
  s_eqD hu (.tup ha (dp_ints _)) (.tup hb (dp_ints _)) (shaped_tup _) (shaped_tup _) (by rw [eqv_tups]; exact q)
theorem s_neTups (hu : X0.A.units + 64 < cLine) (ha : SqT X0.K H a (cs.map V.int)) (hb : SqT X0.K H b (ds.map V.int)) (q : Q (.bl (!decide (cs = ds))) H) : ∃ r, OpD X0 E (compareOp .NotEq) r ∧ r (.ref a) (.ref b) H Q :=
  s_neD hu (.tup ha (dp_ints _)) (.tup hb (dp_ints _)) (shaped_tup _) (shaped_tup _) (by rw [eqv_tups]; exact q)
theorem s_eqLsts (hu : X0.A.units + 64 < cLine) (ha : SqL X0.K H a (cs.map V.int)) (hb : SqL X0.K H b (ds.map V.int)) (q : Q (.bl (decide (cs = ds))) H) : ∃ r, OpD X0 E (compareOp .Eq) r ∧ r (.ref a) (.ref b) H Q :=
  s_eqD hu (.lst ha (dp_ints _)) (.lst hb (dp_ints _)) (shaped_lst _) (shaped_lst _) (by rw [eqv_lsts]; exact q)
theorem s_neLsts (hu : X0.A.units + 64 < cLine) (ha : SqL X0.K H a (cs.map V.int)) (hb : SqL X0.K H b (ds.map V.int)) (q : Q (.bl (!decide (cs = ds))) H) : ∃ r, OpD X0 E (compareOp .NotEq) r ∧ r (.ref a) (.ref b) H Q :=
  s_neD hu (.lst ha (dp_ints _)) (.lst hb (dp_ints _)) (shaped_lst _) (shaped_lst _) (by rw [eqv_lsts]; exact q)
/-- isinstance of an own class -/
theorem s_isiC {C : Addr} {t : Value} {b : Bool} (ty : TyX X0.K H x t) (hk : PySem.W.kitOne X0.K t (.ref C) = some b) (q : Q (.bl b) H) : ∃ r, CaD X0 E (.builtin "isinstance") r ∧ r [x, .ref C] H Q :=
  ⟨rIsi X0.K, fun X l _ => by rw [← l.K]; exact call_isi, x, .ref C, t, .ref C, b, rfl, .own C, ty, hk, q⟩
theorem tyx_ins {K : PySem.W.Frag} {C dx : Addr} {fs : List (Str × V)} (h : H a = some (.ins C dx fs)) (c : Cls K C) (si : SlX.SIsi K C) : TyX K H (.ref a) (.ref C) := .base (.ins h c si.ca si.cn si.ct si.cm)
theorem kit_self {K : PySem.W.Frag} {t : Value} : PySem.W.kitOne K t t = some true := by
  unfold PySem.W.kitOne
  rw [if_pos (by exact beq_self_eq_true t)]
theorem s_truT {xs : List V} {QB : Bool → Hp → Prop} (h : SqT X0.K H a xs) (q : QB (!xs.isEmpty) H) : ∃ r, TrD X0 E r ∧ r (.ref a) H QB :=
  ⟨fun x H Q => ∃ k, TruV X0.K x H k ∧ Q k H, fun X l _ => by rw [← l.K]; exact tru_ok, _, .inr (.inl ⟨xs, h, rfl⟩), q⟩
theorem s_truL {xs : List V} {QB : Bool → Hp → Prop} (h : SqL X0.K H a xs) (q : QB (!xs.isEmpty) H) : ∃ r, TrD X0 E r ∧ r (.ref a) H QB :=
  ⟨fun x H Q => ∃ k, TruV X0.K x H k ∧ Q k H, fun X l _ => by rw [← l.K]; exact tru_ok, _, .inl ⟨xs, h, rfl⟩, q⟩
/-- great numbers -/
theorem s_mulW {i j : Int} (h : CMulW i j) (q : Q (.int (i * j)) H) : ∃ r, OpD X0 E (binaryOp .Mult) r ∧ r (.int i) (.int j) H Q := ⟨_, fun _ _ _ => op_mulW, i, j, rfl, rfl, h, q⟩
theorem s_fdivW {i j : Int} (h : CDivW i j) (q : Q (.int (i / j)) H) : ∃ r, OpD X0 E (binaryOp .FloorDiv) r ∧ r (.int i) (.int j) H Q := ⟨_, fun _ _ _ => op_fdivW, i, j, rfl, rfl, h, q⟩
end
theorem kit_own {K : PySem.W.Frag} {C : Addr} {T : String} {b : Bool} (hd : PySem.W.hasDictIn K C = true) (h1 : PySem.W.typeIn K (.ref C) = some (.type "type")) (h2 : PySem.W.subIn K (.type T) (.ref C) = some b) : PySem.W.kitOne K (.type T) (.ref C) = some b := by
  have hc : (PySem.W.clsIn K C).isSome = true := by
    obtain ⟨cd, hc, _⟩ := PySem.W.any_some hd
    rw [hc]
    rfl
  unfold PySem.W.kitOne PySem.W.kitCls
  rw [if_neg (by simp)]
  show (if ((PySem.W.clsIn K C).isSome && PySem.W.typeIn K (.ref C) == some (.type "type")) = true then PySem.W.subIn K (.type T) (.ref C) else none) = some b
  rw [hc, h1]
  exact h2
end Odd

namespace Odd
open PySem PySem.Spec PyProof.Rows L2
/-- all tracked but what stands at S is as it was -/
def SameB (S : Addr → Prop) (H H' : Hp) : Prop := ∀ b o, ¬ S b → H b = some o → H' b = some o
theorem SameB.refl {S : Addr → Prop} (H : Hp) : SameB S H H := fun _ _ _ h => h
theorem SameB.trans {S : Addr → Prop} {H H1 H2 : Hp} (a : SameB S H H1) (b : SameB S H1 H2) : SameB S H H2 := fun c o n h => b c o n (a c o n h)
theorem Same.b {S : Addr → Prop} {H H' : Hp} (s : Same H H') : SameB S H H' := fun b o _ h => s b o h
theorem turn1_filter {tt : TT} {te : TE} {σ2 : L2.St} {H' : Hp} {o : List V} {y : V} {b : Bool} (ht : ∀ R : Bool → Hp → Prop, (∀ H3, Same H' H3 → R b H3) → tt σ2 H' R)
    (he : b = true → ∀ H3, Same H' H3 → ∀ R : VK, (∀ H4, Same H3 H4 → R y H4) → te σ2 H3 R) : Turn1 tt te σ2 H' o (if b = true then o ++ [y] else o) := fun K1 K0 k1 k0 => ht _ fun H3 s3 => by
  cases b with
  | true => exact iteT (he rfl H3 s3 K1 fun H4 s4 => k1 y H4 (s3.trans s4) (by rw [if_pos rfl]))
  | false => exact iteF (k0 H3 s3 (by rw [if_neg Bool.false_ne_true]))
section
variable {K : PySem.W.Frag} {H : Hp} {Q : VK} {σ : L2.St} {to ti : TE} {v : V} {t : TSet} {R : L2.St → Hp → Prop}
theorem w_gsub (h : to σ H fun o H1 => ti σ H1 fun i H2 => t o i v H2 fun H3 => R σ H3) : gSub to ti t v σ H R := h
theorem s_setL {p : Addr} {xs : List V} {k : Int} {j : Nat} {RH : Hp → Prop} (h : H p = some (.lst xs)) (hj : ixN xs.length k = some j) (q : RH (upd H p (.lst (xs.set j v)))) : rSetL (.ref p) (.int k) v H RH := ⟨p, xs, k, j, rfl, rfl, h, hj, q⟩
/-- the type of a datum -/
def tyn : PyData → String
  | .none => "NoneType"
  | .bool _ => "bool"
  | .int _ => "int"
  | .str _ => "str"
  | .list _ => "list"
  | .tuple _ => "tuple"
  | .dict _ => "dict"
theorem tyx_l {a : Addr} {xs : List V} (h : SqL K H a xs) : TyX K H (.ref a) (.type "list") := by
  rcases h with (h | ⟨o, h⟩) | ⟨o, its, n, hk, hc, _⟩
  · exact .base (.lst h)
  · exact .base (.frz h)
  · exact .kList hk hc
theorem tyx_t {a : Addr} {xs : List V} (h : SqT K H a xs) : TyX K H (.ref a) (.type "tuple") := by
  rcases h with (h | ⟨o, h⟩) | ⟨o, its, n, hk, hc, _⟩
  · exact .base (.tup h)
  · exact .fTuple h
  · exact .kTuple hk hc
theorem tyx_dp {d : PyData} (h : Dp K H v d) : TyX K H v (.type (tyn d)) := by
  cases h with
  | non => exact .base .non
  | bl b => exact .base (.bl b)
  | int i => exact .base (.int i)
  | str x => exact .base (.str x)
  | lst h _ => exact tyx_l h
  | tup h _ => exact tyx_t h
end
section
variable {X0 : Cx} {E : XK} {H : Hp} {Q : VK} {x : V}
/-- isinstance(x, (tuple, list)) -/
theorem s_isiTL {d : PyData} {tp : Addr} {n m : String} {b : Bool} (h : Dp X0.K H x d) (ht : H tp = some (.tup [.ty n, .ty m])) (hk : PySem.W.kitAny X0.K (.type (tyn d)) [.type n, .type m] = some b) (q : Q (.bl b) H) :
    ∃ r, CaD X0 E (.builtin "isinstance") r ∧ r [x, .ref tp] H Q :=
  ⟨rIsiT X0.K, fun X l _ => by rw [← l.K]; exact call_isiT, x, tp, [.ty n, .ty m], .type (tyn d), [.type n, .type m], b, rfl, ht, .cons (.ty _) (.cons (.ty _) .nil), tyx_dp h, hk, q⟩
theorem s_isiD {d : PyData} {n : String} {b : Bool} (h : Dp X0.K H x d) (hk : kitB (tyn d) n = some b) (q : Q (.bl b) H) : ∃ r, CaD X0 E (.builtin "isinstance") r ∧ r [x, .ty n] H Q :=
  s_isi (tyx_dp h) (kit_ty hk) q
end
def isTL : PyData → Bool
  | .list _ => true
  | .tuple _ => true
  | _ => false
def isL : PyData → Bool
  | .list _ => true
  | _ => false
def isB : PyData → Bool
  | .bool _ => true
  | _ => false
def isI : PyData → Bool
  | .bool _ => true
  | .int _ => true
  | _ => false
theorem kit_TL {K : PySem.W.Frag} (d : PyData) (hd : ∀ kvs, d ≠ .dict kvs) : PySem.W.kitAny K (.type (tyn d)) [.type "tuple", .type "list"] = some (isTL d) := by
  have n : ∀ T : String, kitB T "tuple" = some false → kitB T "list" = some false → PySem.W.kitAny K (.type T) [.type "tuple", .type "list"] = some false := fun T h1 h2 =>
    kitAny_cons (b := false) (kit_ty h1) (fun _ => kitAny_cons (b := false) (kit_ty h2) (fun _ => kitAny_nil) fun z => nomatch z) fun z => nomatch z
  cases d with
  | dict kvs => exact absurd rfl (hd kvs)
  | list xs => exact kitAny_cons (b := false) (kit_ty (by decide +kernel : kitB "list" "tuple" = some false)) (fun _ => kitAny_cons (b := true) (kit_ty (by decide +kernel : kitB "list" "list" = some true)) (fun z => nomatch z) fun _ => rfl) fun z => nomatch z
  | tuple xs => exact kitAny_cons (b := true) (kit_ty (by decide +kernel : kitB "tuple" "tuple" = some true)) (fun z => nomatch z) fun _ => rfl
  | none => exact n "NoneType" (by decide +kernel) (by decide +kernel)
  | bool b => exact n "bool" (by decide +kernel) (by decide +kernel)
  | int i => exact n "int" (by decide +kernel) (by decide +kernel)
  | str x => exact n "str" (by decide +kernel) (by decide +kernel)
theorem kit_L (d : PyData) (hd : ∀ kvs, d ≠ .dict kvs) : kitB (tyn d) "list" = some (isL d) := by
  cases d with
  | dict kvs => exact absurd rfl (hd kvs)
  | list xs => exact (by decide +kernel : kitB "list" "list" = some true)
  | tuple xs => exact (by decide +kernel : kitB "tuple" "list" = some false)
  | none => exact (by decide +kernel : kitB "NoneType" "list" = some false)
  | bool b => exact (by decide +kernel : kitB "bool" "list" = some false)
  | int i => exact (by decide +kernel : kitB "int" "list" = some false)
  | str x => exact (by decide +kernel : kitB "str" "list" = some false)
theorem kit_B (d : PyData) (hd : ∀ kvs, d ≠ .dict kvs) : kitB (tyn d) "bool" = some (isB d) := by
  cases d with
  | dict kvs => exact absurd rfl (hd kvs)
  | list xs => exact (by decide +kernel : kitB "list" "bool" = some false)
  | tuple xs => exact (by decide +kernel : kitB "tuple" "bool" = some false)
  | none => exact (by decide +kernel : kitB "NoneType" "bool" = some false)
  | bool b => exact (by decide +kernel : kitB "bool" "bool" = some true)
  | int i => exact (by decide +kernel : kitB "int" "bool" = some false)
  | str x => exact (by decide +kernel : kitB "str" "bool" = some false)
theorem kit_I (d : PyData) (hd : ∀ kvs, d ≠ .dict kvs) : kitB (tyn d) "int" = some (isI d) := by
  cases d with
  | dict kvs => exact absurd rfl (hd kvs)
  | list xs => exact (by decide +kernel : kitB "list" "int" = some false)
  | tuple xs => exact (by decide +kernel : kitB "tuple" "int" = some false)
  | none => exact (by decide +kernel : kitB "NoneType" "int" = some false)
  | bool b => exact (by decide +kernel : kitB "bool" "int" = some true)
  | int i => exact (by decide +kernel : kitB "int" "int" = some true)
  | str x => exact (by decide +kernel : kitB "str" "int" = some false)
theorem dp_nd {K : PySem.W.Frag} {H : Hp} {v : V} {d : PyData} (h : Dp K H v d) : ∀ kvs, d ≠ .dict kvs := fun kvs e => by
  subst e
  cases h
end Odd

namespace Odd
open PySem PySem.Spec PyProof.Rows L2
/-! ### names, attributes of classes, calls of locals, of instances, of classmethods -/
section
variable {X0 X : Cx} {E : XK} {x m : Str} {e o : Expr} {es : List Expr} {te ta : TE} {t : TA} {p pos apos sp_ : Pos}
/-- a name of the module that holds an int -/
def tGvI (X0 : Cx) (x : Str) : TE := fun σ H Q => ∃ n u, X0.mg x = some (.int n u) ∧ Q (.int n) H
theorem pe_gvI (l : Like X0 X) (hg : Gl X x) (hd : (x == ("__debug__" : Str)) = false := by decide) : PE X (.Name x pos) (tGvI X0 x) :=
  ⟨fun pins s σ H Q I ⟨n, u, hm, q⟩ => ld_glob I hg (by rw [l.mg]; exact hm) ⟨.int n, H, I, ⟨u, rfl⟩, q⟩ hd⟩
theorem w_gvI {σ : L2.St} {H : Hp} {Q : VK} {n : Int} {u : Tok} (h : X0.mg x = some (.int n u)) (q : Q (.int n) H) : tGvI X0 x σ H Q := ⟨n, u, h, q⟩
/-- C.f, a constant of the class -/
theorem s_cval {H : Hp} {Q : VK} {C : Addr} {mc u : Value} {f : Str} {v : V} (r : ClX.CRead X0.K C mc) (k : ClX.CVal X0.K C mc f v u) (q : Q v H) : ∃ r, AtD X0 E f r ∧ r (.ref C) H Q :=
  ⟨fun x H Q => x = .ref C ∧ Q v H, fun X l h b pins s σ H x w Q I rx ⟨ex, q⟩ => by
    subst ex
    obtain rfl : w = Value.ref C := rx
    rw [← l.K] at r k
    exact ClX.getcval_ok I r k fun s2 I2 => ⟨v, H, I2, k.rel, q⟩, rfl, q⟩
/-- x(e, .., *y), x a local -/
def tLoA (X0 : Cx) (E : XK) (i : Nat) (t : TA) : TE := fun σ H Q => ∃ f, σ[i]? = some (some (.ref f)) ∧ PySem.W.keepIn X0.K (.ref f) = true ∧ t σ H fun vs H1 => ∃ r, CaD X0 E (.ref f) r ∧ r vs H1 Q
theorem pe_loS2 {i : Nat} (l : Like X0 X) (h : Pas X E) (hN : X.N[i]? = some x) (hv : Vis X.env.scope x) (ha : PA X (e :: es) t) (hd : (x == ("__debug__" : Str)) = false := by decide) (hcd : (x == ("__classdict__" : Str)) = false := by decide)
    (he : starEach (e :: es) X.env = (false, eval e X.env) :: starEach es X.env := by rfl) (hst : (backTo pos (starEach es X.env)).any (·.1) = true := by rfl) :
    PE X (.Call (.Name x p) (e :: es) [] pos) (tLoA X0 E i t) := by
  refine ⟨fun pins s σ H Q I ⟨f, hs, hk, q⟩ => ?_⟩
  rw [← l.K] at hk
  refine wpAny_Call_Name_kw (thn ((pe_var (pos := p) (i := i) hN hv hd hcd).run pins s σ H (fun v H1 => v = .ref f ∧ H1 = H) I ⟨.ref f, hs, rfl, rfl⟩) fun u s1 ⟨v, H1, I1, r1, q1⟩ => ?_)
  obtain ⟨ev, eH⟩ := q1
  subst ev
  rw [eH] at I1
  obtain rfl : u = Value.ref f := r1
  exact PySem.W.callWith_S2 (h₀ := X.base) I1.ok.mod.kin hk (thn (ha.run pos pins s1 σ H _ I1 q) fun us s2 ⟨vs, H2, I2, r2, r, hr, q2⟩ => ⟨I2.kIn, hr X l h pins s2 σ H2 vs us Q I2 r2 q2⟩) he hst
/-- f(e, ..), f an instance -/
def tCoA (X0 : Cx) (E : XK) (tf : TE) (t : TA) : TE := fun σ H Q => tf σ H fun y H1 => ∃ a, y = V.ref a ∧ t σ H1 fun vs H2 => (∃ C dx fs, H2 a = some (.ins C dx fs)) ∧ ∃ r, CaD X0 E (.ref a) r ∧ r vs H2 Q
theorem pe_coA (l : Like X0 X) (h : Pas X E) (hf : PE X o ta) (ha : PA X (e :: es) t)
    (ht : eval (.Call o (e :: es) [] pos) X.env = (do callWith pos (← eval o X.env) [] (backTo pos (starEach (e :: es) X.env)) (backToKw pos (keywordEach [] X.env))) := by rfl)
    (he : starEach (e :: es) X.env = (false, eval e X.env) :: starEach es X.env := by rfl) (hpl : (backTo pos (starEach es X.env)).any (·.1) = false := by rfl) : PE X (.Call o (e :: es) [] pos) (tCoA X0 E ta t) := by
  refine ⟨fun pins s σ H Q I hq => ?_⟩
  refine Call_ (thn (hf.run pins s σ H _ I hq) fun u s1 ⟨y, H1, I1, ry, a, ey, q⟩ => ?_) ht
  subst ey
  obtain rfl : u = Value.ref a := ry
  refine StX.callO_with (thn (ha.run pos pins s1 σ H1 _ I1 q) fun us s2 ⟨vs, H2, I2, rv, ⟨C, dx, fs, hi⟩, r, hr, q2⟩ => ?_) he hpl
  obtain ⟨ox, od, J, hd⟩ := StX.insC_at I2 (.inr ⟨dx, fs, hi⟩)
  exact ⟨⟨C, ox, od, J, hd⟩, hr X l h pins s2 σ H2 vs us Q I2 rv q2⟩
theorem s_callO {k : Nat} {H : Hp} {Q : VK} {a C g dx : Addr} {fs : List (Str × V)} {vs : List V} {sp : Sp} (hi : H a = some (.ins C dx fs)) (c : StX.CallO X0.K C g) (F : Fn X0 k g sp) (hr : Room k X0.A) (q : sp (.ref a :: vs) H Q E) : ∃ r, CaD X0 E (.ref a) r ∧ r vs H Q :=
  ⟨fun vs H Q => (∃ dx fs, H a = some (.ins C dx fs)) ∧ sp (.ref a :: vs) H Q E, fun X l h pins s σ H xs us Q I r ⟨hi, q⟩ => by
    rw [← l.K] at c
    exact StX.run_callO c (l.fn F) (l.room hr) h I (.inr hi) r q, ⟨dx, fs, hi⟩, q⟩
/-- C.m(e, ..), m a classmethod -/
def tCmA (X0 : Cx) (E : XK) (m : Str) (ta : TE) (t : TA) : TE := fun σ H Q => ta σ H fun x H1 => ∃ C mc p g k sp, x = .ref C ∧ ClX.CRead X0.K C mc ∧ ClX.CMet X0.K C mc m p g ∧ Fn X0 k g sp ∧ Room k X0.A ∧ t σ H1 fun vs H2 => sp (.ref C :: vs) H2 Q E
theorem pe_cmA {pl : Sem Bool} (l : Like X0 X) (h : Pas X E) (he : PE X o ta) (ha : PA X (e :: es) t)
    (hst : starEach (e :: es) X.env = (false, eval e X.env) :: starEach es X.env := by rfl) (hpl : (backTo pos (starEach es X.env)).any (·.1) = false := by rfl)
    (ht : eval (.Call (.Attribute o m apos) (e :: es) [] pos) X.env = (do
      let ov ← eval o X.env
      standAt apos.atName
      let (f, first) ← holding [ov] (getMethod ov m pl)
      callWith pos f first (backTo pos (starEach (e :: es) X.env)) (backToKw pos (keywordEach [] X.env))) := by rfl) :
    PE X (.Call (.Attribute o m apos) (e :: es) [] pos) (tCmA X0 E m ta t) := by
  refine ⟨fun pins s σ H Q I hq => ?_⟩
  refine PySem.W.methodCall_KW (pl := pl) (thn (he.run pins s σ H _ I hq) fun u s1 ⟨x, H1, I1, rx, C, mc, p, g, k, sp, ex, r, c, F, hr, q⟩ => ?_) ht
  subst ex
  obtain rfl : u = Value.ref C := rx
  rw [← l.K] at r c
  refine ClX.getmethcm_ok I1 r c fun s2 I2 => ?_
  refine ClX.callwith_cm I2 (ClX.base_none I1 (Nat.le_refl _)) c.fi (thn (ha.run pos _ s2 σ H1 _ I2 q) fun us s3 ⟨vs, H2, I3, rv, q2⟩ => ⟨⟨ClX.pin_at I3, I3.kIn⟩, ?_⟩) hst hpl
  exact ClX.run_cm (l.fn F) (l.room hr) h I3 rv q2
/-- o[i] op= e -/
def tAgS (X0 : Cx) (E : XK) (f : Value → Value → Sem Value) (to ti te : TE) (tset : TSet) : TS := fun D σ H => to σ H fun o H1 => ti σ H1 fun i H2 => (∃ a xs k v, o = .ref a ∧ i = .int k ∧ SqL X0.K H2 a xs ∧ atI xs k = some v ∧
  te σ H2 fun y H4 => ∃ r, OpD X0 E f r ∧ r v y H4 fun z H5 => tset o i z H5 fun H6 => D.nx σ H6)
end
end Odd

namespace Odd
open PySem PySem.Spec PyProof.Rows L2
/-! ### o[i] op= e for lists -/
section
variable {X0 X : Cx} {E : XK}
def tGetL (K : PySem.W.Frag) : V → V → Hp → VK → Prop := fun o i H Q => ∃ a xs k v, o = .ref a ∧ i = .int k ∧ 0 ≤ k ∧ SqL K H a xs ∧ xs[k.toNat]? = some v ∧ Q v H
theorem get_listA : PGet X (tGetL X.K) := by
  intro pins s σ H o i ov iv Q I ro ri h
  obtain ⟨a, xs, k, v, rfl, rfl, h0, hq, hx, q⟩ := h
  cases ro
  obtain ⟨t, rfl⟩ := ri
  obtain ⟨its, r, pl, hz⟩ := I.list hq
  obtain ⟨w, ew, rw'⟩ := r.get hx
  have hl := r.length
  have hn := line63
  have hk : k.toNat < xs.length := (List.getElem?_eq_some_iff.1 hx).1
  exact wpAny_getItem_list pl.isList h0 (by omega) (by simpa using ew) ⟨v, H, I, rw', q⟩
theorem ps_agS {op : Operator} {o i e : Expr} {to ti te : TE} {tpos pos : Pos} (l : Like X0 X) (h : Pas X E) (ho : PE X o to) (hi : PE X i ti) (he : PE X e te)
    (ha : ∀ ov iv new, augStore i ov iv new = (do holding [new, ov, iv] (setItem ov iv new); release [new, ov, iv] []; pure .next) := by intros; rfl) :
    PS X (.AugAssign (.Subscript o i tpos) op e pos) (tAugS to ti te (tGetL X.K) (fun x y H Q => ∃ r, OpD X0 E (inplaceOp op) r ∧ r x y H Q) rSetL) :=
  ps_augS ho hi get_listA he (fun pins s σ H x y v u Q I rx ry ⟨r, hr, q⟩ => hr X l h pins s σ H x y v u Q I rx ry q) set_list ha
theorem w_agS {K : PySem.W.Frag} {to ti te : TE} {tget : V → V → Hp → VK → Prop} {tip : TIp} {tset : TSet} {D : Ends} {σ : L2.St} {H : Hp}
    (h : to σ H fun o H1 => ti σ H1 fun i H2 => tget o i H2 fun x H3 => te σ H3 fun y H4 => tip x y H4 fun z H5 => tset o i z H5 fun H6 => D.nx σ H6) : tAugS to ti te tget tip tset D σ H := h
theorem s_getL {K : PySem.W.Frag} {H : Hp} {Q : VK} {a : Addr} {xs : List V} {k : Int} {v : V} (hq : SqL K H a xs) (h0 : 0 ≤ k) (hx : xs[k.toNat]? = some v) (q : Q v H) : tGetL K (.ref a) (.int k) H Q := ⟨a, xs, k, v, rfl, rfl, h0, hq, hx, q⟩
end
/-! ### enumerate of a tuple -/
section
variable {prog : Program} {w : World} {A : Around}
/-- a tuple's own iterator hands its items out -/
theorem draws_tup (hh : A.handled = none) (it t : Addr) (ne : t ≠ it) (items : Array Value) :
    Draws prog w A it [it, t] items.size (fun i v => items[i]? = some v) (fun i h => h.IsTupleIter it t i ∧ h.IsTuple t items) :=
  ⟨fun _ _ st => let ⟨o, e, _⟩ := st.1; ⟨o, e⟩, fun _ _ _ st k => ⟨st.1.at fun o e => k it (by simp) o e, let ⟨o, e, r⟩ := st.2; ⟨o, k t (by simp) o e, r⟩⟩,
    fun i s Q E hi st hQ => wpAny_nextOf_tuple_item st.1 st.2 (x := items[i]) (by simp [hi]) fun h' a b => hQ _ h' s.toks (by simp [hi]) ⟨a, st.2.extBut b.extBut ne⟩ b,
    fun s Q E st hE => wpAny_nextOf_tuple_end hh st.1 st.2 (by simp) hE⟩
theorem draws_end (hh : A.handled = none) (it t : Addr) (items : Array Value) (i : Nat) (hi : items[i]? = none) :
    Draws prog w A it [it, t] 0 (fun _ _ => True) (fun _ h => h.IsTupleIter it t i ∧ h.IsTuple t items) :=
  ⟨fun _ _ st => let ⟨o, e, _⟩ := st.1; ⟨o, e⟩, fun _ _ _ st k => ⟨st.1.at fun o e => k it (by simp) o e, let ⟨o, e, r⟩ := st.2; ⟨o, k t (by simp) o e, r⟩⟩,
    fun i s Q E hi => absurd hi (Nat.not_lt_zero _), fun s Q E st hE => wpAny_nextOf_tuple_end hh st.1 st.2 hi hE⟩
set_option maxHeartbeats 4000000 in
theorem meets_enum1 {v : Value} {o : Obj} {Hs : Heap → Prop} (B : Begins v o Hs) :
    Meets (Builtin.«enumerate.__new__» ⟨[.type "enumerate", v], []⟩) (fun _ R s => Hs s.heap ∧
      R (.ok (.ret (.ref (s.heap.push o).objs.size))) { s with heap := (s.heap.push o).push { cls := .type "enumerate", data := .fields #[.none, .bool false, .ref s.heap.objs.size, rawInt 0, .none, .none] } }) :=
  .of_wp fun prog w A R s h => by
    obtain ⟨hp, g, d, tk, os⟩ := s
    obtain ⟨h1, h⟩ := h
    have hsub := sub_enumerate
    have q1 : ∀ {A' : Around} {E : Value → Shared → Prop} {Q : Value → Shared → Prop}, Q (.ref hp.objs.size) ⟨hp.push o, g, d, tk, os⟩ → wpAny (model prog w) A' (pyIter v) Q E ⟨hp, g, d, tk, os⟩ :=
      fun q => B.iter prog w _ _ ⟨hp, g, d, tk, os⟩ _ h1 q
    wp_walk using q1
    refine wpAny_stack_any fun st => wpAny_pure ?_
    split
    · rename_i c _ _ _ _ _
      cases (c == Value.type "enumerate") <;>
      · wp_walk using q1
        exact ⟨_, rfl, h⟩
    · wp_walk using q1
      exact ⟨_, rfl, h⟩
theorem call_enum1 {E : Value → Shared → Prop} {s : Shared} {v : Value} {o : Obj} {Hs : Heap → Prop} {Q : Value → Shared → Prop} (B : Begins v o Hs) (h1 : Hs s.heap)
    (h : ∀ h', IsEnum h' (s.heap.objs.size + 1) s.heap.objs.size 0 .none → h'.get? s.heap.objs.size = some o → (∀ b u, s.heap.get? b = some u → h'.get? b = some u) → Q (.ref (s.heap.objs.size + 1)) { s with heap := h' }) :
    wpAny (model prog w) A (call (.type "enumerate") [v]) Q E s := by
  refine callType_new F.called_enumerate (by decide) (F.typeCall_enumerate_1 _) (F.newCall_enumerate_1 _) (fun obj => F.args_object_init_2 obj _) F.entry_enumerate_new (meets_enum1 B) ⟨h1, ?_⟩
  show _ ∧ _
  rw [Heap.size_push]
  have he : IsEnum ((s.heap.push o).push { cls := .type "enumerate", data := .fields #[.none, .bool false, .ref s.heap.objs.size, rawInt 0, .none, .none] }) (s.heap.objs.size + 1) s.heap.objs.size 0 .none := by
    have z := Heap.get?_push_size (s.heap.push o) (o := { cls := .type "enumerate", data := .fields #[.none, .bool false, .ref s.heap.objs.size, rawInt 0, .none, .none] }) rfl
    rw [Heap.size_push] at z
    exact z
  exact ⟨⟨_, he, rfl⟩, h _ he (Heap.get?_push_of_some _ (Heap.get?_push_size _ B.free)) fun b u e => Heap.get?_push_of_some _ (Heap.get?_push_of_some _ e)⟩
end
/-- the tuple at a, each item in a new pair with its index -/
def Itet (K : PySem.W.Frag) (a : Addr) : It :=
  ⟨fun i H => ∃ (xs : List V) (x : V), SqT K H a xs ∧ xs[i]? = some x, fun i H v H' => ∃ T x, v = .ref T ∧ H T = none ∧ H' = upd H T (.tup [.int (i : Nat), x]) ∧ ∀ xs, SqT K H a xs → xs[i]? = some x, fun i H => ∃ xs : List V, SqT K H a xs ∧ xs.length ≤ i⟩
theorem turn_enumT {P : Program} {w : World} {K : PySem.W.Frag} {elts : List Expr} {kk : Nat} {tpos : Pos} (a e it : Addr) :
    Turn P w K (.Tuple elts kk tpos) (Itet K a) [e, it] e (fun i h => (∃ old, IsEnum h e it ((i : Nat) : Int) old) ∧ h.IsTupleIter it a i ∧ e ≠ it ∧ e ≠ a) where
  mem := List.mem_cons_self ..
  obj := fun i h st b hb => by
    obtain ⟨⟨old, he⟩, ⟨o, ho, _, hd⟩, _⟩ := st
    rcases List.mem_cons.mp hb with z | z
    · exact ⟨_, by rw [z]; exact he, fun v q => by cases q⟩
    · rw [List.mem_singleton.mp z]
      exact ⟨o, ho, fun v q => by rw [hd] at q; cases q⟩
  keep := fun i h h' st k => ⟨st.1.imp fun old he => k e (by simp) _ he, st.2.1.at fun o q => k it (by simp) o q, st.2.2⟩
  item := by
    intro X hP hw hK hc i pins s σ H E I hf st hg
    subst hP hw hK
    obtain ⟨⟨old, he⟩, hit, hne, hna⟩ := st
    obtain ⟨xs, x, hq, hx⟩ := hg
    obtain ⟨its, rv, p, hz⟩ := I.tuple hq
    obtain ⟨u, hu, ru⟩ := rv.get hx
    have pT : s.heap.IsTuple a its.toArray := p
    have nai : a ≠ it := fun z => by
      obtain ⟨o1, e1, c1, _⟩ := pT
      obtain ⟨o2, e2, c2, _⟩ := hit
      rw [z, e2] at e1
      cases e1
      rw [c2] at c1
      exact absurd (Value.type.inj c1) (by decide)
    have hlt : i < its.toArray.size := by
      have := (List.getElem?_eq_some_iff.1 hu).1
      simpa using this
    have D := draws_tup (prog := X.prog) (w := X.w) (A := X.A.in1) (I.ok.hd hc) it a nai its.toArray
    refine wpAny_pyNext_enum_itemD D he ⟨hit, pT⟩ hlt hne (by simp [hne, hna]) fun y h' tk hy ho hs' hT hsz hk => ?_
    have ey : y = u := by
      have h2 : its[i]? = some y := by simpa using hy
      rw [hu] at h2
      exact (Option.some.inj h2).symm
    subst ey
    have hel : e < s.heap.objs.size := Heap.lt_size he
    refine ⟨_, rfl, wpAny_letOwnedTupleGo_enum (s := { s with heap := h', toks := tk + 1 }) ho fun h'' he' sb => ?_⟩
    have hT2 : h''.get? s.heap.objs.size = some { cls := .type "tuple", data := .seq #[.int i tk, y] } := (sb.2 _ (Nat.ne_of_gt hel)).trans hT
    have new : ObjOk X.prog X.w (upd H s.heap.objs.size (.tup [.int (i : Nat), x])) h'' s.heap.objs.size (.tup [.int (i : Nat), x]) :=
      ⟨by show 2 ≤ sizeLine; decide, [.int i tk, y], .cons ⟨_, rfl⟩ (.cons ru .nil), ⟨_, hT2, rfl, _, rfl⟩⟩
    have I1 := I.turnedNew (t' := tk + 1) (ch := [e, it]) (fun b ob hb q => (sb.2 b (fun z => hb (by simp [z]))).trans (hk b ob (fun z => hb (by simp [z])) (fun z => hb (by simp [z])) q)) hf (Nat.le_refl _) new
    refine ⟨.ref s.heap.objs.size, _, I1, rfl, ⟨_, x, rfl, I.hok.fresh (Nat.le_refl _), rfl, fun ys hy => by rw [I.tuple_inj hy hq]; exact hx⟩, ⟨⟨y, ?_⟩, hs'.1.at fun o q => (sb.2 it (Ne.symm hne)).trans q, hne, hna⟩, fun b hb => ?_⟩
    · rw [show ((i + 1 : Nat) : Int) = (i : Int) + 1 by omega]
      exact he'
    · obtain ⟨o1, e1, _⟩ := hit
      have hb' : b < s.heap.objs.size := by
        rcases List.mem_cons.mp hb with z | z
        · rw [z]; exact hel
        · rw [List.mem_singleton.mp z]; exact Heap.lt_size e1
      rw [upd_ne (Nat.ne_of_lt hb')]
      exact (hf b hb).1
  done := by
    intro X hP hw hK hc i pins s σ H E I hf st hg
    subst hP hw hK
    obtain ⟨⟨old, he⟩, hit, hne, hna⟩ := st
    obtain ⟨xs, hq, hx⟩ := hg
    obtain ⟨its, rv, p, hz⟩ := I.tuple hq
    obtain ⟨f0, f1, f2, f3, f4, f5⟩ := hf it (by simp)
    have hl := rv.length
    have D := draws_end (prog := X.prog) (w := X.w) (A := X.A.in1) (I.ok.hd hc) it a its.toArray i (by simp; omega)
    exact wpAny_pyNext_enum_endD D he ⟨hit, p⟩ fun h' eb => ⟨rfl, I.turned (t' := s.toks) (fun b o hb q => eb b o hb q) f0 f1 f3 f4 f5⟩
  self := fun A i s Q E st h => let ⟨⟨_, he⟩, _⟩ := st; wpAny_pyIter_enum he h
def iEnumA (K : PySem.W.Frag) (ta : TA) : TI := fun σ H R => ta σ H fun vs H1 => ∃ a, vs = [.ref a] ∧ (((∃ xs, SqL K H1 a xs) ∧ R (Ite K a) H1) ∨ ((∃ xs, SqT K H1 a xs) ∧ R (Itet K a) H1))
theorem pi_enumA {X : Cx} {e : Expr} {ta : TA} {p pos tpos : Pos} {elts : List Expr} {kk : Nat} (hg : Gl X "enumerate") (hm : X.mg "enumerate" = none) (ha : PA X [e] ta) (hs : starEach [e] X.env = [(false, eval e X.env)] := by rfl) :
    PI X (.Tuple elts kk tpos) (.Call (.Name "enumerate" p) [e] [] pos) (iEnumA X.K ta) := by
  refine ⟨fun pins s σ H R I h => ?_⟩
  refine Call_ (ld_blt I hg hm boot_enumerate (PyProof.Rows.callWith_type1 (thn (ha.run pos pins s σ H _ I h) fun us s1 ⟨vs, H1, I1, r1, q1⟩ => ?_) hs rfl))
  obtain ⟨a, ex, q⟩ := q1
  subst ex
  cases r1 with
  | cons r rr =>
    cases rr
    cases r
    have fin : ∀ h' : Heap, (∀ b o, s1.heap.get? b = some o → h'.get? b = some o) → ∀ b ∈ [s1.heap.objs.size + 1, s1.heap.objs.size], FpOk X pins H1 b := fun h' hk b hb => by
      have hle : s1.heap.objs.size ≤ b := by
        rcases List.mem_cons.mp hb with z | z
        · omega
        · rw [List.mem_singleton.mp z]; exact Nat.le_refl _
      exact I1.fpOk hle (I1.hok.fresh hle)
    rcases q with ⟨⟨xs, hq⟩, q⟩ | ⟨⟨xs, hq⟩, q⟩
    · obtain ⟨its, rv, p', hz⟩ := I1.list hq
      refine call_enum1 (begins_list a its.toArray) p'.isList fun h' he hit hk => wpAny_pyIter_enum he ?_
      exact ⟨s1.heap.objs.size + 1, [s1.heap.objs.size + 1, s1.heap.objs.size], _, _, H1, rfl, I1.kept (t' := s1.toks) hk, turn_enum a (s1.heap.objs.size + 1) s1.heap.objs.size, ⟨⟨.none, he⟩, ⟨_, hit, rfl, rfl⟩, Nat.succ_ne_self _⟩, fin h' hk, q⟩
    · obtain ⟨its, rv, p', hz⟩ := I1.tuple hq
      have pT : s1.heap.IsTuple a its.toArray := p'
      have hlt : a < s1.heap.objs.size := by obtain ⟨_, z, _⟩ := pT; exact Heap.lt_size z
      refine call_enum1 (begins_tuple a its.toArray) pT fun h' he hit hk => wpAny_pyIter_enum he ?_
      exact ⟨s1.heap.objs.size + 1, [s1.heap.objs.size + 1, s1.heap.objs.size], _, _, H1, rfl, I1.kept (t' := s1.toks) hk, turn_enumT a (s1.heap.objs.size + 1) s1.heap.objs.size, ⟨⟨.none, he⟩, ⟨_, hit, rfl, rfl⟩, Nat.succ_ne_self _, Nat.ne_of_gt (Nat.lt_succ_of_lt hlt)⟩, fin h' hk, q⟩
/-- for i, x in enumerate(a tuple) -/
theorem walk_enumT {K : PySem.W.Frag} {a : Addr} {xs : List V} : Walk (Itet K a) xs.length (fun H => SqT K H a xs) (YPair (fun i => some (.int (i : Nat))) (fun i => xs[i]?)) := by
  refine ⟨fun i _ hi q => ⟨xs, xs[i], q, by simp [hi]⟩, fun _ q => ⟨xs, q, Nat.le_refl _⟩, fun i H v H' _ q y => ?_⟩
  obtain ⟨T, x, h1, h2, h3, h4⟩ := y
  exact ⟨T, .int (i : Nat), x, h1, h2, h3, rfl, h4 xs q⟩
end Odd

namespace Odd
open PySem PySem.Spec PyProof.Rows L2
/-! ### loops -/
section
variable {K : PySem.W.Frag} {a T : Addr} {xs : List V} {g : TG} {tb : TS} {D : Ends} {σ : L2.St} {H : Hp} {tl : TE} {ta : TA} {i j : Nat} {x y : V} {R : L2.St → Hp → Prop}
theorem g_pair (hT : SqT K H T [x, y]) (h : R ((σ.set i (some x)).set j (some y)) H) : gTup K 2 (gCons (gName i) (gCons (gName j) gNil)) (.ref T) σ H R := ⟨T, [x, y], rfl, hT, rfl, x, [y], rfl, y, [], rfl, rfl, h⟩
theorem f_tup (Pv : Nat → L2.St → Hp → Prop) (ht : ∀ R : VK, R (.ref a) H → tl σ H R) (h0 : Pv 0 σ H) (hl : ∀ i σ H, i ≤ xs.length → Pv i σ H → SqT K H a xs)
    (hs : ∀ i x σ H, xs[i]? = some x → Pv i σ H → g x σ H fun σ2 H2 => tb { D with nx := Pv (i + 1), ct := Pv (i + 1), bk := D.nx } σ2 H2) (hd : ∀ σ H, Pv xs.length σ H → D.nx σ H) : tFor (iSeq K tl) g tb D σ H :=
  ht _ ⟨a, rfl, .inr ⟨⟨xs, hl 0 σ H (Nat.zero_le _) h0⟩, for_tup Pv h0 hl hs hd⟩⟩
theorem f_lst (Pv : Nat → L2.St → Hp → Prop) (ht : ∀ R : VK, R (.ref a) H → tl σ H R) (h0 : Pv 0 σ H) (hl : ∀ i σ H, i ≤ xs.length → Pv i σ H → SqL K H a xs)
    (hs : ∀ i x σ H, xs[i]? = some x → Pv i σ H → g x σ H fun σ2 H2 => tb { D with nx := Pv (i + 1), ct := Pv (i + 1), bk := D.nx } σ2 H2) (hd : ∀ σ H, Pv xs.length σ H → D.nx σ H) : tFor (iSeq K tl) g tb D σ H :=
  ht _ ⟨a, rfl, .inl ⟨⟨xs, hl 0 σ H (Nat.zero_le _) h0⟩, for_list Pv h0 hl hs hd⟩⟩
/-- .. the list comes with other things that are made on the way -/
theorem f_lstN (ht : tl σ H fun x H1 => ∃ a xs, x = .ref a ∧ ∃ Pv : Nat → L2.St → Hp → Prop, Pv 0 σ H1 ∧ (∀ i σ H, i ≤ xs.length → Pv i σ H → SqL K H a xs) ∧
    (∀ i x σ H, xs[i]? = some x → Pv i σ H → g x σ H fun σ2 H2 => tb { D with nx := Pv (i + 1), ct := Pv (i + 1), bk := D.nx } σ2 H2) ∧ ∀ σ H, Pv xs.length σ H → D.nx σ H) (mono : ∀ (σ : L2.St) (H : Hp) (Q Q' : VK), (∀ v H1, Q v H1 → Q' v H1) → tl σ H Q → tl σ H Q') : tFor (iSeq K tl) g tb D σ H :=
  mono _ _ _ _ (fun v H1 ⟨a, xs, ev, Pv, h0, hl, hs, hd⟩ => ⟨a, ev, .inl ⟨⟨xs, hl 0 σ H1 (Nat.zero_le _) h0⟩, for_list Pv h0 hl hs hd⟩⟩) ht
theorem w_for {wi : TI} (h : wi σ H fun J H1 => ∃ W : Nat → Nat → L2.St → Hp → Prop, (∃ m, W 0 m σ H1) ∧ ∀ i m σ H, W i m σ H →
  (J.stop i H ∧ D.nx σ H) ∨ (J.go i H ∧ ∃ N : L2.St → Hp → Prop, (∀ σ' H', N σ' H' → ∃ m', m' < m ∧ W (i + 1) m' σ' H') ∧ ∀ x H', J.yld i H x H' → g x σ H' fun σ2 H2 => tb { D with nx := N, ct := N, bk := D.nx } σ2 H2)) : tFor wi g tb D σ H := h
theorem w_isq {RR : It → Hp → Prop} (h : tl σ H fun x H1 => ∃ a, x = .ref a ∧ (((∃ xs, SqL K H1 a xs) ∧ RR (Itl K a) H1) ∨ ((∃ xs, SqT K H1 a xs) ∧ RR (Itt K a) H1))) : iSeq K tl σ H RR := h
/-- for i, x in enumerate(a tuple) -/
theorem f_enumT (Pv : Nat → L2.St → Hp → Prop) (ht : ∀ R : List V → Hp → Prop, R [.ref a] H → ta σ H R) (h0 : Pv 0 σ H) (hl : ∀ i σ H, i ≤ xs.length → Pv i σ H → SqT K H a xs)
    (hs : ∀ k x σ H T, xs[k]? = some x → Pv k σ H → H T = none → tb { D with nx := Pv (k + 1), ct := Pv (k + 1), bk := D.nx } ((σ.set i (some (.int (k : Nat)))).set j (some x)) (upd H T (.tup [.int (k : Nat), x]))) (hd : ∀ σ H, Pv xs.length σ H → D.nx σ H) :
    tFor (iEnumA K ta) (gTup K 2 (gCons (gName i) (gCons (gName j) gNil))) tb D σ H :=
  ht _ ⟨a, rfl, .inr ⟨⟨xs, hl 0 σ H (Nat.zero_le _) h0⟩, for_it walk_enumT Pv h0 hl (fun k x σ H H' hk p y => by
    obtain ⟨T, u, v, e1, e2, e3, e4, e5⟩ := y
    cases e4
    subst e1 e3
    exact g_pair (SqT.of upd_same) (hs k v σ H T e5 p e2)) hd⟩⟩
/-- for i in range(n) -/
theorem f_rng {n : Nat} (Pv : Nat → L2.St → Hp → Prop) (ht : ∀ R : List V → Hp → Prop, R [.int n] H → ta σ H R) (hn : n < 100000) (h0 : Pv 0 σ H)
    (hs : ∀ i σ H, i < n → Pv i σ H → g (.int (i : Nat)) σ H fun σ2 H2 => tb { D with nx := Pv (i + 1), ct := Pv (i + 1), bk := D.nx } σ2 H2) (hd : ∀ σ H, Pv n σ H → D.nx σ H) : tFor (iRng1 ta) g tb D σ H :=
  ht _ ⟨n, rfl, by omega, by omega, by
    rw [Int.toNat_natCast]
    exact for_range Pv h0 (fun k σ H hk p => by rw [Int.zero_add]; exact hs k σ H hk p) hd⟩
end
/-- the last item -/
theorem at_last {α : Type} (xs : List α) (h : xs ≠ []) : atI xs (-1) = some (xs.getLast h) := by
  have hl : 0 < xs.length := List.length_pos_iff.2 h
  have e : ixN xs.length (-1) = some (xs.length - 1) := by
    unfold ixN
    rw [if_neg (by omega), if_pos (by omega)]
    congr 1
    omega
  unfold atI
  rw [e]
  show xs[xs.length - 1]? = _
  rw [List.getLast_eq_getElem, List.getElem?_eq_getElem (by omega)]
theorem fnr_star2 {P : Program} {w : World} {K : PySem.W.Frag} {mg : Str → Option Value} {base : Heap} {x qual p1 p2 pv : Str} {st : Stmt} {f : Addr} {fd : FuncData} {N : List Str} {k : Nat} {sp : Sp} (F : Fun K x qual st f fd) (S : FnScope N ([p1, p2] ++ [pv]) (defScope st))
    (h0 : ∀ (kV doc pm : Value) (an : Option Addr) (cdv ct a b : Value), bindArgs (PySem.W.fnOf x qual (defArgs st) (defBody st) (defScope st) .none kV doc pm an cdv ct) ⟨[a, b], []⟩ = (newTuple [] >>= fun t => pure [(p1, a), (p2, b), (pv, t)]))
    (h1 : ∀ (kV doc pm : Value) (an : Option Addr) (cdv ct a b r : Value) (rs : List Value), bindArgs (PySem.W.fnOf x qual (defArgs st) (defBody st) (defScope st) .none kV doc pm an cdv ct) ⟨a :: b :: r :: rs, []⟩ = (newTuple (r :: rs) >>= fun t => pure [(p1, a), (p2, b), (pv, t)]))
    (hbody : ∀ (cdv : Value) (A : Around) (outer : List Env) (s : Shared) (H : Hp) (vs : List V) (Q : VK) (E : XK), Room k (A.deeper (envOfC qual (defScope st) s.heap.objs.size f cdv)) → sp vs H Q E →
      ∃ t, PSs (cxOf (L2.CX P w) P w K mg base N qual (defScope st) f cdv A outer s H E) (defBody st) t ∧ t { nx := fun _ H' => Q .non H', rt := Q } (start N vs) H) :
    FnR P w K mg base (L2.CX P w) (k + 1) f (fun vs H Q E => ∃ ws rest, vs = ws ++ rest ∧ ws.length = [p1, p2].length ∧ rest.length ≤ sizeLine ∧ ∀ p, H p = Option.none → sp (ws ++ [V.ref p]) (upd H p (.tup rest)) Q E) :=
  fnr_star F S (fun kV doc pm an cdv ct us rest hl => StX.bind_star2 (B := fun l => bindArgs (PySem.W.fnOf x qual (defArgs st) (defBody st) (defScope st) .none kV doc pm an cdv ct) ⟨l, []⟩) (h0 kV doc pm an cdv ct) (h1 kV doc pm an cdv ct) us rest hl) hbody
section
variable {X0 : Cx} {E : XK} {H : Hp} {Q : VK} {l b : Addr} {xs zs : List V}
theorem s_cat (h : H l = some (.lst xs)) (h' : H b = some (.lst zs)) (hz : xs.length + zs.length ≤ sizeLine) (q : ∀ p, H p = none → Q (.ref p) (upd H p (.lst (xs ++ zs)))) : ∃ r, OpD X0 E (binaryOp .Add) r ∧ r (.ref l) (.ref b) H Q :=
  ⟨rCat, fun _ _ _ => op_cat, l, b, xs, zs, rfl, rfl, h, h', hz, q⟩
theorem s_rep {k : Int} (h : H l = some (.lst xs)) (h0 : -(2 ^ 63) ≤ k) (h1 : k < 2 ^ 63) (hz : xs.length * k.toNat ≤ sizeLine) (q : ∀ p, H p = none → Q (.ref p) (upd H p (.lst (List.replicate k.toNat xs).flatten))) : ∃ r, OpD X0 E (binaryOp .Mult) r ∧ r (.ref l) (.int k) H Q :=
  ⟨rRep, fun _ _ _ => op_rep, l, k, xs, rfl, rfl, h, h0, h1, hz, q⟩
theorem s_catT (h : SqT X0.K H l xs) (h' : SqT X0.K H b zs) (hz : xs.length + zs.length ≤ sizeLine) (q1 : xs = [] → Q (.ref b) H) (q2 : xs ≠ [] → zs = [] → Q (.ref l) H) (q3 : xs ≠ [] → zs ≠ [] → ∀ p, H p = none → Q (.ref p) (upd H p (.tup (xs ++ zs)))) : ∃ r, OpD X0 E (binaryOp .Add) r ∧ r (.ref l) (.ref b) H Q :=
  ⟨rCatA X0.K, fun X l _ => by rw [← l.K]; exact op_catA, l, b, xs, zs, rfl, rfl, h, h', hz, q1, q2, q3⟩
end
theorem flat1 {α : Type} (x : α) : ∀ n : Nat, (List.replicate n [x]).flatten = List.replicate n x
  | 0 => rfl
  | n + 1 => by rw [List.replicate_succ, List.flatten_cons, flat1 x n]; rfl
theorem pa_starA {X0 X : Cx} {e : Expr} {es : List Expr} {te : TE} {t : TA} {p : Pos} (l : Like X0 X) (he : PE X e te) (hr : PA X es t) (hs : starEach (.Starred e p :: es) X.env = (true, eval e X.env) :: starEach es X.env := by rfl) : PA X (.Starred e p :: es) (StX.tStar X0.K te t) := by
  rw [← l.K]
  exact StX.pa_star he hr hs
theorem w_star {K : PySem.W.Frag} {te : TE} {t : TA} {σ : L2.St} {H : Hp} {Q : List V → Hp → Prop} (h : StX.tStar K te t σ H Q) : StX.tStar K te t σ H Q := h
end Odd

namespace Odd
open PySem PySem.Spec PyProof.Rows L2
/-! ### comprehensions whose items are not known beforehand, and which change what stands at S -/
/-- one turn, from H1 with the items o -/
def TurnI (S : Addr → Prop) (Pv : Nat → List V → Hp → Prop) (i : Nat) (tt : TT) (te : TE) (σ2 : L2.St) (H1 : Hp) (o : List V) : Prop :=
  ∀ (K1 : VK) (K0 : Hp → Prop), (∀ y H4, SameB S H1 H4 → Pv (i + 1) (o ++ [y]) H4 → K1 y H4) → (∀ H3, SameB S H1 H3 → Pv (i + 1) o H3 → K0 H3) → tt σ2 H1 fun b H3 => if b = true then te σ2 H3 K1 else K0 H3
theorem turnI_map {S : Addr → Prop} {Pv : Nat → List V → Hp → Prop} {i : Nat} {te : TE} {σ2 : L2.St} {H1 : Hp} {o : List V} (h : ∀ R : VK, (∀ y H4, SameB S H1 H4 → Pv (i + 1) (o ++ [y]) H4 → R y H4) → te σ2 H1 R) : TurnI S Pv i tYes te σ2 H1 o := fun K1 K0 k1 _ => by
  show (if true = true then te σ2 H1 K1 else K0 H1)
  rw [if_pos rfl]
  exact h K1 k1
section
variable {K : PySem.W.Frag} {J : It} {n : Nat} {G : Hp → Prop} {Y : Nat → Hp → V → Hp → Prop} {g : TG} {tt : TT} {te : TE} {vs : List Nat} {σ : L2.St} {H : Hp} {Q : VK}
theorem SameB.upd {S : Addr → Prop} {H H' : Hp} {D : Addr} {u : HO} (s : SameB S H H') (h : H D = none) : SameB S H (upd H' D u) := fun b o nb e => by rw [upd_ne (ne_of_none e h)]; exact s b o nb e
theorem c_walkI (S : Addr → Prop) (Pv : Nat → List V → Hp → Prop) (w : Walk J n G Y) (hS : ∀ b, S b → H b ≠ none) (h0 : ∀ D, H D = none → Pv 0 [] (upd H D (.lst []))) (hz : ∀ i o H', i < n → Pv i o H' → o.length < 100000) (hG : ∀ H', SameB S H H' → G H')
    (hD : ∀ i o H' D l l', H D = none → H' D = some (.lst l) → Pv i o H' → Pv i o (upd H' D (.lst l')))
    (turn : ∀ i x H1 H' o, i < n → SameB S H H1 → Pv i o H1 → Y i H1 x H' → ∀ R : L2.St → Hp → Prop, (∀ σ2, wipe σ2 vs = wipe σ vs → SameB S H1 H' → TurnI S Pv i tt te σ2 H' o → R σ2 H') → g x (wipe σ vs) H' R)
    (q : ∀ p o H', H p = none → SameB S H H' → Pv n o H' → H' p = some (.lst o) → Q (.ref p) H') :
    ∀ D, H D = none → ∃ W : Nat → Nat → Hp → Prop, (∃ m, W 0 m (upd H D (.lst []))) ∧ ∀ i m H, W i m H →
      (J.stop i H ∧ Q (.ref D) H) ∨ (J.go i H ∧ ∃ Nx : Hp → Prop, (∀ H', Nx H' → ∃ m', m' < m ∧ W (i + 1) m' H') ∧ ∀ x H', J.yld i H x H' → g x (wipe σ vs) H' fun σ2 H2 => wipe σ2 vs = wipe σ vs ∧ tt σ2 H2 fun b H3 =>
        if b = true then te σ2 H3 fun y H4 => ∃ acc, H4 D = some (.lst acc) ∧ acc.length < sizeLine ∧ Nx (upd H4 D (.lst (acc ++ [y]))) else Nx H3) := fun D hDn => by
  have nS : ¬ S D := fun z => hS D z hDn
  refine lc_it w (Qd := fun H' => Q (.ref D) H') (fun i H' => ∃ o, SameB S H H' ∧ H' D = some (.lst o) ∧ Pv i o H') ⟨[], (SameB.refl H).upd hDn, upd_same, h0 D hDn⟩ (fun i H' _ p => hG H' p.choose_spec.1) (fun i x H1 H' hi p y => ?_) fun H' p => ?_
  · obtain ⟨o, s1, d1, p1⟩ := p
    refine turn i x H1 H' o hi s1 p1 y _ fun σ2 ew s2 t => ⟨ew, ?_⟩
    have d2 : H' D = some (.lst o) := s2 _ _ nS d1
    exact t _ _ (fun y H4 s4 p4 => ⟨o, s4 _ _ nS d2, Nat.lt_of_lt_of_le (hz i o H1 hi p1) (by decide), o ++ [y], ((s1.trans s2).trans s4).upd hDn, upd_same, hD _ _ _ _ _ _ hDn (s4 _ _ nS d2) p4⟩)
      fun H3 s3 p3 => ⟨o, (s1.trans s2).trans s3, s3 _ _ nS d2, p3⟩
  · obtain ⟨o, s1, d1, p1⟩ := p
    exact q D o H' hDn s1 p1 d1
variable {a b : Addr} {xs ys : List V} {j : Nat}
/-- over a tuple, a list: the target a name -/
theorem c_tupI (S : Addr → Prop) (Pv : Nat → List V → Hp → Prop) (hS : ∀ b, S b → H b ≠ none) (h0 : ∀ D, H D = none → Pv 0 [] (upd H D (.lst []))) (hz : ∀ i o H', i < xs.length → Pv i o H' → o.length < 100000) (hx : ∀ H', SameB S H H' → SqT K H' a xs)
    (hD : ∀ i o H' D l l', H D = none → H' D = some (.lst l) → Pv i o H' → Pv i o (upd H' D (.lst l'))) (hw : ∀ x, wipe ((wipe σ vs).set j (some x)) vs = wipe σ vs)
    (turn : ∀ i x H' o, xs[i]? = some x → SameB S H H' → Pv i o H' → TurnI S Pv i tt te ((wipe σ vs).set j (some x)) H' o)
    (q : ∀ p o H', H p = none → SameB S H H' → Pv xs.length o H' → H' p = some (.lst o) → Q (.ref p) H')
    {tl : TE} (ht : ∀ R : VK, R (.ref a) H → tl σ H R) : tLc (iSeq K tl) (gName j) tt te vs σ H Q :=
  ht _ ⟨a, rfl, .inr ⟨⟨xs, hx H (SameB.refl H)⟩, c_walkI S Pv walk_tupS hS h0 hz hx hD (fun i x H1 H' o hi s p y R k => by
    obtain ⟨e1, e2⟩ := y
    subst e1
    exact k _ (hw x) (SameB.refl _) (turn i x _ o e2 s p)) q⟩⟩
theorem c_listI (S : Addr → Prop) (Pv : Nat → List V → Hp → Prop) (hS : ∀ b, S b → H b ≠ none) (h0 : ∀ D, H D = none → Pv 0 [] (upd H D (.lst []))) (hz : ∀ i o H', i < xs.length → Pv i o H' → o.length < 100000) (hx : ∀ H', SameB S H H' → SqL K H' a xs)
    (hD : ∀ i o H' D l l', H D = none → H' D = some (.lst l) → Pv i o H' → Pv i o (upd H' D (.lst l'))) (hw : ∀ x, wipe ((wipe σ vs).set j (some x)) vs = wipe σ vs)
    (turn : ∀ i x H' o, xs[i]? = some x → SameB S H H' → Pv i o H' → TurnI S Pv i tt te ((wipe σ vs).set j (some x)) H' o)
    (q : ∀ p o H', H p = none → SameB S H H' → Pv xs.length o H' → H' p = some (.lst o) → Q (.ref p) H')
    {tl : TE} (ht : ∀ R : VK, R (.ref a) H → tl σ H R) : tLc (iSeq K tl) (gName j) tt te vs σ H Q :=
  ht _ ⟨a, rfl, .inl ⟨⟨xs, hx H (SameB.refl H)⟩, c_walkI S Pv walk_listS hS h0 hz hx hD (fun i x H1 H' o hi s p y R k => by
    obtain ⟨e1, e2⟩ := y
    subst e1
    exact k _ (hw x) (SameB.refl _) (turn i x _ o e2 s p)) q⟩⟩
/-- over range(n) -/
theorem c_rngI {ta : TA} {n : Nat} (S : Addr → Prop) (Pv : Nat → List V → Hp → Prop) (hn : n < 100000) (hS : ∀ b, S b → H b ≠ none) (h0 : ∀ D, H D = none → Pv 0 [] (upd H D (.lst []))) (hz : ∀ i o H', i < n → Pv i o H' → o.length < 100000)
    (hD : ∀ i o H' D l l', H D = none → H' D = some (.lst l) → Pv i o H' → Pv i o (upd H' D (.lst l'))) (hw : ∀ x, wipe ((wipe σ vs).set j (some x)) vs = wipe σ vs)
    (turn : ∀ (i : Nat) H' o, i < n → SameB S H H' → Pv i o H' → TurnI S Pv i tt te ((wipe σ vs).set j (some (.int i))) H' o)
    (q : ∀ p o H', H p = none → SameB S H H' → Pv n o H' → H' p = some (.lst o) → Q (.ref p) H')
    (ht : ∀ R : List V → Hp → Prop, R [.int n] H → ta σ H R) : tLc (iRng1 ta) (gName j) tt te vs σ H Q :=
  ht _ ⟨n, rfl, by omega, by omega, by
    rw [Int.toNat_natCast]
    exact c_walkI S Pv (Y := YFn fun i => .int (0 + (i : Int))) (G := fun _ => True) ⟨fun i _ hi _ => hi, fun _ _ => Nat.le_refl _, fun i H x H' _ _ y => y⟩ hS h0 hz (fun _ _ => True.intro) hD (fun i x H1 H' o hi s p y R k => by
      obtain ⟨e1, e2⟩ := y
      subst e1 e2
      refine k _ (hw _) (SameB.refl _) ?_
      show TurnI S Pv i tt te ((wipe σ vs).set j (some (.int ((0 : Int) + (i : Int))))) H' o
      rw [Int.zero_add]
      exact turn i _ o hi s p) q⟩
end
theorem pi_seqA {X0 X : Cx} {tg e : Expr} {te : TE} (l : Like X0 X) (he : PE X e te) : PI X tg e (iSeq X0.K te) := by
  rw [← l.K]
  exact pi_seq he
section
variable {X0 : Cx} {E : XK} {H : Hp} {Q : VK} {l : Addr}
theorem inV_int (z : Int) : ∀ ss : List Int, inV (.int z) (ss.map V.int) = decide (z ∈ ss)
  | [] => rfl
  | s :: ss => by
    have ih := inV_int z ss
    unfold inV at ih ⊢
    rw [List.map_cons, List.any_cons, ih]
    show ((s == z) || decide (z ∈ ss)) = decide (z ∈ s :: ss)
    by_cases h : z ∈ s :: ss
    · rw [decide_eq_true h]
      rcases List.mem_cons.1 h with e | e
      · rw [e, beq_self_eq_true, Bool.true_or]
      · rw [decide_eq_true e, Bool.or_true]
    · rw [decide_eq_false h, decide_eq_false (fun e => h (List.mem_cons_of_mem _ e)), Bool.or_false]
      exact beq_eq_false_iff_ne.2 fun e => h (by rw [e]; exact List.mem_cons_self ..)
theorem s_in {z : Int} {ss : List Int} (h : SqL X0.K H l (ss.map V.int) ∨ SqT X0.K H l (ss.map V.int)) (q : Q (.bl (decide (z ∈ ss))) H) : ∃ r, OpD X0 E (compareOp .In) r ∧ r (.int z) (.ref l) H Q :=
  ⟨rIn X0.K false, fun X li _ => by rw [← li.K]; exact op_in_seq, l, _, rfl, h, rfl, by rw [List.all_map, List.all_eq_true]; exact fun _ _ => rfl, by
    show Q (.bl (inV (.int z) (ss.map V.int))) H
    rw [inV_int]
    exact q⟩
theorem w_par {i j : Nat} {ta : TA} {D : Ends} {σ : L2.St} (h : ta σ H fun vs H1 => ∃ v w, vs = [v, w] ∧ D.nx ((σ.set i (some v)).set j (some w)) H1) : tPar i j ta D σ H := h
end
section
theorem w_coA {X0 : Cx} {E : XK} {tf : TE} {t : TA} {σ : L2.St} {H : Hp} {Q : VK} (h : tf σ H fun y H1 => ∃ a, y = V.ref a ∧ t σ H1 fun vs H2 => (∃ C dx fs, H2 a = some (.ins C dx fs)) ∧ ∃ r, CaD X0 E (.ref a) r ∧ r vs H2 Q) : tCoA X0 E tf t σ H Q := h
theorem w_cmA {X0 : Cx} {E : XK} {m : Str} {ta : TE} {t : TA} {σ : L2.St} {H : Hp} {Q : VK} (h : ta σ H fun x H1 => ∃ C mc p g k sp, x = .ref C ∧ ClX.CRead X0.K C mc ∧ ClX.CMet X0.K C mc m p g ∧ Fn X0 k g sp ∧ Room k X0.A ∧ t σ H1 fun vs H2 => sp (.ref C :: vs) H2 Q E) : tCmA X0 E m ta t σ H Q := h
end
/-! ### round the table -/
def up (lo : Int) : Nat → List Int
  | 0 => []
  | k + 1 => lo :: up (lo + 1) k
theorem up_snoc : ∀ (k : Nat) (lo : Int), up lo (k + 1) = up lo k ++ [lo + (k : Int)]
  | 0, lo => by show [lo] = [lo + ((0 : Nat) : Int)]; rw [show lo + ((0 : Nat) : Int) = lo by omega]
  | k + 1, lo => by
    show lo :: up (lo + 1) (k + 1) = lo :: (up (lo + 1) k ++ [lo + ((k + 1 : Nat) : Int)])
    rw [up_snoc k (lo + 1), show lo + 1 + (k : Int) = lo + ((k + 1 : Nat) : Int) by omega]
theorem up_mem : ∀ {k : Nat} {lo x : Int}, x ∈ up lo k → lo ≤ x ∧ x < lo + (k : Int)
  | 0, _, _, h => by simp [up] at h
  | k + 1, lo, x, h => by
    rcases List.mem_cons.1 h with e | e
    · rw [e]; omega
    · have := up_mem e
      omega
/-- the place after j steps from m -/
def pl (n : Nat) (m : Int) (j : Nat) : Int := if m + (j : Int) < (n : Int) then m + (j : Int) else m + (j : Int) - (n : Int)
theorem pl_next {n : Nat} {m : Int} {j : Nat} (h0 : 0 ≤ m) (h1 : m < (n : Int)) (hj : j < n) : (pl n m j + 1) % (n : Int) = pl n m (j + 1) := by
  unfold pl
  by_cases a : m + (j : Int) < (n : Int)
  · rw [if_pos a]
    by_cases b : m + ((j + 1 : Nat) : Int) < (n : Int)
    · rw [if_pos b, Int.emod_eq_of_lt (by omega) (by omega)]
      omega
    · rw [if_neg b, show m + (j : Int) + 1 = (n : Int) by omega, Int.emod_self]
      omega
  · rw [if_neg a, if_neg (by omega), Int.emod_eq_of_lt (by omega) (by omega)]
    omega
theorem pl_range {n : Nat} {m : Int} {j : Nat} (h0 : 0 ≤ m) (h1 : m < (n : Int)) (hj : j ≤ n) : 0 ≤ pl n m j ∧ pl n m j < (n : Int) := by
  unfold pl
  split <;> omega
/-- the places of the first j steps -/
def pls (n : Nat) (m : Int) : Nat → List Int
  | 0 => []
  | j + 1 => pls n m j ++ [pl n m (j + 1)]
theorem pls_low {n : Nat} {m : Int} : ∀ {j : Nat}, m + (j : Int) < (n : Int) → pls n m j = up (m + 1) j
  | 0, _ => rfl
  | j + 1, h => by
    rw [up_snoc]
    show pls n m j ++ [pl n m (j + 1)] = _
    rw [pls_low (by omega)]
    unfold pl
    rw [if_pos h, show m + ((j + 1 : Nat) : Int) = m + 1 + (j : Int) by omega]
theorem pls_high {n : Nat} {m : Int} {k : Nat} (hk : m + (k : Int) + 1 = (n : Int)) : ∀ i : Nat, (i : Int) ≤ m + 1 → pls n m (k + i) = up (m + 1) k ++ up 0 i
  | 0, _ => by rw [Nat.add_zero, pls_low (by omega)]; show _ = _ ++ []; rw [List.append_nil]
  | i + 1, h => by
    show pls n m (k + i) ++ [pl n m (k + i + 1)] = _
    rw [pls_high hk i (by omega), up_snoc, List.append_assoc]
    unfold pl
    rw [if_neg (by omega), show m + ((k + i + 1 : Nat) : Int) - (n : Int) = 0 + (i : Int) by omega]
theorem pls_all {n : Nat} {m : Int} (h0 : 0 ≤ m) (h1 : m < (n : Int)) : pls n m n = up (m + 1) (n - 1 - m.toNat) ++ up 0 (m.toNat + 1) := by
  have h := pls_high (n := n) (m := m) (k := n - 1 - m.toNat) (by omega) (m.toNat + 1) (by omega)
  rw [show n - 1 - m.toNat + (m.toNat + 1) = n by omega] at h
  exact h
/-- who is there of the places -/
def hits (n : Nat) (m : Int) (ss : List Int) (j : Nat) : List Int := (pls n m j).filter fun p => decide (p ∈ ss)
theorem hits_next (n : Nat) (m : Int) (ss : List Int) (j : Nat) : hits n m ss (j + 1) = if pl n m (j + 1) ∈ ss then hits n m ss j ++ [pl n m (j + 1)] else hits n m ss j := by
  unfold hits
  show (pls n m j ++ [pl n m (j + 1)]).filter _ = _
  rw [List.filter_append]
  by_cases h : pl n m (j + 1) ∈ ss
  · rw [if_pos h]; simp [List.filter_cons, h]
  · rw [if_neg h]; simp [List.filter_cons, h]
theorem hits_pre (n : Nat) (m : Int) (ss : List Int) (j : Nat) : ∀ i, ∃ r, hits n m ss (j + i) = hits n m ss j ++ r
  | 0 => ⟨[], by rw [List.append_nil]; rfl⟩
  | i + 1 => by
    obtain ⟨r, hr⟩ := hits_pre n m ss j i
    rw [show j + (i + 1) = j + i + 1 from rfl, hits_next, hr]
    split
    · exact ⟨_, List.append_assoc ..⟩
    · exact ⟨r, rfl⟩
end Odd

namespace Odd
open PySem PySem.Spec PyProof.Rows L2
/-! ### x != y by the own == (what the root class's own word does) -/
theorem ne_bind (self : Value) : bindSpecial (.builtin "object.__ne__") self = pure (.builtin "object.__ne__", [self]) :=
  (Slot.of (T := "object") (name := "__ne__") (owner := "object") (n := "__ne__") (by rw [typeLookup_type, builtinLookup_eq_fast]; kernel_rfl) (by decide +kernel) (by decide +kernel) (by decide +kernel)
    (.inl (by decide +kernel)) (by rw [isSubtype_type]; kernel_rfl)).bind self
section
variable {X : Cx} {CX : CXT} {C g : Addr} {n : Nat} {sp : Sp} {E : XK}
theorem own_ne {prog : Program} {w : World} {A : Around} {K : PySem.W.Frag} {x : Addr} {ox : Obj} {od : Option Obj} {y : Value} {Ev : Value → Shared → Prop} {s : Shared} {Q : Option Value → Shared → Prop} (KX : K.In s.heap) (J : PySem.W.InstAt s.heap x ox C od)
    (ne : PySem.W.findIn K (.ref C) "__ne__" = some (some (.builtin "object.__ne__"))) (ob : PySem.W.subIn K (.ref C) (.type "object") = some true) (hs : PySem.W.findIn K (.ref C) "__eq__" = some (some (.ref g))) (hf : PySem.W.isFn K (.ref g) = true) (hu : A.in1.units < cLine)
    (hcall : wpAny (model prog w) A.in1 (call (.ref g) [.ref x, y]) (fun v s' => ∃ b, v = .bool b ∧ Q (some (.bool (!b))) s') Ev s) :
    wpAny (model prog w) A (callSpecialIfBound? (.ref x) "__ne__" [y]) Q Ev s := by
  have body : wpAny (model prog w) A (call (.builtin "object.__ne__") [.ref x, y]) (fun v => Q (some v)) Ev s := by
    have ha := F.cmpArgs_ne (.ref x) y
    refine wpAny_call (codeAny_call_builtin (by decide +kernel) F.cmpEntry_ne ?_)
    simp only [checkBuiltinCall, F.cmpKind_ne, F.cmpSplit_ne]
    refine wpAny_bind ?_
    unfold isInstance
    refine wpAny_bind (J.type.here ((PySem.W.looks_subIn KX ob).here ?_))
    repeat (first
      | with_reducible refine wpAny_cRoomFor hu ?_
      | with_reducible refine wpAny_bind (wpAny_cRoomFor hu ?_)
      | (refine wpAny_bind (m := callSpecialIfBound? (.ref x) (Str.ofString "__eq__") [y]) (PySem.W.ifBound_K KX J hs hf (wpAny_mono hcall (fun v s' hv => by
          obtain ⟨b, rfl, hq⟩ := hv
          repeat (first | exact hq | exact wpAny_pure hq | exact wpAny_truthy_bool hq | (refine wpAny_bind (m := truthy (.bool _)) (wpAny_truthy_bool ?_)) | wp_step)) fun _ _ e => e)))
      | wp_step)
  simp only [callSpecialIfBound?, bindSpecialIfBound?]
  refine wpAny_holding (wpAny_bind (wpAny_bind (wpAny_bind (J.type.here ((PySem.W.looks_findIn KX ne).here ?_)))))
  have back : wpAny (model prog w) A (call (.builtin "object.__ne__") ([.ref x] ++ [y]) >>= fun v => pure (some v)) Q Ev s := wpAny_bind (wpAny_mono body (fun v s' h' => wpAny_pure h') fun _ _ h' => h')
  simp only [ne_bind]
  refine wpAny_bind (wpAny_askSetting (wpAny_ite ?_))
  split
  · exact wpAny_bind (wpAny_pure (wpAny_pure back))
  · exact wpAny_tryCatch (wpAny_bind (wpAny_pure (wpAny_pure back)))
/-- x != y -/
def rNeI (K : PySem.W.Frag) (C : Addr) (sp : Sp) (E : XK) : R2 := fun x y H Q => ∃ a b dx fs t, x = .ref a ∧ y = .ref b ∧ H a = some (.ins C dx fs) ∧ TyX K H y t ∧ PySem.W.notFirst K C t = true ∧ sp [x, y] H (fun z H' => ∃ k, z = .bl k ∧ Q (.bl (!k)) H') E
theorem op_neI (ne : PySem.W.findIn X.K (.ref C) "__ne__" = some (some (.builtin "object.__ne__"))) (ob : PySem.W.subIn X.K (.ref C) (.type "object") = some true) (hs : PySem.W.findIn X.K (.ref C) "__eq__" = some (some (.ref g))) (hf : PySem.W.isFn X.K (.ref g) = true)
    (F : FnR X.prog X.w X.K X.mg X.base CX n g sp) (hr : Room (n + 1) X.A) (hx : Passes CX X E) : OpR X (compareOp .NotEq) (rNeI X.K C sp E) := by
  intro pins s σ H x y v u Q I rx ry h
  obtain ⟨a, b, dx, fs, t, rfl, rfl, ha, ty, hn, q⟩ := h
  cases (show v = Value.ref a from rx)
  cases (show u = Value.ref b from ry)
  obtain ⟨ox, od, J⟩ := inst_at I ha
  obtain ⟨PP, Z, hz, _⟩ := kit_of I ry ty
  have one : wpAny (model X.prog X.w) X.A (tryCompare (.ref a) "__ne__" (.ref b)) (fun r s' => ∃ v, r = some v ∧ EP X pins σ Q v s') X.xe s := by
    unfold tryCompare
    refine wpAny_bind (own_ne I.kIn J ne ob hs hf hr.in1.units0 (wpAny_mono (call_in1 (vs := [.ref a, .ref b]) F hr hx I (.cons rfl (.cons ry .nil)) q) (fun w s' z => ?_) fun _ _ x => x))
    obtain ⟨z', H', I', rz, k, rfl, qz⟩ := z
    cases rz
    exact ⟨k, rfl, wpAny_pure ⟨_, rfl, .bl (!k), H', I', rfl, qz⟩⟩
  show wpAny _ _ (richCompare .NotEq (.ref a) (.ref b)) _ _ s
  unfold richCompare
  simp only [oneThing_ref]
  refine wpAny_holding (wpAny_bind (wpAny_cRoomFor hr.units0 ?_))
  refine wpAny_bind (J.type.here (wpAny_bind ((Z.ty _ _ I.kIn hz).here ?_)))
  split
  · rename_i qq
    have e : PySem.W.subIn X.K t (.ref C) = some false := by
      rcases Bool.or_eq_true_iff.mp hn with e | e
      · rw [beq_iff_eq.mp e] at qq; simp at qq
      · exact beq_iff_eq.mp e
    refine wpAny_bind ((PySem.W.looks_subIn I.kIn e).here ?_)
    simp only [Bool.false_eq_true, if_false]
    refine wpAny_bind (wpAny_mono one (fun r s' z => ?_) fun _ _ e => e)
    obtain ⟨v, rfl, hq⟩ := z
    exact wpAny_pure hq
  · refine wpAny_bind (wpAny_pure ?_)
    simp only [Bool.false_eq_true, if_false]
    refine wpAny_bind (wpAny_mono one (fun r s' z => ?_) fun _ _ e => e)
    obtain ⟨v, rfl, hq⟩ := z
    exact wpAny_pure hq
end
theorem s_neOwn {X0 : Cx} {E : XK} {H : Hp} {Q : VK} {k : Nat} {C g a b dx : Addr} {fs : List (Str × V)} {sp : Sp} {t : Value} (N : OwnNe X0.K C) (ob : PySem.W.subIn X0.K (.ref C) (.type "object") = some true) (M : Meth X0.K C "__eq__" g) (F : Fn X0 k g sp) (hr : Room (k + 1) X0.A) (ha : H a = some (.ins C dx fs)) (ty : TyX X0.K H (.ref b) t) (hn : PySem.W.notFirst X0.K C t = true)
    (q : sp [.ref a, .ref b] H (fun z H' => ∃ k, z = .bl k ∧ Q (.bl (!k)) H') E) : ∃ r, OpD X0 E (compareOp .NotEq) r ∧ r (.ref a) (.ref b) H Q :=
  ⟨rNeI X0.K C sp E, fun X l h => by rw [← l.K]; exact op_neI (by rw [l.K]; exact N.ne) (by rw [l.K]; exact ob) (by rw [l.K]; exact M.at_) (by rw [l.K]; exact M.fn) (l.fn F) (l.room hr) h, a, b, dx, fs, t, rfl, rfl, ha, ty, hn, q⟩
theorem w_cb {r : List V → Hp → VK → Prop} {t : TA} {σ : L2.St} {H : Hp} {Q : VK} (h : t σ H fun vs H1 => r vs H1 Q) : tCB r t σ H Q := h
theorem w_augI {X0 : Cx} {E : XK} {i : Nat} {f : Value → Value → Sem Value} {te : TE} {D : Ends} {σ : L2.St} {H : Hp} {v : V} (hs : σ[i]? = some (some v)) (h : te σ H fun y H1 => ∃ r, OpD X0 E f r ∧ r v y H1 fun z H2 => D.nx (σ.set i (some z)) H2) : tAugA X0 E i f te D σ H := ⟨v, hs, h⟩
end Odd

namespace Odd
open PySem PySem.Spec PyProof.Rows L2
/-! ### e[::s] where s comes to -1 -/
section
variable {X0 X : Cx} {e se : Expr} {te ts : TE} {p3 pos : Pos}
def tRevA (K : PySem.W.Frag) (te ts : TE) : TE := fun σ H Q => te σ H fun x H1 => ∃ a xs, x = .ref a ∧ SqL K H1 a xs ∧ ts σ H1 fun y H2 => ∃ i, y = .int i ∧ some i = some (-1 : Int) ∧ H2 = H1 ∧ ∀ p, H1 p = none → Q (.ref p) (upd H1 p (.lst xs.reverse))
theorem pe_revA (l : Like X0 X) (he : PE X e te) (hse : PE X se ts) : PE X (.Subscript e (.Slice none none (some se) p3) pos) (tRevA X0.K te ts) := by
  refine ⟨fun pins s σ H Q I h => ?_⟩
  refine Subscript_ (thn (he.run pins s σ H _ I h) fun v s1 ⟨x, H1, I1, r1, q1⟩ => ?_)
  obtain ⟨a, xs, ex, hx, q⟩ := q1
  subst ex
  cases r1
  rw [← l.K] at hx
  have hst : PO X (some se) (tPart ts) := po_some hse
  refine wpAny_Slice (thn (po_none.run pins s1 σ H1 (fun o H2 => o = none ∧ H2 = H1) I1 ⟨rfl, rfl⟩) fun vl s2 ⟨l, H2, I2, pl, el, e2⟩ => ?_)
  subst el e2
  refine thn (po_none.run pins s2 σ H2 (fun o H3 => o = none ∧ H3 = H2) I2 ⟨rfl, rfl⟩) fun vu s3 ⟨u, H3, I3, pu, eu, e3⟩ => ?_
  subst eu e3
  refine thn (hst.run pins s3 σ H3 (fun o H4 => o = some (-1) ∧ H4 = H3 ∧ ∀ p, H3 p = none → Q (.ref p) (upd H3 p (.lst xs.reverse))) I3 q) fun vs s4 ⟨o, H4, I4, ps, eo, e4, q⟩ => ?_
  subst eo e4
  have I5 : Inv X pins σ H4 { s4 with heap := s4.heap.push { cls := .type "slice", data := .fields #[vl, vu, vs] } } := I4.kept (t' := s4.toks) fun b ob q => Heap.get?_push_of_some _ q
  obtain ⟨its, r, ht, hz⟩ := I5.list hx
  have hlen := r.length
  show wpAny (model X.prog X.w) X.A (subscriptTail e (.Slice none none (some se) p3) (.ref a) (.ref s4.heap.objs.size)) (EP X pins σ Q) X.xe { s4 with heap := s4.heap.push { cls := .type "slice", data := .fields #[vl, vu, vs] } }
  refine tail_any (ops := [.ref a, .ref s4.heap.objs.size]) ht.isList.typeIs (PySem.slot_list_getitem.lookup) ?_ (by with_unfolding_all rfl)
  refine wpAny_getItem_list_slice ht.isList (Heap.IsSliceOf.new _ vl vu vs) pl pu ps (by decide) ?_ (by rw [List.size_toArray]; omega)
  rw [PySem.W.krv_pick]
  refine ⟨.ref _, _, I5.laid (t' := s4.toks) (o := .lst xs.reverse) (fun b ob q => Heap.get?_push_of_some _ q) (Nat.le_refl _) ?_, rfl, q _ (I5.hok.fresh (Nat.le_refl _))⟩
  exact ⟨by rw [List.length_reverse]; exact hz, _, 0, r.reverse, Heap.get?_push_size _ rfl⟩
theorem w_rev {K : PySem.W.Frag} {σ : L2.St} {H : Hp} {Q : VK} (h : te σ H fun x H1 => ∃ a xs, x = .ref a ∧ SqL K H1 a xs ∧ ts σ H1 fun y H2 => ∃ i, y = .int i ∧ some i = some (-1 : Int) ∧ H2 = H1 ∧ ∀ p, H1 p = none → Q (.ref p) (upd H1 p (.lst xs.reverse))) : tRevA K te ts σ H Q := h
theorem w_par3 {i j l : Nat} {ta : TA} {D : Ends} {σ : L2.St} {H : Hp} (h : ta σ H fun vs H1 => ∃ u v w, vs = [u, v, w] ∧ D.nx (((σ.set i (some u)).set j (some v)).set l (some w)) H1) : tPar3 i j l ta D σ H := h
end
end Odd

namespace Odd
open PySem PySem.Spec PyProof.Rows L2 LamX NdefX
/-! ### a base that also holds what is not tracked now: the maker's cells -/
section
def subB (s : Shared) (H : Hp) (l : List Addr) : Heap := PySem.W.hideAll (hidT s.heap H) l
theorem subB_of {s : Shared} {H : Hp} {l : List Addr} {b : Addr} {o : Obj} (e : (subB s H l).get? b = some o) : s.heap.get? b = some o ∧ H b = none ∧ b ∉ l :=
  ⟨(of_hidT (PySem.W.of_hideAll l e)).1, (of_hidT (PySem.W.of_hideAll l e)).2, fun z => by
    have q : (subB s H l).get? b = none := PySem.W.hideAll_none l z
    rw [q] at e
    cases e⟩
theorem subB_get {s : Shared} {H : Hp} {l : List Addr} {b : Addr} {o : Obj} (e : s.heap.get? b = some o) (n : H b = none) (hl : b ∉ l) : (subB s H l).get? b = some o := PySem.W.hideAll_get l (hidT_get e n) hl
theorem subB_none {s : Shared} {H : Hp} {l : List Addr} {b : Addr} (hl : b ∈ l) : (subB s H l).get? b = none := PySem.W.hideAll_none l hl
theorem subB_size (s : Shared) (H : Hp) (l : List Addr) : (subB s H l).objs.size = s.heap.objs.size := by
  unfold subB
  rw [PySem.W.hideAll_size, hidT_size]
theorem mod_up {K : PySem.W.Frag} {mg : Str → Option Value} {B B' : Heap} (m : Mod K mg B) (k : ∀ b o, B.get? b = some o → B'.get? b = some o) : Mod K mg B' :=
  ⟨m.kin.keeps k, m.glob.keeps k, let ⟨mb, h1, h2⟩ := m.blt; ⟨mb, h1.keeps k, h2⟩, m.nolimit.keeps k⟩
theorem frames_base {h B B' : Heap} : ∀ {l : List Env}, h.FunFrames B l → (∀ b ∈ frs l, B'.get? b = none) → h.FunFrames B' l
  | [], _, _ => True.intro
  | e :: l, ⟨h1, ⟨L, o, e1, e2, e3, e4⟩, h3⟩, n => by
    have hL : L ∈ frs (e :: l) := List.mem_filterMap.mpr ⟨e, List.mem_cons_self, e1⟩
    exact ⟨h1, ⟨L, o, e1, n L hL, e3, e4⟩, frames_base h3 fun b hb => n b (by
      obtain ⟨x, hx, q⟩ := List.mem_filterMap.mp hb
      exact List.mem_filterMap.mpr ⟨x, List.mem_cons_of_mem _ hx, q⟩)⟩
variable {X : Cx} {pins : List (Addr × Obj)} {σ : L2.St} {H : Hp} {s : Shared}
theorem base_sub (I : Inv X pins σ H s) {l : List Addr} (hl : ∀ b o, X.base.get? b = some o → b ∉ l) : ∀ b o, X.base.get? b = some o → (subB s H l).get? b = some o := fun b o e => subB_get (I.bs b o e).1 (I.bs b o e).2 (hl b o e)
theorem base_nofr (I : Inv X pins σ H s) : ∀ b o, X.base.get? b = some o → b ∉ frs X.stack := fun b o e z => by
  have q := (I.stack.mem z).1
  rw [e] at q
  cases q
theorem env0_sub (I : Inv X pins σ H s) : Env0 X.prog X.w X.K X.mg (subB s H (frs X.stack)) X.A X.stack s H :=
  ⟨I.ok.frames, mod_up I.ok.mod (base_sub I (base_nofr I)), fun b o e => ⟨(subB_of e).1, (subB_of e).2.1⟩, Nat.le_of_eq (subB_size ..), frames_base I.stack fun b hb => subB_none hb, I.stkFree, I.hok, I.bare⟩
/-- what the captured names hold, in a base -/
def CellsB (X : Cx) (σ : L2.St) (B : Heap) : Prop :=
  (∀ y c, X.env.cells.lookup y = some c → ∃ v, B.IsCell c v) ∧ (∀ x y c, X.env.cells.lookup x = some c → X.env.cells.lookup y = some c → x = y) ∧
    (∀ (i : Nat) (y : Str) (v : V), X.N[i]? = some y → σ[i]? = some (some v) → (X.env.scope.names.lookup y = some .cell) → ∃ c u, X.env.cells.lookup y = some c ∧ RelV v u ∧ B.IsCell c (some u)) ∧ ∀ y, X.env.scope.names.lookup y = some .cell → ∃ c, X.env.cells.lookup y = some c
theorem cells_sub (I : Inv X pins σ H s) {l : List Addr} (hl : ∀ y c, X.env.cells.lookup y = some c → c ∉ l) : CellsB X σ (subB s H l) := by
  have up : ∀ {y : Str} {c : Addr} {v : Option Value}, X.env.cells.lookup y = some c → s.heap.IsCell c v → (subB s H l).IsCell c v := fun {y c v} e ⟨o, ho, hd⟩ => ⟨o, subB_get ho (I.freeC y c e) (hl y c e), hd⟩
  refine ⟨fun y c e => ?_, I.ok.inj, fun i y v e1 e2 e3 => ?_, fun y k => I.ok.has _ (.inl k)⟩
  · obtain ⟨v, z⟩ := I.cell y c e
    exact ⟨v, up e z⟩
  · obtain ⟨m, hn, look⟩ := I.loc
    obtain ⟨u, r, q⟩ := look i y v e1 e2 (.inr (.inl e3))
    rcases q with ⟨k, _⟩ | ⟨_, c, e, z⟩
    · have k : X.env.scope.names.lookup y = some .local := k
      rw [e3] at k
      cases k
    · exact ⟨c, u, e, r, up e z⟩
theorem cells_nofr (I : Inv X pins σ H s) (hfn : ∀ x, X.fn x = true) : ∀ y c, X.env.cells.lookup y = some c → c ∉ frs X.stack := fun y c e z => by
  obtain ⟨v, o, ho, hd⟩ := I.cell y c e
  rcases List.mem_cons.mp (I.stkSub c z) with q | q
  · exact I.cne y c e q
  · obtain ⟨_, o', ho', _⟩ := I.ok.funs.mem q
    exact absurd (Nat.lt_of_lt_of_le (Heap.lt_size ho') (I.ok.cab y c (hfn y) e)) (Nat.lt_irrefl _)
end
/-! ### lambdas: made -/
section
/-- the object at f is the lambda of these words, its defaults at dV -/
def LamO (f : Addr) (F : NF) (bd : Expr) (dV : Value) : HO := .ext fun h => ∃ (od : Option Addr) (sl : Array (Option Value)) (doc pm ctv : Value), h.get? f = some (⟨.type "function", od, .func (PySem.W.kdv_fn F.name F.qual F.params (.expr bd) F.scope F.cl dV doc pm (.ref F.c) ctv), sl⟩ : Obj)
theorem lamO_ne {f : Addr} {F : NF} {bd : Expr} {dV : Value} (ps : Array Value) : LamO f F bd dV ≠ .tbl ps := fun z => by
  unfold LamO at z
  cases z
theorem lamO_at {P : Program} {w : World} {H : Hp} {h : Heap} {f : Addr} {F : NF} {bd : Expr} {dV : Value} (hok : HOk P w H h) (e : H f = some (LamO f F bd dV)) :
    ∃ (od : Option Addr) (sl : Array (Option Value)) (doc pm ctv : Value), h.get? f = some (⟨.type "function", od, .func (PySem.W.kdv_fn F.name F.qual F.params (.expr bd) F.scope F.cl dV doc pm (.ref F.c) ctv), sl⟩ : Obj) := (hok f _ e).1
variable {X : Cx} {pins : List (Addr × Obj)} {σ : L2.St} {H : Hp} {s : Shared}
theorem inv_lam {F : NF} {bd : Expr} {dV : Value} {o : Obj} {t' : Nat} {doc pm ctv : Value} (I : Inv X pins σ H s) (ho : o = { cls := .type "function", data := .func (PySem.W.kdv_fn F.name F.qual F.params (.expr bd) F.scope F.cl dV doc pm (.ref F.c) ctv) }) :
    Inv X pins σ (upd H s.heap.objs.size (LamO s.heap.objs.size F bd dV)) { s with heap := s.heap.push o, toks := t' } := by
  subst ho
  have here : (s.heap.push ({ cls := .type "function", data := .func (PySem.W.kdv_fn F.name F.qual F.params (.expr bd) F.scope F.cl dV doc pm (.ref F.c) ctv) } : Obj)).get? s.heap.objs.size = some _ := Heap.get?_push_size _ rfl
  exact I.laid (a := s.heap.objs.size) (fun b u e => Heap.get?_push_of_some _ e) (Nat.le_refl _) ⟨⟨_, _, doc, pm, ctv, here⟩, ⟨_, here⟩, fun h1 h2 ⟨d1, d2, d3, d4, d5, d6⟩ st => ⟨d1, d2, d3, d4, d5, st _ d6⟩⟩
/-- the words of a lambda that X's code makes -/
def lamNF (X : Cx) (params : Arguments) (scope : Scope) (c' : Addr) : NF := ⟨"<lambda>", X.env.qual ++ "<lambda>", params, [], scope, cloFrom X.env.cells scope.names [], c'⟩
/-- the end of the making: the code object is new, or it stands in the table -/
theorem lam_tail {T : List (Addr × Str)} {c P : Addr} {params : Arguments} {bd : Expr} {scope : Scope} {pos : Pos} {dV : Value} {E Q : Value → Shared → Prop} (I : Inv X pins σ H s) (TB : TabB X.base X.mg c P) (hcode : X.env.code = .ref c)
    (hin : (P, X.env.qual ++ "<lambda>") ∈ T) (hone : ∀ p ∈ T, p.1 = P → p.2 = X.env.qual ++ "<lambda>") (hT : Tabs T H) (hfree : ∀ y ∈ scope.names, y.2 = .free → ∃ c, X.env.cells.lookup y.1 = some c)
    (k : ∀ (f c' : Addr) (H1 : Hp) (s' : Shared), Inv X pins σ H1 s' → ExtN H H1 → (∀ b, H1 b = Option.none → H b = Option.none) → Tabs T H1 → H f = none → H1 f = some (LamO f (lamNF X params scope c') bd dV) → H1 c' = some (CodeO c' (X.env.qual ++ "<lambda>")) → Q (.ref f) s') :
    wpAny (model X.prog X.w) X.A (makeTail "<lambda>" (X.env.qual ++ "<lambda>") params (.expr bd) scope X.env dV .none none pos pos.line) Q E s := by
  obtain ⟨ps, tabP, tri, among⟩ := hT _ hin
  have bltP : s.heap.BuiltinsAt X.mg P := TB.bm.keeps I.bk
  have heapP : s.heap.get? P = some { cls := .none, data := .fields ps } := I.hok P _ tabP
  cases found : codeAmong pos ps.toList with
  | some cv =>
    obtain ⟨c', rfl, known⟩ := among pos cv found
    refine PySem.W.kdv_makeTailHit (mg := X.mg) (c := c) (P := P) (ps := ps) (closure_ok hfree) I.ok.glob (I.mod.glob.keeps I.bk) hcode (TB.code.keeps I.bk) heapP tri found bltP fun ctv doc h' tk up _ => ?_
    have I1 : Inv X pins σ H { s with heap := h', toks := tk } := I.kept up
    have fresh : H h'.objs.size = none := I1.hok.fresh (Nat.le_refl _)
    have I2 := inv_lam (F := lamNF X params scope c') (bd := bd) (dV := dV) (t' := tk) (doc := doc) (pm := (X.mg "__name__").getD .none) (ctv := ctv) I1 rfl
    exact k h'.objs.size c' _ _ I2 (fun b o e _ => (upd_ne (ne_of_none e fresh)).trans e) (fun b e => upd_none e) (hT.ext fun b o e => (upd_ne (ne_of_none e fresh)).trans e) fresh upd_same ((upd_ne (ne_of_none known fresh)).trans known)
  | none =>
    refine PySem.W.kdv_makeTail (mg := X.mg) (c := c) (P := P) (ps := ps) (closure_ok hfree) I.ok.glob (I.mod.glob.keeps I.bk) hcode (TB.code.keeps I.bk) heapP tri found TB.gP bltP fun c' ctv doc h' tk but ge lt rec tabP' => ?_
    obtain ⟨c2, oc, vs, t, e2, r1, r2, r3⟩ := rec
    cases e2
    have newC : H c' = none := I.hok.fresh ge
    have I1 := inv_table (t' := tk) (more := #[rawInt pos.line, rawInt pos.col, .ref c']) (h' := h') I tabP (fun b o hb e => but b o hb e) tabP' ge ⟨oc, vs, t, r1, r2, r3⟩
    generalize hG : upd (upd H P (.tbl (ps ++ #[rawInt pos.line, rawInt pos.col, .ref c']))) c' (CodeO c' (X.env.qual ++ "<lambda>")) = G at I1
    have gC : G c' = some (CodeO c' (X.env.qual ++ "<lambda>")) := by rw [← hG]; exact upd_same
    have gP : G P = some (.tbl (ps ++ #[rawInt pos.line, rawInt pos.col, .ref c'])) := by rw [← hG, upd_ne (ne_of_none tabP newC)]; exact upd_same
    have gO : ∀ b o, b ≠ P → H b = some o → G b = some o := fun b o nb e => by rw [← hG, upd_ne (ne_of_none e newC), upd_ne nb]; exact e
    have ext : ExtN H G := fun b o e n => gO b o (fun z => n ps (Option.some.inj (e.symm.trans (by rw [z]; exact tabP)))) e
    have tabs : Tabs T G := fun p hp => by
      by_cases hb : p.1 = P
      · rw [hone p hp hb, hb]
        refine ⟨_, gP, ?_, fun p' cv hcv => ?_⟩
        · rw [Array.toList_append]
          exact PySem.TriplesOk_snoc _ _ _ _ tri
        · rw [Array.toList_append] at hcv
          rcases among_app _ tri hcv with z | z
          · obtain ⟨c0, q1, q2⟩ := among p' cv z
            exact ⟨c0, q1, ext _ _ q2 codeO_ne⟩
          · exact ⟨c', z, gC⟩
      · obtain ⟨ps', q1, q2, q3⟩ := hT p hp
        exact ⟨ps', gO _ _ hb q1, q2, fun p' cv hcv => let ⟨c0, w1, w2⟩ := q3 p' cv hcv; ⟨c0, w1, ext _ _ w2 codeO_ne⟩⟩
    have fresh : G h'.objs.size = none := I1.hok.fresh (Nat.le_refl _)
    have I2 := inv_lam (F := lamNF X params scope c') (bd := bd) (dV := dV) (t' := tk) (doc := doc) (pm := (X.mg "__name__").getD .none) (ctv := ctv) I1 rfl
    have up : ∀ b o, G b = some o → upd G h'.objs.size (LamO h'.objs.size (lamNF X params scope c') bd dV) b = some o := fun b o e => (upd_ne (ne_of_none e fresh)).trans e
    exact k h'.objs.size c' _ _ I2 (fun b o e n => up _ _ (ext b o e n)) (fun b e => by
      have z := upd_none e
      rw [← hG] at z
      exact upd_none (upd_none z)) (tabs.ext up) (I.hok.fresh (Nat.le_trans ge (Nat.le_of_lt lt))) upd_same (up _ _ gC)
/-- what a lambda's making asks: tables, then the new function -/
def tLam0 (T : List (Addr × Str)) (mk : Addr → NF) (bd : Expr) : TE := fun _ H Q => Tabs T H ∧ ∀ (f c' : Addr) (H1 : Hp), ExtN H H1 → (∀ b, H1 b = Option.none → H b = Option.none) → Tabs T H1 → H f = none → H1 f = some (LamO f (mk c') bd .none) → H1 c' = some (CodeO c' (mk c').qual) → Q (.ref f) H1
theorem pe_lam0 {T : List (Addr × Str)} {c P : Addr} {bd : Expr} {params : Arguments} {scope : Scope} {pos : Pos} (TB : TabB X.base X.mg c P) (hcode : X.env.code = .ref c) (hin : (P, X.env.qual ++ "<lambda>") ∈ T)
    (hone : ∀ p ∈ T, p.1 = P → p.2 = X.env.qual ++ "<lambda>") (L : LamS X.env.scope scope) (hd : params.defaults = []) (hk : params.kw_defaults = []) : PE X (.Lambda params bd scope pos) (tLam0 T (lamNF X params scope) bd) := by
  refine ⟨fun pins s σ H Q I h => ?_⟩
  obtain ⟨tab, go⟩ := h
  refine PySem.W.kla_eval (by rw [defaultsOf_eq, hd, hk]; rfl) ?_
  rw [makeFunction_eq]
  simp only [pure_bind, if_true, List.isEmpty_nil, List.filterMap_nil, List.zip_nil_right]
  exact lam_tail I TB hcode hin hone tab (L.has I.ok) fun f c' H1 s' I1 e1 e2 e3 e4 e5 e6 => ⟨.ref f, H1, I1, rfl, go f c' H1 e1 e2 e3 e4 e5 e6⟩
/-- one default, an int -/
def tLam1 (T : List (Addr × Str)) (mk : Addr → NF) (bd : Expr) (n : Int) : TE := fun _ H Q => Tabs T H ∧ ∀ (f c' t : Addr) (H1 : Hp), ExtN H H1 → (∀ b, H1 b = Option.none → H b = Option.none) → Tabs T H1 → H f = none → H1 f = some (LamO f (mk c') bd (.ref t)) → H1 c' = some (CodeO c' (mk c').qual) → H1 t = some (.tup [.int n]) → Q (.ref f) H1
theorem pe_lam1 {T : List (Addr × Str)} {c P : Addr} {bd : Expr} {params : Arguments} {scope : Scope} {pos pn : Pos} {n : Int} {j : Nat} (TB : TabB X.base X.mg c P) (hcode : X.env.code = .ref c) (hin : (P, X.env.qual ++ "<lambda>") ∈ T)
    (hone : ∀ p ∈ T, p.1 = P → p.2 = X.env.qual ++ "<lambda>") (L : LamS X.env.scope { scope with names := scope.names.filter fun y => y.2 != .local }) (hd : params.defaults = [.Constant (.int n) j pn]) (hk : params.kw_defaults = []) : PE X (.Lambda params bd scope pos) (tLam1 T (lamNF X params scope) bd n) := by
  refine ⟨fun pins s σ H Q I h => ?_⟩
  obtain ⟨tab, go⟩ := h
  refine PySem.W.kdv_lam (by rw [hd]; rfl) hk ?_
  rw [hd]
  refine PySem.W.kdv_all1 (thn (pe_int.run pins s σ H (fun v H' => v = .int n ∧ H' = H) I ⟨rfl, rfl⟩) fun u s1 ⟨v, H', I1, r1, e1, e2⟩ => PySem.W.kdv_all0 ?_)
  subst e1 e2
  rw [makeFunction_eq]
  simp only [pure_bind, if_true, List.isEmpty_nil, List.isEmpty_cons, Bool.false_eq_true, if_false, List.filterMap_nil, List.zip_nil_right]
  refine wpAny_bind (wpAny_newTextTuple ?_)
  have I2 : Inv X pins σ (upd H' s1.heap.objs.size (.tup [.int n])) { s1 with heap := s1.heap.push { cls := .type "tuple", data := .seq [u].toArray } } := by
    refine I1.laid (t' := s1.toks) (fun b o e => Heap.get?_push_of_some _ e) (Nat.le_refl _) ?_
    exact ⟨by show 1 ≤ sizeLine; decide, [u], .cons r1 .nil, _, Heap.get?_push_size _ rfl, rfl, _, rfl⟩
  have fresh : H' s1.heap.objs.size = none := I1.hok.fresh (Nat.le_refl _)
  have up : ∀ b o, H' b = some o → upd H' s1.heap.objs.size (.tup [.int n]) b = some o := fun b o e => (upd_ne (ne_of_none e fresh)).trans e
  refine lam_tail I2 TB hcode hin hone (tab.ext up) (fun y hy e => L.has I2.ok y (List.mem_filter.2 ⟨hy, by rw [e]; rfl⟩) e) fun f c' H1 s' I3 e1 e2 e3 e4 e5 e6 => ⟨.ref f, H1, I3, rfl, go f c' s1.heap.objs.size H1 (fun b o e nt => e1 b o (up _ _ e) nt) (fun b e => upd_none (e2 b e)) e3 (upd_none e4) e5 e6 ?_⟩
  exact e1 _ _ upd_same (fun ps z => by cases z)
end
end Odd

namespace Odd
open PySem PySem.Spec PyProof.Rows L2 LamX NdefX
/-! ### lambdas: called -/
/-- f called without arguments, at the heap H -/
def CallAt (P : Program) (w : World) (K : PySem.W.Frag) (mg : Str → Option Value) (base : Heap) (k : Nat) (f : Addr) (H : Hp) (Q : VK) (E : XK) : Prop :=
  ∀ (A : Around) (outer : List Env) (s : Shared), Room k A → Env0 P w K mg base A outer s H → codeAny (model P w) A (.call (.ref f) ⟨[], []⟩) (CR (L2.CX P w) outer P w H s Q E) s
/-- what the captured cells hold, in a base -/
structure CellsL (cl : List (Str × Addr)) (fr : List Str) (ws : List (Option V)) (B : Heap) : Prop where
  len : ws.length = fr.length
  all : ∀ y c, cl.lookup y = some c → ∃ v, B.IsCell c v
  inj : ∀ x y c, cl.lookup x = some c → cl.lookup y = some c → x = y
  has : ∀ (i : Nat) (y : Str), fr[i]? = some y → ∃ c, cl.lookup y = some c ∧ ∀ v, ws[i]? = some (some v) → ∃ u, RelV v u ∧ B.IsCell c (some u)
section
variable {P : Program} {w : World} {K : PySem.W.Frag} {mg : Str → Option Value} {base : Heap} {N ps fr : List Str} {F : NF} {f : Addr} {H : Hp} {Q : VK} {E : XK} {k : Nat} {bd : Expr} {dV : Value} {vs : List V} {ws : List (Option V)}
theorem CellsL.at {A : Around} {outer : List Env} {s : Shared} (C : CellsL F.cl fr ws base) (e0 : Env0 P w K mg base A outer s H) : CellsAt F.cl fr ws s.heap H where
  len := C.len
  all := fun y c e => by
    obtain ⟨v, o, ho, hd⟩ := C.all y c e
    exact ⟨(e0.bs c o ho).2, v, o, (e0.bs c o ho).1, hd⟩
  inj := C.inj
  has := fun i y e => by
    obtain ⟨c, hc, hv⟩ := C.has i y e
    refine ⟨c, hc, fun v ev => ?_⟩
    obtain ⟨u, ru, o, ho, hd⟩ := hv v ev
    exact ⟨u, ru, o, (e0.bs c o ho).1, hd⟩
theorem pas_lam {A : Around} {outer : List Env} {s : Shared} : Pas (ncx (L2.CX P w) P w K mg base N F f A outer s H E) E :=
  passes_call (takes_of rfl rfl rfl rfl : Takes (ncx (L2.CX P w) P w K mg base N F f A outer s H E) (fun cls d _ H => E cls d H)) fun _ _ _ _ h => h
/-- a lambda by its body -/
theorem lam_callAt (S : NScope N ps fr F.scope) (hf : H f = some (LamO f F bd dV)) (hc : H F.c = some (CodeO F.c F.qual)) (hl : vs.length = ps.length) (C : CellsL F.cl fr ws base)
    (hb : ∀ (s : Shared) (doc pm ctv : Value), HOk P w H s.heap → ∃ us, Vals vs us ∧ BindsTo s (PySem.W.kdv_fn F.name F.qual F.params (.expr bd) F.scope F.cl dV doc pm (.ref F.c) ctv) ⟨[], []⟩ (ps.zip us))
    (hbody : ∀ (A : Around) (outer : List Env) (s : Shared), Room k (A.deeper (envF F f s.heap.objs.size)) → ∃ tb, PE (ncx (L2.CX P w) P w K mg base N F f A outer s H E) bd tb ∧ tb (startF N vs ws) H Q) : CallAt P w K mg base (k + 1) f H Q E := by
  intro A outer s hr e0
  have lim : s.heap.NoLimit := e0.mod.nolimit.keeps fun b o e => (e0.bs b o e).1
  obtain ⟨od, sl, doc, pm, ctv, ho⟩ := lamO_at e0.hok hf
  obtain ⟨us, rv, bind⟩ := hb s doc pm ctv e0.hok
  refine PySem.W.kla_callFunE hr.depth ho rfl S.co S.gen rfl (codeO_at e0.hok hc) (bind _ _ _ _ ?_)
  refine wpAny_newFunctionEnv S.nocell (fun ⟨n, _⟩ hy => S.par n (List.of_mem_zip hy).1) (fun h₁ hns hsb => ⟨lim.fresh _ hsb, ?_⟩) S.kind
  show codeAny _ _ (.expr bd (envF F f s.heap.objs.size)) _ _
  have up : ∀ b o, s.heap.get? b = some o → h₁.get? b = some o := fun b o e => hsb.extBut b o (Nat.ne_of_lt (Heap.lt_size e)) (Heap.get?_push_of_some _ e)
  obtain ⟨tb, pe, q⟩ := hbody A outer s (hr.deeper _)
  have I : Inv (ncx (L2.CX P w) P w K mg base N F f A outer s H E) [] (startF N vs ws) H { s with heap := h₁, toks := s.toks + (ps.zip us).length } := inv_startN S hr.hd e0 hl rv (C.at e0) hns up
  refine PySem.W.kla_codeExpr (wpAny_mono (pe.run [] _ (startF N vs ws) H Q I q) (fun u s' z => ?_) fun e s' z => z)
  obtain ⟨v, H', J, r, qq⟩ := z
  exact ⟨v, H', J.os, J.bare, J.base, J.hok, r, qq⟩
/-- no parameter -/
theorem lam_bind0 {qual : Str} {params : Arguments} {scope : Scope} {cl : List (Str × Addr)} {doc pm cv ctv : Value} {s : Shared} (h : bindArgs (PySem.W.kdv_fn "<lambda>" qual params (.expr bd) scope cl .none doc pm cv ctv) ⟨[], []⟩ = pure []) :
    ∃ us, Vals ([] : List V) us ∧ BindsTo s (PySem.W.kdv_fn "<lambda>" qual params (.expr bd) scope cl .none doc pm cv ctv) ⟨[], []⟩ (([] : List Str).zip us) := ⟨[], .nil, .of_eq h⟩
/-- one parameter, with a default -/
theorem lam_bind1 {qual x : Str} {n : Int} {t : Addr} {params : Arguments} {scope : Scope} {cl : List (Str × Addr)} {doc pm cv ctv : Value} {s : Shared} {kk : Option (Array Value) → Sem (List (Str × Value))} (hok : HOk P w H s.heap) (ht : H t = some (.tup [.int n]))
    (h1 : bindArgs (PySem.W.kdv_fn "<lambda>" qual params (.expr bd) scope cl (.ref t) doc pm cv ctv) ⟨[], []⟩ = seqItems? (.ref t) >>= kk) (h2 : ∀ u : Value, kk (some #[u]) = pure [(x, u)]) :
    ∃ us, Vals [V.int n] us ∧ BindsTo s (PySem.W.kdv_fn "<lambda>" qual params (.expr bd) scope cl (.ref t) doc pm cv ctv) ⟨[], []⟩ ([x].zip us) := by
  obtain ⟨_, its, rv, o, ho, hcl, m, hd⟩ := hok t _ ht
  obtain ⟨u, rfl, ru⟩ := vals1 rv
  refine ⟨[u], .cons ru .nil, ?_⟩
  obtain ⟨oc, od, dd, sl⟩ := o
  cases hd
  exact BindsTo.of_defaults (T := t) rfl ho rfl h1 (h2 u)
end
/-- x(), x a local that holds a lambda -/
def tAct (X : Cx) (i k : Nat) (W : WX) : TE := fun σ H Q => ∃ (f : Addr) (F : NF) (bd : Expr) (dV : Value) (Ef : XK), σ[i]? = some (some (.ref f)) ∧ H f = some (LamO f F bd dV) ∧ CallAt X.prog X.w X.K X.mg X.base k f H Q Ef ∧ (∀ cls d (σ' : L2.St) H', Ef cls d H' → W cls d σ' H') ∧ Room k X.A
theorem pe_act {X0 X : Cx} {a : Str} {i k : Nat} {W : WX} {p1 p2 : Pos} (l : Like X0 X) (tk : Takes X W) (hN : X.N[i]? = some a) (hv : Vis X.env.scope a) (hd : (a == ("__debug__" : Str)) = false := by decide) (hcd : (a == ("__classdict__" : Str)) = false := by decide) :
    PE X (.Call (.Name a p1) [] [] p2) (tAct X0 i k W) := by
  refine ⟨fun pins s σ H Q I h => ?_⟩
  obtain ⟨f, F, bd, dV, Ef, hs, hf, hc, hW, hr⟩ := h
  rw [← l.prog, ← l.w, ← l.K, ← l.mg, ← l.base] at hc
  rw [← l.A] at hr
  refine wpAny_Call_Name_kw (thn ((pe_var (pos := p1) (i := i) hN hv hd hcd).run pins s σ H (fun v H1 => v = .ref f ∧ H1 = H) I ⟨.ref f, hs, rfl, rfl⟩) fun u s1 ⟨v, H1, I1, r1, ev, eH⟩ => ?_)
  subst ev eH
  obtain rfl : u = Value.ref f := r1
  obtain ⟨od, sl, doc, pm, ctv, ho⟩ := lamO_at I1.hok hf
  refine PySem.W.callWith_F0 ⟨_, _, _, _, ho⟩ (wpAny_call (codeAny_mono (hc X.A X.stack s1 hr I1.env0) fun r s' hq => ?_))
  have thrown : Passes (L2.CX X.prog X.w) X Ef := passes_call tk fun cls d σ' H' e => hW cls d σ' H' e
  match r, hq with
  | .error e, hq => exact thrown pins σ H1 s1 e s' I1 hq
  | .ok (.ret u), hq => exact I1.after hq
/-- what stands at a slot -/
def slV (σ : L2.St) (j : Nat) : Option V := (σ[j]?).join
theorem slV_at {σ : L2.St} {j : Nat} {v : V} (h : slV σ j = some v) : σ[j]? = some (some v) := by
  unfold slV at h
  cases e : σ[j]? with
  | none => rw [e] at h; cases h
  | some o => rw [e] at h; cases o with
    | none => cases h
    | some u => cases h; rfl
theorem cells_of {X : Cx} {σ : L2.St} {B : Heap} {scope : Scope} {fr : List Str} {js : List Nat} (C : CellsB X σ B) (hfr0 : ∀ y ∈ scope.names, y.2 = .free → X.env.scope.names.lookup y.1 = some .cell)
    (hin : ∀ y ∈ fr, (y, NameKind.free) ∈ scope.names) (hj : js.map (fun j => X.N[j]?) = fr.map some) : CellsL (cloFrom X.env.cells scope.names []) fr (js.map (slV σ)) B := by
  have hfr : ∀ y ∈ scope.names, y.2 = .free → X.env.scope.names.lookup y.1 = some .cell ∧ ∃ c, X.env.cells.lookup y.1 = some c := fun y hy e => ⟨hfr0 y hy e, C.2.2.2 y.1 (hfr0 y hy e)⟩
  have cm : ∀ {y c}, (cloFrom X.env.cells scope.names []).lookup y = some c → X.env.cells.lookup y = some c := fun {y c} e => by
    rcases cloFrom_mem (PySem.mem_of_lookup e) with z | ⟨z, q⟩
    · cases z
    · obtain ⟨_, c1, q1⟩ := hfr _ z rfl
      have q1 : X.env.cells.lookup y = some c1 := q1
      rw [q1] at q
      have q : c = c1 := q
      rw [q]
      exact q1
  have len : js.length = fr.length := by
    have := congrArg List.length hj
    rwa [List.length_map, List.length_map] at this
  refine ⟨by rw [List.length_map]; exact len, fun y c e => C.1 y c (cm e), fun x y c e1 e2 => C.2.1 x y c (cm e1) (cm e2), fun i y e => ?_⟩
  have hy := List.mem_of_getElem? e
  obtain ⟨c, hc⟩ := mem_lookup (cloFrom_has (cells := X.env.cells) (acc := []) (hin y hy))
  refine ⟨c, hc, fun v ev => ?_⟩
  rw [List.getElem?_map] at ev
  cases ej : js[i]? with
  | none => rw [ej] at ev; cases ev
  | some j =>
    rw [ej] at ev
    have sv := slV_at (Option.some.inj ev)
    have nj : X.N[j]? = some y := by
      have z := congrArg (fun l => l[i]?) hj
      simp only [List.getElem?_map, ej, e, Option.map_some] at z
      exact Option.some.inj z
    obtain ⟨c2, u, e2, ru, ce⟩ := C.2.2.1 j y v nj sv (hfr _ (hin y hy) rfl).1
    have e3 := cm hc
    rw [e2] at e3
    cases e3
    exact ⟨u, ru, ce⟩
end Odd

namespace Odd
open PySem PySem.Spec PyProof.Rows L2 LamX NdefX
/-! ### a comprehension whose elements call lambdas of the maker -/
section
variable {X : Cx}
/-- its block, over a base that holds the maker's cells -/
abbrev blkB (X : Cx) (s : Shared) (H : Hp) (scope : Scope) (cenv : Env) (fp : List Addr) (B : Heap) : Cx := { X.blk s H scope cenv fp with base := B }
theorem rebase {s s' : Shared} {H H' : Hp} {scope : Scope} {cenv : Env} {fp : List Addr} {B : Heap} {pins : List (Addr × Obj)} {σ : L2.St} (I : Inv (X.blk s H scope cenv fp) pins σ H' s') (m : Mod X.K X.mg B) (b1 : ∀ b o, B.get? b = some o → s.heap.get? b = some o ∧ H b = none)
    (b2 : B.objs.size ≤ s.heap.objs.size) (b3 : ∀ b o, B.get? b = some o → b ∉ fp) (b4 : s.heap.FunFrames B X.stack) : Inv (blkB X s H scope cenv fp B) pins σ H' s' :=
  ⟨⟨m, I.ok.kind, I.ok.glob, I.ok.blt, I.ok.above, I.ok.inj, I.ok.has, I.ok.cab, I.ok.hd, I.ok.frames, I.ok.stk, I.ok.exf, b1, b2, b3, I.ok.exfs, b4, I.ok.frf⟩, I.os, I.bare, I.base, I.loc, I.cell, I.free, I.freeC, I.pin, I.hok, I.len⟩
def tLcB (X : Cx) (wi : TI) (g : TG) (te : Heap → TE) (vs : List Nat) : TE := fun σ H Q => wi σ H fun J H1 => ∀ B, CellsB X σ B → ∀ D, H1 D = none → ∃ W : Nat → Nat → Hp → Prop, (∃ m, W 0 m (upd H1 D (.lst []))) ∧ ∀ i m H, W i m H →
  (J.stop i H ∧ Q (.ref D) H) ∨ (J.go i H ∧ ∃ Nx : Hp → Prop, (∀ H', Nx H' → ∃ m', m' < m ∧ W (i + 1) m' H') ∧ ∀ x H', J.yld i H x H' → g x (wipe σ vs) H' fun σ2 H2 => wipe σ2 vs = wipe σ vs ∧ tYes σ2 H2 fun b H3 =>
    if b = true then te B σ2 H3 fun y H4 => ∃ acc, H4 D = some (.lst acc) ∧ acc.length < sizeLine ∧ Nx (upd H4 D (.lst (acc ++ [y]))) else Nx H3)
theorem pe_lcB {elt tg iter : Expr} {scope : Scope} {own : List (Str × Nat)} {pos : Pos} {wi : TI} {g : TG} {te : Heap → TE} (calm : X.calm = true) (hfn : ∀ x, X.fn x = true) (nd : X.N.Nodup) (hi : PI X tg iter wi) (ok : BlkOk X.N X.env.scope scope own)
    (hg : ∀ (s : Shared) (H : Hp) (C : Addr) (cl : List (Str × Addr)) (fp : List Addr) (B : Heap), PG (blkB X s H scope (compEnvC scope cl C X.env) fp B) tg g)
    (he : ∀ (s : Shared) (H : Hp) (C : Addr) (cl : List (Str × Addr)) (fp : List Addr) (B : Heap), PE (blkB X s H scope (compEnvC scope cl C X.env) fp B) elt (te B)) (fold : ∀ x, foldedSetIterable iter X.env x = pure x := by intro _; rfl) :
    PE X (.ListComp elt [⟨tg, iter, [], 0⟩] scope pos) (tLcB X wi g te (own.map (·.2))) := by
  refine ⟨fun pins s σ H Q I start => ?_⟩
  rw [eval_ListComp]
  have cellOf : ∀ y ∈ scope.names, y.2 = .free → ∃ c, X.env.cells.lookup y.1 = some c := fun y hy e => (ok.free y hy e).elim (fun k => I.ok.has _ (.inl k)) fun k => I.ok.has _ (.inr k)
  refine wpAny_comprehension_free (use := none) rfl fold (closure_ok cellOf) ok.kind (fun y hy e => (ok.uniq y hy).trans (by rw [e])) (thn (hi.run pins s σ H _ I start) fun _ s1 run1 => thn run1 fun _ s2 run2 => ?_)
  obtain ⟨it, fp, tn, J, H2, rfl, I2, T, walk2, free2, body⟩ := run2
  refine wpAny_newObj_type (newEnv_comp ?_) (by show 0 ≤ sizeLine; decide)
  obtain ⟨D, eD⟩ : ∃ D, D = s2.heap.objs.size := ⟨_, rfl⟩
  rw [← eD]
  have newD : H2 D = none := I2.hok.fresh (by rw [eD]; exact Nat.le_refl _)
  -- the list, empty
  obtain ⟨s3, e3⟩ : ∃ s3 : Shared, s3 = { s2 with heap := s2.heap.push { cls := .type "list", data := .seq ([] : List Value).toArray } } := ⟨_, rfl⟩
  have heap3 : s3.heap = s2.heap.push { cls := .type "list", data := .seq ([] : List Value).toArray } := by rw [e3]
  obtain ⟨H3, eH3⟩ : ∃ H3, H3 = upd H2 D (.lst []) := ⟨_, rfl⟩
  have I3 : Inv X pins σ H3 s3 := by
    rw [e3, eH3, eD]
    exact I2.laid (t' := s2.toks) (fun b o e => Heap.get?_push_of_some _ e) (Nat.le_refl _) ⟨Nat.zero_le _, [], 0, .nil, Heap.get?_push_size _ rfl⟩
  have under : ∀ b ∈ fp, b < s2.heap.objs.size := fun b hb => let ⟨_, e, _⟩ := T.obj _ _ walk2 b hb; Heap.lt_size e
  have free3 : ∀ b ∈ fp, FpOk X pins H3 b ∧ b < s3.heap.objs.size := fun b hb => by
    have lt := under b hb
    refine ⟨⟨?_, (free2 b hb).2⟩, by rw [heap3, Heap.size_push]; exact Nat.lt_succ_of_lt lt⟩
    rw [eH3, upd_ne (by rw [eD]; exact Nat.ne_of_lt lt)]
    exact (free2 b hb).1
  have walk3 : tn 0 s3.heap := T.keep _ _ _ walk2 fun b _ o e => by rw [heap3]; exact Heap.get?_push_of_some _ e
  -- the base for the block
  obtain ⟨B, eB⟩ : ∃ B, B = subB s3 H3 (frs X.stack ++ fp) := ⟨_, rfl⟩
  have inB : ∀ b o, B.get? b = some o → s3.heap.get? b = some o ∧ H3 b = none ∧ b ∉ frs X.stack ++ fp := fun b o e => by rw [eB] at e; exact subB_of e
  have modB : Mod X.K X.mg B := by
    rw [eB]
    refine mod_up I3.ok.mod (base_sub I3 fun b o e z => ?_)
    rcases List.mem_append.1 z with z | z
    · exact base_nofr I3 b o e z
    · have q := (free3 b z).1.2.2.2.1
      rcases q with q | q
      · exact I3.ok.noex b o e q
      · exact absurd (Nat.lt_of_lt_of_le (Heap.lt_size e) (Nat.le_trans I3.ok.bsz q)) (Nat.lt_irrefl _)
  have cellsB : CellsB X σ B := by
    rw [eB]
    refine cells_sub I3 fun y c e z => ?_
    rcases List.mem_append.1 z with z | z
    · exact cells_nofr I3 hfn y c e z
    · exact (free3 c z).1.2.2.2.2.1 y c e rfl
  have sizeB : B.objs.size ≤ s3.heap.objs.size := by rw [eB, subB_size]; exact Nat.le_refl _
  have framesB : s3.heap.FunFrames B X.stack := frames_base I3.stack fun b hb => by rw [eB]; exact subB_none (List.mem_append_left _ hb)
  have re : ∀ {cenv : Env} {pins' : List (Addr × Obj)} {σ' : L2.St} {H' : Hp} {s' : Shared}, Inv (X.blk s3 H3 scope cenv fp) pins' σ' H' s' → Inv (blkB X s3 H3 scope cenv fp B) pins' σ' H' s' := fun I' =>
    rebase I' modB (fun b o e => ⟨(inB b o e).1, (inB b o e).2.1⟩) sizeB (fun b o e z => (inB b o e).2.2 (List.mem_append_right _ z)) framesB
  obtain ⟨W, ⟨m0, w0⟩, turns⟩ := body B cellsB D newD
  rw [← eH3] at w0
  have I4 := block_start I3 ok nd free3
  have goes := hg s3 H3 s3.heap.objs.size (cellsFrom (s3.heap.objs.size + 1) scope.names (cloFrom X.env.cells scope.names [])) fp B
  have elem := he s3 H3 s3.heap.objs.size (cellsFrom (s3.heap.objs.size + 1) scope.names (cloFrom X.env.cells scope.names [])) fp B
  have shown : ({ s2 with heap := s2.heap.push { cls := .type "list", data := .seq ([] : List Value).toArray } } : Shared) = s3 := e3.symm
  rw [shown]
  show codeAny _ _ (.compStart (.ListComp elt [⟨tg, iter, [], 0⟩] scope pos) 0 (.ref it) (.ref D) (compEnvC scope (cellsFrom (s3.heap.objs.size + 1) scope.names (cloFrom X.env.cells scope.names [])) s3.heap.objs.size X.env)) (compPost (model X.prog X.w) X.A X.xe none (EP X pins σ Q) (.ref D) s3.heap.objs.size) { s3 with heap := pushCells (s3.heap.push { cls := .type "dict", data := .dict #[] }) scope.names }
  have locD : (compEnvC scope (cellsFrom (s3.heap.objs.size + 1) scope.names (cloFrom X.env.cells scope.names [])) s3.heap.objs.size X.env).locals = s3.heap.objs.size := rfl
  generalize compEnvC scope (cellsFrom (s3.heap.objs.size + 1) scope.names (cloFrom X.env.cells scope.names [])) s3.heap.objs.size X.env = ce at I4 goes elem locD ⊢
  obtain ⟨s4, e4⟩ : ∃ s4 : Shared, s4 = { s3 with heap := pushCells (s3.heap.push { cls := .type "dict", data := .dict #[] }) scope.names } := ⟨_, rfl⟩
  rw [← e4] at I4 ⊢
  have walk4 : tn 0 s4.heap := T.keep _ _ _ walk3 fun b _ o e => by rw [e4]; exact pushCells_keeps _ _ _ _ (Heap.get?_push_of_some _ e)
  have still : ∀ {σ' : L2.St} {H' : Hp} {s' : Shared}, Inv (blkB X s3 H3 scope ce fp B) [] σ' H' s' → (∀ b ∈ fp, H' b = none) → ∀ b ∈ fp, FpOk (blkB X s3 H3 scope ce fp B) [] H' b := fun {σ' H' s'} I' hn b hb =>
    ⟨hn b hb, (I'.ok.exf b hb).1, I'.ok.exfs b hb, .inl hb, fun x c e => (I'.ok.exf b hb).2 x c e, fun p hp => absurd (show p ∈ ([] : List (Addr × Obj)) ++ [] from hp) (by simp)⟩
  have loop : codeAny (model X.prog X.w) X.A (.compLoop (.ListComp elt [⟨tg, iter, [], 0⟩] scope pos) 0 (.ref it) (.ref D) ce) (compPost (model X.prog X.w) X.A X.xe none (EP X pins σ Q) (.ref D) s3.heap.objs.size) s4 := by
    refine compLoop_any (fun n s' => ∃ i H', Inv (blkB X s3 H3 scope ce fp B) [] (wipe σ (own.map (·.2))) H' s' ∧ tn i s'.heap ∧ (∀ b ∈ fp, H' b = none) ∧ W i n H') (fun n s5 inv5 => ?_) m0 ⟨0, H3, re I4, walk4, fun b hb => (free3 b hb).1.1, w0⟩
    obtain ⟨i, H5, I5, walk5, none5, w5⟩ := inv5
    rcases turns i n H5 w5 with ⟨stop, last⟩ | ⟨go, Nx, next, step⟩
    · refine thnF (T.done (blkB X s3 H3 scope ce fp B) rfl rfl rfl calm i [] s5 _ H5 (fun _ _ => False) I5 (still I5 none5) walk5 stop) fun r s6 ⟨er, I6⟩ => ?_
      subst er
      have back : Inv X pins σ H5 s6 := I3.call' (ch := fp) I6.os I6.base I6.hok I6.bare fun b hb => let z := (free3 b hb).1; ⟨z.2.2.2.1, z.2.1, z.2.2.2.2.1, z.2.2.2.2.2⟩
      have gone : H5 s3.heap.objs.size = none := by
        have z : H5 ce.locals = none := I6.free
        rwa [locD] at z
      obtain ⟨m, ns, _⟩ := I6.loc
      have ns : s6.heap.Ns ce.locals m := ns
      rw [locD] at ns
      refine ⟨m, ns, fun h7 only => ?_⟩
      obtain ⟨f0, f1, f2, f3, f4, f5⟩ := I3.fpOk (Nat.le_refl _) gone
      exact ⟨.ref D, H5, back.turned (t' := s6.toks) (fun b o hb e => (only.2 b hb).trans e) f0 f1 f3 f4 f5, rfl, last⟩
    · refine thnF (T.item (blkB X s3 H3 scope ce fp B) rfl rfl rfl calm i [] s5 _ H5 (fun _ _ => False) I5 (still I5 none5) walk5 go) fun r s6 ⟨u, er, run6⟩ => ?_
      subst er
      refine thnF run6 fun _ s7 ⟨x, H7, I7, rx, yl, walk7, none7⟩ => ?_
      have pinned := I7.pinned (still I7 none7) (T.obj _ _ walk7)
      refine thnF (goes.run _ s7 _ H7 x u _ pinned rx (step x H7 yl)) fun _ s8 ⟨σ8, H8, I8, same8, q8⟩ => ?_
      refine thnF ((pts_nil (X := blkB X s3 H3 scope ce fp B)).run _ s8 σ8 H8 _ I8 q8) fun b s9 ⟨H9, I9, q9⟩ => ?_
      have done : ∀ {s' : Shared} {H' : Hp}, Inv (blkB X s3 H3 scope ce fp B) ([] ++ pinsAt fp s7.heap) σ8 H' s' → Nx H' → ∃ m, m < n ∧ ∃ i H', Inv (blkB X s3 H3 scope ce fp B) [] (wipe σ (own.map (·.2))) H' s' ∧ tn i s'.heap ∧ (∀ b ∈ fp, H' b = none) ∧ W i m H' := fun {s' H'} I' nx => by
        obtain ⟨m', lt, w'⟩ := next H' nx
        have pin' : ∀ b ∈ fp, ∀ o, s7.heap.get? b = some o → s'.heap.get? b = some o ∧ H' b = none := fun b hb o e => ⟨(I'.pin (b, o) (List.mem_append_right _ (List.mem_append_right _ (mem_pinsAt hb e)))).1, (I'.pin (b, o) (List.mem_append_right _ (List.mem_append_right _ (mem_pinsAt hb e)))).2.1⟩
        refine ⟨m', lt, i + 1, H', (I'.unpinned (pins := [])).weak (by rw [← same8, wipe_length]) (fun j v e => (wipe_some (by rw [same8]; exact e)).1), T.keep _ _ _ walk7 fun b hb o e => (pin' b hb o e).1, fun b hb => ?_, w'⟩
        obtain ⟨o, e, _⟩ := T.obj _ _ walk7 b hb
        exact (pin' b hb o e).2
      cases b with
      | false =>
        rw [if_neg Bool.false_ne_true] at q9 ⊢
        exact done I9 q9
      | true =>
        rw [if_pos rfl] at q9 ⊢
        refine thnF (elem.run _ s9 σ8 H9 _ I9 q9) fun z s10 ⟨yv, H10, I10, ry, acc, atD, short, nx⟩ => ?_
        exact app_ok (X := blkB X s3 H3 scope ce fp B) I10 atD short ry fun s11 I11 => done I11 nx
  exact codeAny_compStart_list loop (T.self X.A 0 _ _ _ walk4 loop)
end
/-- x(e, ..), x a global def that may call the maker's lambdas -/
def tGlB (X : Cx) (E : XK) (x : Str) (t : TA) : TE := fun σ H Q => ∃ a, X.mg x = some (.ref a) ∧ PySem.W.keepIn X.K (.ref a) = true ∧ t σ H fun vs H1 => ∀ B, CellsB X σ B → ∃ k sp, FnR X.prog X.w X.K X.mg B (L2.CX X.prog X.w) k a sp ∧ Room k X.A ∧ sp vs H1 Q E
theorem pe_glB {X : Cx} {E : XK} {x : Str} {e : Expr} {es : List Expr} {t : TA} {p pos : Pos} (h : Pas X E) (hfn : ∀ x, X.fn x = true) (hg : Gl X x) (ha : PA X (e :: es) t) (hdb : (x == ("__debug__" : Str)) = false := by decide) (he : starEach (e :: es) X.env = (false, eval e X.env) :: starEach es X.env := by rfl)
    (hpl : (backTo pos (starEach es X.env)).any (·.1) = false := by rfl) : PE X (.Call (.Name x p) (e :: es) [] pos) (tGlB X E x t) := by
  refine ⟨fun pins s σ H Q I ⟨f, hm, hk, q⟩ => ?_⟩
  refine wpAny_Call_Name_kw (ld_glob I hg hm ?_ hdb)
  refine PySem.W.callWith_K (h₀ := X.base) I.ok.mod.kin hk (thn (ha.run pos pins s σ H _ I q) fun us s1 ⟨vs, H1, I1, r1, go⟩ => ⟨I1.kIn, ?_⟩) he hpl
  obtain ⟨k, sp, F, hr, q1⟩ := go _ (cells_sub I1 (cells_nofr I1 hfn))
  refine wpAny_call (codeAny_mono (F X.A X.stack s1 H1 us vs Q E hr (env0_sub I1) r1 q1) fun r s' hq => ?_)
  match r, hq with
  | .error e, hq => exact h pins σ H1 s1 e s' I1 hq
  | .ok (.ret u), hq => exact I1.after hq
/-- a def of which the code object is known -/
theorem okXC {P : Program} {w : World} {K : PySem.W.Frag} {mg : Str → Option Value} {base : Heap} {x qual : Str} {st : Stmt} {f : Addr} {fd : FuncData} {N ps : List Str} {k : Nat} {sp : Sp} {cv : Value} (F : Fun K x qual st f fd) (hc : fd.code = cv) (S : FnScope N ps (defScope st)) (len : ∀ vs H Q E, sp vs H Q E → vs.length = ps.length)
    (hbody : ∀ (A : Around) (outer : List Env) (s : Shared) (H : Hp) (vs : List V) (Q : VK) (E : XK), Room k (A.deeper (envOfC qual (defScope st) s.heap.objs.size f cv)) → sp vs H Q E →
      ∃ t, PSs (cxOf (L2.CX P w) P w K mg base N qual (defScope st) f cv A outer s H E) (defBody st) t ∧ t { nx := fun _ H' => Q .non H', rt := Q } (start N vs) H) : FnOk P w K mg base (L2.CX P w) (k + 1) f fd ps sp := by
  obtain ⟨oc, od, kV, doc, pm, an, cdv, ct, osl, rfl, lk, hcd⟩ := F.ex
  have e : cdv = cv := hc
  subst e
  exact fn_of lk hcd S len fun A outer s H vs Q E hr hsp => hbody A outer s H vs Q E hr hsp
end Odd

namespace Odd
open PySem PySem.Spec PyProof.Rows L2 LamX NdefX
abbrev rb (X : Cx) (B : Heap) : Cx := { X with base := B }
/-! ### checks -/
def capB (sc scope : Scope) (N fr : List Str) (js : List Nat) : Bool :=
  scope.names.all (fun y => !decide (y.2 = .free) || decide (sc.names.lookup y.1 = some .cell)) && fr.all (fun y => decide ((y, NameKind.free) ∈ scope.names)) && decide (js.map (fun j => N[j]?) = fr.map some)
theorem cells_by {X : Cx} {σ : L2.St} {B : Heap} {scope : Scope} {fr : List Str} {js : List Nat} (C : CellsB X σ B) (h : capB X.env.scope scope X.N fr js = true) : CellsL (cloFrom X.env.cells scope.names []) fr (js.map (slV σ)) B := by
  unfold capB at h
  simp only [Bool.and_eq_true, List.all_eq_true, Bool.or_eq_true, Bool.not_eq_true', decide_eq_true_eq, decide_eq_false_iff_not] at h
  exact cells_of C (fun y hy e => ((h.1.1 y hy).elim (fun z => absurd e z) id)) (fun y hy => h.1.2 y hy) h.2
/-- a lambda of X's called, at a heap where the maker's cells are in the base -/
theorem lam_go {X : Cx} {σ : L2.St} {B : Heap} {params : Arguments} {scope : Scope} {bd : Expr} {dV : Value} {c' f : Addr} {H : Hp} {Q : VK} {E : XK} {k : Nat} {vs : List V} (N ps fr : List Str) (js : List Nat) (ws : List (Option V)) (C : CellsB X σ B) (cap : capB X.env.scope scope X.N fr js = true) (S : nscB N ps fr scope = true)
    (hf : H f = some (LamO f (lamNF X params scope c') bd dV)) (hc : H c' = some (CodeO c' (X.env.qual ++ "<lambda>"))) (hl : vs.length = ps.length) (hw : js.map (slV σ) = ws)
    (hb : ∀ (s : Shared) (doc pm ctv : Value), HOk X.prog X.w H s.heap → ∃ us, Vals vs us ∧ BindsTo s (PySem.W.kdv_fn "<lambda>" (X.env.qual ++ "<lambda>") params (.expr bd) scope (cloFrom X.env.cells scope.names []) dV doc pm (.ref c') ctv) ⟨[], []⟩ (ps.zip us))
    (hbody : ∀ (A : Around) (outer : List Env) (s : Shared), Room k (A.deeper (envF (lamNF X params scope c') f s.heap.objs.size)) → ∃ tb, PE (ncx (L2.CX X.prog X.w) X.prog X.w X.K X.mg B N (lamNF X params scope c') f A outer s H E) bd tb ∧ tb (startF N vs ws) H Q) :
    CallAt X.prog X.w X.K X.mg B (k + 1) f H Q E := by
  subst hw
  exact lam_callAt (F := lamNF X params scope c') (nscope_by S) hf hc hl (cells_by C cap) hb hbody
/-! ### exceptions' classes, code objects -/
theorem exm_of {K : PySem.W.Frag} {C1 C2 : Addr} {b : Bool} (h1 : PySem.W.subIn K (.ref C2) (.type "BaseException") = some true) (h2 : PySem.W.typeIn K (.ref C2) = some (.type "type")) (h3 : PySem.W.isClsIn K C2 = true) (h4 : PySem.W.subIn K (.ref C1) (.ref C2) = some b) : PySem.W.exmOne K (.ref C1) (.ref C2) = some b := by
  have h3 : (PySem.W.clsIn K C2).isSome = true := h3
  unfold PySem.W.exmOne PySem.W.kitCls
  rw [h1, if_pos (by simp)]
  show (if ((PySem.W.clsIn K C2).isSome && PySem.W.typeIn K (.ref C2) == some (.type "type")) = true then PySem.W.subIn K (.ref C1) (.ref C2) else none) = some b
  rw [h3, h2]
  rw [if_pos (by simp)]
  exact h4
def hdOk (vs : Array Value) (c P : Addr) : Bool :=
  (match (vs[11]? : Option Value) with | some (.ref P') => P' == P | _ => false) && (match vs.getD 18 .none with | .str _ _ => true | _ => false) && (match vs.getD 7 .none with | .int _ _ => true | _ => false) &&
    (match vs.getD 9 .none with | .bool _ => true | _ => false) && (match vs.getD 10 .none with | .int _ _ => true | _ => false) && c != P
theorem hd_of {K : PySem.W.Frag} {c P : Addr} {od : Option Addr} {vs : Array Value} {sl : Array (Option Value)} (h : K.lookup c = some ⟨.type "code", od, .fields vs, sl⟩) (e : hdOk vs c P = true) : PySem.W.codeHdIn K c P = true := by
  unfold PySem.W.codeHdIn
  rw [h]
  exact e
/-! ### tables kept -/
theorem tabs_same {T : List (Addr × Str)} {H H' : Hp} (t : Tabs T H) (s : Same H H') : Tabs T H' := t.ext s
theorem tabs_b {T : List (Addr × Str)} {H H' : Hp} {st : Addr} {l : List V} (t : Tabs T H) (s : SameB (· = st) H H') (h : H st = some (.lst l)) : Tabs T H' := fun p hp => by
  obtain ⟨ps, h1, h2, h3⟩ := t p hp
  have up : ∀ b o, H b = some o → (∀ l, o ≠ .lst l) → H' b = some o := fun b o e n => s b o (fun z => by rw [z, h] at e; exact n l (Option.some.inj e).symm) e
  refine ⟨ps, up _ _ h1 (fun l z => by cases z), h2, fun pos cv hc => ?_⟩
  obtain ⟨c, e1, e2⟩ := h3 pos cv hc
  exact ⟨c, e1, up _ _ e2 fun l z => by unfold CodeO at z; cases z⟩
/-- all but tables kept -/
theorem ExtN.o {H H' : Hp} (e : ExtN H H') {b : Addr} {o : HO} (h : H b = some o) (n : ∀ ps, o ≠ .tbl ps) : H' b = some o := e b o h n
/-! ### the try -/
theorem w_try {X : Cx} {i k : Nat} {W : WX} {σ : L2.St} {H : Hp} {D : Ends} {f : Addr} {F : NF} {bd : Expr} {dV : Value} {Ef : XK} (hs : σ[i]? = some (some (.ref f))) (hf : H f = some (LamO f F bd dV)) (hc : CallAt X.prog X.w X.K X.mg X.base k f H D.rt Ef) (hW : ∀ cls d (σ' : L2.St) H', Ef cls d H' → W cls d σ' H') (hr : Room k X.A) :
    tRet (tAct X i k W) D σ H := ⟨f, F, bd, dV, Ef, hs, hf, hc, hW, hr⟩
/-! ### the comprehension's items -/
section
variable {X : Cx} {K : PySem.W.Frag} {te : Heap → TE} {vs : List Nat} {σ : L2.St} {H : Hp} {Q : VK} {a : Addr} {xs : List V} {j : Nat}
/-- over a list: items that are new objects -/
theorem c_listB (S : Addr → Prop) (Pv : Nat → List V → Hp → Prop) (hS : ∀ b, S b → H b ≠ none) (h0 : ∀ D, H D = none → Pv 0 [] (upd H D (.lst []))) (hz : ∀ i o H', i < xs.length → Pv i o H' → o.length < 100000) (hx : ∀ H', SameB S H H' → SqL K H' a xs)
    (hD : ∀ i o H' D l l', H D = none → H' D = some (.lst l) → Pv i o H' → Pv i o (upd H' D (.lst l'))) (hw : ∀ x, wipe ((wipe σ vs).set j (some x)) vs = wipe σ vs)
    (turn : ∀ B, CellsB X σ B → ∀ i x H' o, xs[i]? = some x → SameB S H H' → Pv i o H' → ∀ R : VK, (∀ y H4, SameB S H' H4 → Pv (i + 1) (o ++ [y]) H4 → R y H4) → te B ((wipe σ vs).set j (some x)) H' R)
    (q : ∀ p o H', H p = none → SameB S H H' → Pv xs.length o H' → H' p = some (.lst o) → Q (.ref p) H')
    {tl : TE} (ht : ∀ R : VK, R (.ref a) H → tl σ H R) : tLcB X (iSeq K tl) (gName j) te vs σ H Q :=
  ht _ ⟨a, rfl, .inl ⟨⟨xs, hx H (SameB.refl H)⟩, fun B hB => c_walkI S Pv walk_listS hS h0 hz hx hD (fun i x H1 H' o hi s p y R k => by
    obtain ⟨e1, e2⟩ := y
    subst e1
    exact k _ (hw x) (SameB.refl _) (turnI_map (turn B hB i x _ o e2 s p))) q⟩⟩
end
/-! ### a row of outcomes -/
section
variable {X : Cx} {K : PySem.W.Frag} {te : Heap → TE} {vs : List Nat} {σ : L2.St} {H : Hp} {Q : VK} {l : Addr} {j : Nat} {fs : List Addr} {nm : Str}
theorem c_outs (nm : Str) (hl : H l = some (.lst (fs.map V.ref))) (hn : fs.length ≤ 1000)
    (turn : ∀ B, CellsB X σ B → ∀ (i : Nat) (f : Addr) (H' : Hp), fs[i]? = some f → Same H H' → ∀ R : VK, (∀ T H'', H'' T = some (.tup [.str nm]) → Same H' H'' → R (.ref T) H'') → te B ((wipe σ vs).set j (some (.ref f))) H' R)
    (q : ∀ p (Ts : List Addr) H', Same H H' → H' p = some (.lst (Ts.map V.ref)) → Ts.length = fs.length → (∀ T ∈ Ts, H' T = some (.tup [.str nm])) → Q (.ref p) H')
    (hw : ∀ x, wipe ((wipe σ vs).set j (some x)) vs = wipe σ vs) {tl : TE} (ht : ∀ R : VK, R (.ref l) H → tl σ H R) : tLcB X (iSeq K tl) (gName j) te vs σ H Q := by
  refine c_listB (a := l) (xs := fs.map V.ref) (fun _ => False) (fun i o H' => ∃ Ts : List Addr, o = Ts.map V.ref ∧ Ts.length = i ∧ ∀ T ∈ Ts, H' T = some (.tup [.str nm])) (fun _ z => z.elim) (fun D hD => ⟨[], rfl, rfl, fun T z => by simp at z⟩) (fun i o H' hi p => ?_) (fun H' s => SqL.of (s _ _ id hl))
    (fun i o H' D l1 l2 hD hd p => ?_) hw (fun B hB i x H' o hx s p R hR => ?_) (fun p o H' hp s pv hL => ?_) ht
  · obtain ⟨Ts, rfl, h, _⟩ := p
    rw [List.length_map] at hi ⊢
    omega
  · obtain ⟨Ts, rfl, h, hT⟩ := p
    exact ⟨Ts, rfl, h, fun T m => by rw [upd_ne (fun z => by have e := hT T m; rw [z, hd] at e; cases e)]; exact hT T m⟩
  · rw [List.getElem?_map] at hx
    cases e : fs[i]? with
    | none => rw [e] at hx; cases hx
    | some f =>
      rw [e] at hx
      cases hx
      obtain ⟨Ts, rfl, h, hT⟩ := p
      refine turn B hB i f H' e (fun b o eb => s b o id eb) R fun T H'' eT s2 => hR _ _ (Same.b s2) ⟨Ts ++ [T], by rw [List.map_append]; rfl, by rw [List.length_append, h]; rfl, fun T' m => ?_⟩
      rcases List.mem_append.1 m with m | m
      · exact s2 _ _ (hT T' m)
      · rw [List.mem_singleton.1 m]
        exact eT
  · obtain ⟨Ts, rfl, h, hT⟩ := pv
    exact q p Ts H' (fun b o eb => s b o id eb) hL (by rw [h, List.length_map]) hT
theorem dp_outs {Ts : List Addr} {p : Addr} (hp : H p = some (.lst (Ts.map V.ref))) (hT : ∀ T ∈ Ts, H T = some (.tup [.str nm])) : Dp K H (.ref p) (.list (List.replicate Ts.length (.tuple [.str nm]))) := by
  refine .lst (SqL.of hp) ?_
  clear hp
  induction Ts with
  | nil => exact .nil
  | cons T Ts ih => exact .cons (.tup (SqT.of (hT T (List.mem_cons_self ..))) (.cons (.str nm) .nil)) (ih fun T' m => hT T' (List.mem_cons_of_mem _ m))
end
theorem keepN {H H' : Hp} (s : Same H H') : ExtN H H' := fun b o e _ => s b o e
end Odd

namespace Odd
open PySem PySem.SeqAt
open AutoSeq1 (wpAny_loadPart')
open MeetsSeq MeetsSeq2 MeetsSeq3 SeqRoads2
/-! ### (x, i) != (y, j), x and y own instances -/
theorem pair_ne {prog : Program} {w : World} {A : Around} {R : Result → Shared → Prop} (l b : Addr) (x1 x2 y1 y2 : Value) (n n2 : Nat) (dd dd2 : Option Addr) (sl sl2 : Array (Option Value)) (k2 : Bool) (J : Bool → Shared → Prop) {s : Shared}
    (h1 : wpAny (model prog w) A.in1 (eqBool x1 y1) J (fun e s' => R (.error e) s') s) (h2 : ∀ s', J true s' → EqAt A.in1 s' x2 y2 k2) (f1 : ∀ s', J false s' → R (.ok (.ret (.bool true))) s') (f2 : ∀ s', J true s' → R (.ok (.ret (.bool (!k2)))) s')
    (hl : s.heap.get? l = some { cls := .type "tuple", dict := dd, data := .seq #[x1, x2] n, slots := sl }) (hb : s.heap.get? b = some { cls := .type "tuple", dict := dd2, data := .seq #[y1, y2] n2, slots := sl2 }) :
    wpAny (model prog w) A.in1 (Builtin.«tuple.__ne__» ⟨[.ref l, .ref b], []⟩) (GQ.FinOf prog w A R) (fun e s' => R (.error e) s') s := by
  have sub := AutoSeq1.sub_tuple_tuple
  obtain ⟨hp, g, d, tk, os⟩ := s
  wp_walk using wpAny_loadPart' hl, wpAny_loadPart' hb, wpAny_forIn_list _ (fun rest b s' => b.1 = none ∧ ((rest = [(x1, y1), (x2, y2)] ∧ s' = ⟨hp, g, d, tk, os⟩) ∨ (rest = [(x2, y2)] ∧ J true s') ∨ (rest = [] ∧ k2 = true ∧ J true s'))) _
  case turn =>
    rintro ⟨u, v⟩ rest b s' ⟨hb', hc⟩
    rcases hc with ⟨hr, rfl⟩ | ⟨hr, hJ⟩ | ⟨hr, _⟩
    · injection hr with hx hr
      cases hx
      refine wpAny_bind (wpAny_mono h1 (fun r s2 hJ => ?_) fun _ _ z => z)
      cases r with
      | true =>
        obtain ⟨hp2, g2, d2, tk2, os2⟩ := s2
        wp_walk
        exact ⟨rfl, .inr (.inl ⟨hr, hJ⟩)⟩
      | false =>
        have q := f1 _ hJ
        obtain ⟨hp2, g2, d2, tk2, os2⟩ := s2
        wp_walk
        exact q
    · injection hr with hx hr
      cases hx
      refine wpAny_bind (h2 s' hJ prog w _ _ ?_)
      cases k2 with
      | true =>
        obtain ⟨hp2, g2, d2, tk2, os2⟩ := s'
        wp_walk
        exact ⟨rfl, .inr (.inr ⟨hr, rfl, hJ⟩)⟩
      | false =>
        have q := f2 _ hJ
        obtain ⟨hp2, g2, d2, tk2, os2⟩ := s'
        wp_walk
        exact q
    · cases hr
  case fin =>
    rintro ⟨b1, b2⟩ s' ⟨hb', hc⟩
    simp only at hb'
    subst hb'
    rcases hc with ⟨hr, _⟩ | ⟨hr, _⟩ | ⟨_, hk, hJ⟩
    · cases hr
    · cases hr
    · have q := f2 _ hJ
      rw [hk] at q
      obtain ⟨hp2, g2, d2, tk2, os2⟩ := s'
      wp_walk
      simpa [Builtin.Tuple.tupleCompareSizes] using q
  case h =>
    exact ⟨rfl, .inl ⟨rfl, rfl⟩⟩
end Odd
namespace Odd
open PySem PySem.Spec PyProof.Rows L2
section
variable {X : Cx} {CX : CXT} {E : XK} {n : Nat} {g C : Addr} {sp : Sp}
def rNePair (K : PySem.W.Frag) (C : Addr) (sp : Sp) (E : XK) : R2 := fun x y H Q => ∃ (T1 T2 r1 r2 : Addr) (i j : Int) (dx dy : Addr) (fs gs : List (Str × V)), x = .ref T1 ∧ y = .ref T2 ∧ SqT K H T1 [.ref r1, .int i] ∧ SqT K H T2 [.ref r2, .int j] ∧ H r1 = some (.ins C dx fs) ∧ H r2 = some (.ins C dy gs) ∧
  (r1 = r2 → Q (.bl (!decide (i = j))) H) ∧ (r1 ≠ r2 → sp [.ref r1, .ref r2] H (fun z H' => ∃ k, z = .bl k ∧ Q (.bl (!(k && decide (i = j)))) H') E)
theorem op_nePair (hs : PySem.W.findIn X.K (.ref C) "__eq__" = some (some (.ref g))) (hf : PySem.W.isFn X.K (.ref g) = true) (F : FnR X.prog X.w X.K X.mg X.base CX n g sp) (hr : Room (n + 1) X.A) (hx : Passes CX X E) : OpR X (compareOp .NotEq) (rNePair X.K C sp E) := by
  intro pins s σ H x y v u Q I rx ry h
  obtain ⟨T1, T2, r1, r2, i, j, dx, dy, fs, gs, rfl, rfl, h1, h2, ha, hb, q0, q⟩ := h
  cases (show v = Value.ref T1 from rx)
  cases (show u = Value.ref T2 from ry)
  obtain ⟨its1, rv1, p1, _⟩ := I.tuple h1
  obtain ⟨its2, rv2, p2, _⟩ := I.tuple h2
  obtain ⟨u1, u2, rfl, ru1, ru2⟩ := vals2 rv1
  obtain ⟨w1, w2, rfl, rw1, rw2⟩ := vals2 rv2
  obtain rfl : u1 = Value.ref r1 := ru1
  obtain rfl : w1 = Value.ref r2 := rw1
  obtain ⟨ti, rfl⟩ := (show ∃ t, u2 = Value.int i t from ru2)
  obtain ⟨tj, rfl⟩ := (show ∃ t, w2 = Value.int j t from rw2)
  obtain ⟨⟨cls, dd, data, sl⟩, ho, hc, m, hd⟩ := id p1
  obtain ⟨⟨cls2, dd2, data2, sl2⟩, ho2, hc2, m2, hd2⟩ := id p2
  simp only at hc hd hc2 hd2
  subst hc hd hc2 hd2
  have hu : X.A.units < cLine := hr.units0
  refine wpAny_richCompare_same_room (op := .NotEq) ⟨_, ho, rfl⟩ ⟨_, ho2, rfl⟩ PySem.F.slot_tuple_ne (GQ.call_here PySem.F.slot_tuple_ne ⟨_, ho, rfl⟩ PySem.F.entry_tuple_ne (PySem.F.args_tuple_ne_2 _ _) ?_) hu
  refine pair_ne (R := wants (fun v s' => v ≠ .notImplemented ∧ EP X pins σ Q v s') X.xe) T1 T2 (.ref r1) (.int i ti) (.ref r2) (.int j tj) m m2 dd dd2 sl sl2 (decide (i = j)) (fun k s' => ∃ H', Inv X pins σ H' s' ∧ Q (.bl (!(k && decide (i = j)))) H') ?_ (fun s' _ => ?_) (fun s' ⟨H', I', q'⟩ => ?_) (fun s' ⟨H', I', q'⟩ => ?_) ho ho2
  · by_cases hne : r1 = r2
    · subst hne
      exact SeqAt.EqAt.same (A := X.A.in1) (s := s) (.ref r1) X.prog X.w _ _ ⟨H, I, by simpa using q0 rfl⟩
    have q := q hne
    obtain ⟨ox, od, J⟩ := inst_at I ha
    obtain ⟨oy, od', J'⟩ := inst_at I hb
    obtain ⟨mm, hF⟩ := I.fr
    refine GQ.eqBool_refG hne (PySem.W.cmp_K (op := .Eq) (tb := .ref C) hr.in1.units0 hF I.ok.mod.kin J J'.type (by simp [PySem.W.notFirst]) hs hf (wpAny_mono (call_in1 (vs := [.ref r1, .ref r2]) F hr hx I (.cons rfl (.cons rfl .nil)) q) (fun z s' zz => ?_) fun _ _ e => e))
    obtain ⟨v', H', I', rz, k, rfl, qz⟩ := zz
    cases rz
    exact ⟨k, rfl, H', I', qz⟩
  · rw [show decide (i = j) = (i == j) by by_cases h : i = j <;> simp [h]]
    exact SeqAt.EqAt.int_int i ti j tj
  · exact ⟨(fun x => nomatch x), .bl true, H', I', rfl, q'⟩
  · exact ⟨(fun x => nomatch x), .bl (!decide (i = j)), H', I', rfl, by simpa using q'⟩
end
theorem s_nePair {X0 : Cx} {E : XK} {H : Hp} {Q : VK} {k : Nat} {C g T1 T2 r1 r2 dx dy : Addr} {i j : Int} {fs gs : List (Str × V)} {sp : Sp} (M : Meth X0.K C "__eq__" g) (F : Fn X0 k g sp) (hr : Room (k + 1) X0.A) (h1 : SqT X0.K H T1 [.ref r1, .int i]) (h2 : SqT X0.K H T2 [.ref r2, .int j]) (ha : H r1 = some (.ins C dx fs)) (hb : H r2 = some (.ins C dy gs))
    (q0 : r1 = r2 → Q (.bl (!decide (i = j))) H) (q : r1 ≠ r2 → sp [.ref r1, .ref r2] H (fun z H' => ∃ k, z = .bl k ∧ Q (.bl (!(k && decide (i = j)))) H') E) : ∃ r, OpD X0 E (compareOp .NotEq) r ∧ r (.ref T1) (.ref T2) H Q :=
  ⟨rNePair X0.K C sp E, fun X l h => by rw [← l.K]; exact op_nePair (by rw [l.K]; exact M.at_) (by rw [l.K]; exact M.fn) (l.fn F) (l.room hr) h, T1, T2, r1, r2, i, j, dx, dy, fs, gs, rfl, rfl, h1, h2, ha, hb, q0, q⟩
end Odd

namespace GBT
open PySem PyProof.Rows
open PySem.Sem (wp)
theorem meets_bool_tup (l : Addr) (items : Array Value) (hfit : (items.size : Int) < 2 ^ 63) :
    Meets (Builtin.«bool.__new__» ⟨[.type "bool", .ref l], []⟩) (fun _ R s => IsTup s.heap l items ∧ R (.ok (.ret (.bool (!items.isEmpty)))) { s with toks := s.toks + 1 + 1 }) :=
  Meets.of_wp fun prog w A R s hs => by
    obtain ⟨hl, hs⟩ := hs
    obtain ⟨hp, g, d, tk, os⟩ := s
    have f1 := F.conv_sub_bool
    repeat (any_goals (first | assumption | (with_reducible refine truthy_tuple hl hfit ?_) | wp_step))
    all_goals first | exact ⟨_, rfl, hs⟩ | exact hs | skip
theorem call_bool_tup {prog : Program} {w : World} {A : Around} {E : Value → Shared → Prop} {s : Shared} {l : Addr} {items : Array Value} {Q : Value → Shared → Prop} (hfit : (items.size : Int) < 2 ^ 63) (hl : IsTup s.heap l items)
    (h : Q (.bool (!items.isEmpty)) { s with toks := s.toks + 1 + 1 }) : wpAny (model prog w) A (call (.type "bool") [.ref l]) Q E s :=
  call_bool_1 (meets_bool_tup l items hfit) ⟨hl, rfl, h⟩
end GBT
namespace Odd
open PySem PySem.Spec PyProof.Rows L2
section
variable {X : Cx} {CX : CXT} {E : XK} {n : Nat} {g C : Addr} {sp : Sp}
/-- the truth of an own instance, by its own method -/
def rTruO (C : Addr) (sp : Sp) (E : XK) : V → Hp → (Bool → Hp → Prop) → Prop := fun x H Q => ∃ a dx fs, x = .ref a ∧ H a = some (.ins C dx fs) ∧ sp [x] H (fun z H' => ∃ b, z = .bl b ∧ Q b H') E
theorem tru_own (hs : PySem.W.findIn X.K (.ref C) "__bool__" = some (some (.ref g))) (hf : PySem.W.isFn X.K (.ref g) = true) (F : FnR X.prog X.w X.K X.mg X.base CX n g sp) (hr : Room n X.A) (hx : Passes CX X E) : TruR X (rTruO C sp E) := by
  intro pins s σ H x v Q I rx h
  obtain ⟨a, dx, fs, rfl, ha, q⟩ := h
  cases (show v = Value.ref a from rx)
  obtain ⟨ox, od, J⟩ := inst_at I ha
  unfold truthy
  refine wpAny_bind (PySem.W.special_fn I.kIn J hs (beq_iff_eq.mp hf) (wpAny_mono (call_ref (vs := [.ref a]) F hr hx I (.cons rfl .nil) q) (fun w s' z => ?_) fun _ _ x => x))
  obtain ⟨z', H', I', rz, b, rfl, qz⟩ := z
  cases (show w = Value.bool b from rz)
  exact wpAny_pure ⟨H', I', qz⟩
def rIxK : R2 := fun x y H Q => ∃ p v, x = .ref p ∧ DGet H p y (some v) ∧ Q v H
theorem ix_dict (hu : X.A.units + 1 < cLine) : IxO X rIxK := by
  intro value slice pins s σ H x y v u Q I rx ry h hs _
  obtain ⟨p, z, rfl, g, q⟩ := h
  cases (show v = Value.ref p from rx)
  exact tail_any (dict_typeIs I g) PySem.F.slot_dict_getitem.lookup (d_getItem hu I g ry fun w' s3 I3 rw' => ⟨z, H, I3, rw', q⟩) hs
theorem call_boolT : CallR X (.type "bool") (fun xs H Q => ∃ (a : Addr) (zs : List V), xs = [.ref a] ∧ SqT X.K H a zs ∧ Q (.bl (!zs.isEmpty)) H) := by
  intro pins s σ H xs us Q I r h
  obtain ⟨a, zs, rfl, hq, q⟩ := h
  obtain rfl := Vals.ref1 r
  obtain ⟨its, rv, pl, hz⟩ := I.tuple hq
  have hl := line63
  have hlen := rv.length
  refine GBT.call_bool_tup (by simp only [List.size_toArray]; omega) pl ?_
  exact ⟨.bl (!zs.isEmpty), H, I.tok _, by rw [isEmpty_of rv]; rfl, q⟩
end
/-- an attribute within a comprehension: pe_atA's last argument stood in the way of the kind of the whole -/
theorem pe_atB {X0 X : Cx} {E : XK} {e : Expr} {te : TE} {f : Str} {pos : Pos} (l : Like X0 X) (h : Pas X E) (he : PE X e te) (hb : ∀ m, attributeBase e f X.env m = m := by exact fun _ => rfl) : PE X (.Attribute e f pos) (tAtA X0 E f te) := pe_atA l h he (hb _)
theorem hu1 {k : Nat} {A : Around} (hr : Room k A) : A.units + 1 < cLine := by
  have := hr.units
  omega
section
variable {X0 : Cx} {E : XK} {H : Hp} {Q : VK}
theorem s_truO {k : Nat} {C g a dx : Addr} {fs : List (Str × V)} {sp : Sp} {QB : Bool → Hp → Prop} (M : Meth X0.K C "__bool__" g) (F : Fn X0 k g sp) (hr : Room k X0.A) (ha : H a = some (.ins C dx fs)) (q : sp [.ref a] H (fun z H' => ∃ b, z = .bl b ∧ QB b H') E) : ∃ r, TrD X0 E r ∧ r (.ref a) H QB :=
  ⟨rTruO C sp E, fun X l h => tru_own (by rw [l.K]; exact M.at_) (by rw [l.K]; exact M.fn) (l.fn F) (l.room hr) h, a, dx, fs, rfl, ha, q⟩
theorem s_ixK {k : Nat} {p : Addr} {kvs : List (Key × V)} {i : Int} {v : V} (hr : Room k X0.A) (h : H p = some (.dK kvs)) (e : valV kvs (.inl i) = some v) (q : Q v H) : ∃ r, IxD X0 E r ∧ r (.ref p) (.int i) H Q :=
  ⟨rIxK, fun X l _ => ix_dict (hu1 (l.room hr)), p, v, rfl, by rw [← e]; exact DGet.k (k := .inl i) h, q⟩
theorem s_boolT {p : Addr} {xs : List V} (h : SqT X0.K H p xs) (q : Q (.bl (!xs.isEmpty)) H) : ∃ r, CaD X0 E (.type "bool") r ∧ r [.ref p] H Q :=
  ⟨fun vs H Q => ∃ (a : Addr) (zs : List V), vs = [.ref a] ∧ SqT X0.K H a zs ∧ Q (.bl (!zs.isEmpty)) H, fun X l _ => by rw [← l.K]; exact call_boolT, p, xs, rfl, h, q⟩
theorem s_divmod {i j : Int} (h1 : 0 < j) (h2 : j < 1073741824) (q : ∀ p, H p = none → Q (.ref p) (upd H p (.tup [.int (i / j), .int (i % j)]))) : ∃ r, CaD X0 E (.builtin "divmod") r ∧ r [.int i, .int j] H Q :=
  ⟨_, fun X _ _ => call_divmod, i, j, rfl, ⟨h1, h2⟩, q⟩
end
section
variable {X0 X : Cx} {E : XK}
/-- o.m(e, ..), an own method -/
theorem pe_meA {o e : Expr} {es : List Expr} {ta : TE} {t : TA} {m : Str} {pos apos : Pos} {pl : Sem Bool} (l : Like X0 X) (h : Pas X E) (he : PE X o ta) (ha : PA X (e :: es) t)
    (hst : starEach (e :: es) X.env = (false, eval e X.env) :: starEach es X.env := by rfl) (hpl : (backTo pos (starEach es X.env)).any (·.1) = false := by rfl)
    (ht : eval (.Call (.Attribute o m apos) (e :: es) [] pos) X.env = (do
      let ov ← eval o X.env
      standAt apos.atName
      let (f, first) ← holding [ov] (getMethod ov m pl)
      callWith pos f first (backTo pos (starEach (e :: es) X.env)) (backToKw pos (keywordEach [] X.env))) := by rfl) :
    PE X (.Call (.Attribute o m apos) (e :: es) [] pos) (tMeA X0 E m ta t) := by
  refine ⟨fun pins s σ H Q I hq => ?_⟩
  refine PySem.W.methodCall_KW (pl := pl) (thn (he.run pins s σ H _ I hq) fun u s1 ⟨x, H1, I1, rx, a, C, dx, fs, g, ex, ea, c, hm, hk, lk, q⟩ => ?_) ht
  subst ex
  obtain rfl : u = Value.ref a := rx
  rw [← l.K] at c hm hk
  refine getmeth_ok I1 ea c hm lk ?_
  refine PySem.W.callWith_K (first := [.ref a]) (h₀ := X.base) I.ok.mod.kin hm.kp (thn (ha.run pos pins s1 σ H1 _ I1 q) fun us s2 ⟨vs, H2, I2, r, r', hr, q2⟩ => ⟨I2.kIn, ?_⟩) hst hpl
  exact hr X l h pins s2 σ H2 (.ref a :: vs) (.ref a :: us) Q I2 (.cons rfl r) q2
theorem w_meA {m : Str} {ta : TE} {t : TA} {σ : L2.St} {H : Hp} {Q : VK} (h : ta σ H fun x H1 => ∃ a C dx fs g, x = .ref a ∧ H1 a = some (.ins C dx fs) ∧ Cls X0.K C ∧ Meth X0.K C m g ∧ PySem.W.keepIn X0.K (.ref g) = true ∧ fs.lookup m = none ∧
  t σ H1 fun vs H2 => ∃ r, CaD X0 E (.ref g) r ∧ r (x :: vs) H2 Q) : tMeA X0 E m ta t σ H Q := h
end
/-! ### a row of outcomes of several names -/
section
variable {X : Cx} {K : PySem.W.Frag} {te : Heap → TE} {vs : List Nat} {σ : L2.St} {H : Hp} {Q : VK} {l : Addr} {j : Nat} {fs : List Addr}
theorem c_outsL (nms : List Str) (hnl : nms.length = fs.length) (hl : H l = some (.lst (fs.map V.ref))) (hn : fs.length ≤ 1000)
    (turn : ∀ B, CellsB X σ B → ∀ (i : Nat) (f : Addr) (nm : Str) (H' : Hp), fs[i]? = some f → nms[i]? = some nm → Same H H' → ∀ R : VK, (∀ T H'', H'' T = some (.tup [.str nm]) → Same H' H'' → R (.ref T) H'') → te B ((wipe σ vs).set j (some (.ref f))) H' R)
    (q : ∀ p (Ts : List Addr) H', Same H H' → H' p = some (.lst (Ts.map V.ref)) → Ts.length = nms.length → (∀ (i : Nat) T nm, Ts[i]? = some T → nms[i]? = some nm → H' T = some (.tup [.str nm])) → Q (.ref p) H')
    (hw : ∀ x, wipe ((wipe σ vs).set j (some x)) vs = wipe σ vs) {tl : TE} (ht : ∀ R : VK, R (.ref l) H → tl σ H R) : tLcB X (iSeq K tl) (gName j) te vs σ H Q := by
  refine c_listB (a := l) (xs := fs.map V.ref) (fun _ => False) (fun i o H' => ∃ Ts : List Addr, o = Ts.map V.ref ∧ Ts.length = i ∧ ∀ (k : Nat) T nm, Ts[k]? = some T → nms[k]? = some nm → H' T = some (.tup [.str nm])) (fun _ z => z.elim) (fun D hD => ⟨[], rfl, rfl, fun k T nm z => by simp at z⟩) (fun i o H' hi p => ?_) (fun H' s => SqL.of (s _ _ id hl))
    (fun i o H' D l1 l2 hD hd p => ?_) hw (fun B hB i x H' o hx s p R hR => ?_) (fun p o H' hp s pv hL => ?_) ht
  · obtain ⟨Ts, rfl, h, _⟩ := p
    rw [List.length_map] at hi ⊢
    omega
  · obtain ⟨Ts, rfl, h, hT⟩ := p
    by_cases hD2 : D ∈ Ts
    · obtain ⟨k, ek⟩ := List.mem_iff_getElem?.1 hD2
      obtain ⟨hk, _⟩ := List.getElem?_eq_some_iff.1 ek
      refine ⟨Ts, rfl, h, fun k' T nm e1 e2 => ?_⟩
      rw [upd_ne (fun z => by have e := hT k' T nm e1 e2; rw [z, hd] at e; cases e)]
      exact hT k' T nm e1 e2
    · exact ⟨Ts, rfl, h, fun k' T nm e1 e2 => by rw [upd_ne (fun z => by have e := hT k' T nm e1 e2; rw [z, hd] at e; cases e)]; exact hT k' T nm e1 e2⟩
  · rw [List.getElem?_map] at hx
    cases e : fs[i]? with
    | none => rw [e] at hx; cases hx
    | some f =>
      rw [e] at hx
      cases hx
      obtain ⟨hif, _⟩ := List.getElem?_eq_some_iff.1 e
      have en := List.getElem?_eq_getElem (l := nms) (i := i) (by omega)
      obtain ⟨Ts, rfl, h, hT⟩ := p
      refine turn B hB i f _ H' e en (fun b o eb => s b o id eb) R fun T H'' eT s2 => hR _ _ (Same.b s2) ⟨Ts ++ [T], by rw [List.map_append]; rfl, by rw [List.length_append, h]; rfl, fun k T' nm e1 e2 => ?_⟩
      by_cases hk : k < Ts.length
      · rw [List.getElem?_append_left hk] at e1
        exact s2 _ _ (hT k T' nm e1 e2)
      · rw [List.getElem?_append_right (by omega)] at e1
        cases z : k - Ts.length with
        | zero =>
          rw [z] at e1
          cases e1
          have : k = i := by omega
          rw [this, en] at e2
          cases e2
          exact eT
        | succ m => rw [z] at e1; simp at e1
  · obtain ⟨Ts, rfl, h, hT⟩ := pv
    exact q p Ts H' (fun b o eb => s b o id eb) hL (by rw [h, List.length_map, hnl]) hT
theorem dp_outsL {p : Addr} : ∀ {Ts : List Addr} {nms : List Str}, Ts.length = nms.length → (∀ (i : Nat) T nm, Ts[i]? = some T → nms[i]? = some nm → H T = some (.tup [.str nm])) → DpAll K H (Ts.map V.ref) (nms.map fun nm => .tuple [.str nm])
  | [], [], _, _ => .nil
  | [], _ :: _, h, _ => by simp at h
  | _ :: _, [], h, _ => by simp at h
  | T :: Ts, nm :: nms, h, k => .cons (.tup (SqT.of (k 0 T nm rfl rfl)) (.cons (.str nm) .nil)) (dp_outsL (p := p) (by simpa using h) fun i T' n' e1 e2 => k (i + 1) T' n' (by simpa using e1) (by simpa using e2))
end
end Odd

namespace Odd
open PySem PySem.Spec PyProof.Rows L2
/-! ### texts -/
section
variable {X0 : Cx} {E : XK} {H : Hp} {Q : VK} {QB : Bool → Hp → Prop} {i j : Int} {x y : Str}
theorem dec_strV (x y : Str) : decide (V.str x = V.str y) = decide (x = y) := by
  by_cases h : x = y
  · rw [decide_eq_true h, decide_eq_true (by rw [h])]
  · rw [decide_eq_false h, decide_eq_false fun e => h (by injection e)]
theorem s_catS (hz : x.length + y.length ≤ sizeLine) (q : Q (.str (x ++ y)) H) : ∃ r, OpD X0 E (binaryOp .Add) r ∧ r (.str x) (.str y) H Q := ⟨_, fun _ _ _ => op_add_str, x, y, rfl, rfl, hz, q⟩
theorem s_strI (h : i.natAbs.log2 < 1920) (q : Q (.str (toString i)) H) : ∃ r, CaD X0 E (.type "str") r ∧ r [.int i] H Q := ⟨_, fun _ _ _ => call_str_int, i, rfl, h, q⟩
theorem s_intS {n : Int} (h : PySem.intText? x = some n) (hl : x.length ≤ 640) (q : Q (.int n) H) : ∃ r, CaD X0 E (.type "int") r ∧ r [.str x] H Q := ⟨_, fun _ _ _ => call_int_str, x, n, rfl, h, hl, q⟩
theorem s_intI (q : Q (.int i) H) : ∃ r, CaD X0 E (.type "int") r ∧ r [.int i] H Q := ⟨_, fun _ _ _ => call_int1, .inl ⟨i, rfl, q⟩⟩
theorem s_lenStr (h : x.length ≤ sizeLine) (q : Q (.int x.length) H) : ∃ r, CaD X0 E (.builtin "len") r ∧ r [.str x] H Q := ⟨_, fun _ _ _ => call_len_str, x, rfl, h, q⟩
theorem s_eqS (q : Q (.bl (decide (x = y))) H) : ∃ r, OpD X0 E (compareOp .Eq) r ∧ r (.str x) (.str y) H Q := ⟨_, fun _ _ _ => op_eq, rfl, by rw [dec_strV]; exact q⟩
theorem s_neS (q : Q (.bl (!decide (x = y))) H) : ∃ r, OpD X0 E (compareOp .NotEq) r ∧ r (.str x) (.str y) H Q := ⟨_, fun _ _ _ => op_ne, rfl, by rw [dec_strV]; exact q⟩
theorem s_ixStr {c : Nat} (hz : x.length ≤ sizeLine) (h : atI x.cps.toList i = some c) (q : Q (.str ⟨#[c]⟩) H) : ∃ r, IxD X0 E r ∧ r (.str x) (.int i) H Q :=
  ⟨rIxS, fun _ _ _ => ix_plain ix_str, x, i, c, rfl, rfl, hz, h, q⟩
theorem s_max2 (hc : X0.calm = true) (q : Q (.int (if j > i then j else i)) H) : ∃ r, CaD X0 E (.builtin "max") r ∧ r [.int i, .int j] H Q := ⟨_, fun _ l _ => call_max2 (by rw [l.calm]; exact hc), i, j, rfl, q⟩
theorem s_min2 (hc : X0.calm = true) (q : Q (.int (if j < i then j else i)) H) : ∃ r, CaD X0 E (.builtin "min") r ∧ r [.int i, .int j] H Q := ⟨_, fun _ l _ => call_min2 (by rw [l.calm]; exact hc), i, j, rfl, q⟩
theorem w_m0 {r : V → List V → Hp → VK → Prop} {to : TE} {σ : L2.St} (h : to σ H fun x H1 => (∃ a, x = .str a) ∧ r x [] H1 Q) : tM0 r to σ H Q := h
theorem w_m1 {r : V → List V → Hp → VK → Prop} {to te : TE} {σ : L2.St} (h : to σ H fun x H1 => (∃ a, x = .str a) ∧ te σ H1 fun y H2 => r x [y] H2 Q) : tM1 r to te σ H Q := h
end
theorem g_trip {K : PySem.W.Frag} {T : Addr} {x y z : V} {i j l : Nat} {σ : L2.St} {H : Hp} {R : L2.St → Hp → Prop} (hT : SqT K H T [x, y, z]) (h : R (((σ.set i (some x)).set j (some y)).set l (some z)) H) : gTup K 3 (gCons (gName i) (gCons (gName j) (gCons (gName l) gNil))) (.ref T) σ H R :=
  ⟨T, [x, y, z], rfl, hT, rfl, x, [y, z], rfl, y, [z], rfl, z, [], rfl, rfl, h⟩
section
variable {K : PySem.W.Frag} {a : Addr} {xs : List V} {tb : TS} {D : Ends} {σ : L2.St} {H : Hp} {ta : TA} {i j : Nat} {tt : TT} {te : TE} {vs : List Nat} {Q : VK}
/-- for i, x in enumerate(a list) -/
theorem f_enumL (Pv : Nat → L2.St → Hp → Prop) (ht : ∀ R : List V → Hp → Prop, R [.ref a] H → ta σ H R) (h0 : Pv 0 σ H) (hl : ∀ i σ H, i ≤ xs.length → Pv i σ H → SqL K H a xs)
    (hs : ∀ k x σ H T, xs[k]? = some x → Pv k σ H → H T = none → tb { D with nx := Pv (k + 1), ct := Pv (k + 1), bk := D.nx } ((σ.set i (some (.int (k : Nat)))).set j (some x)) (upd H T (.tup [.int (k : Nat), x]))) (hd : ∀ σ H, Pv xs.length σ H → D.nx σ H) :
    tFor (iEnumA K ta) (gTup K 2 (gCons (gName i) (gCons (gName j) gNil))) tb D σ H :=
  ht _ ⟨a, rfl, .inl ⟨⟨xs, hl 0 σ H (Nat.zero_le _) h0⟩, for_it walk_enum Pv h0 hl (fun k x σ H H' hk p y => by
    obtain ⟨T, u, v, e1, e2, e3, e4, e5⟩ := y
    cases e4
    subst e1 e3
    exact g_pair (SqT.of upd_same) (hs k v σ H T e5 p e2)) hd⟩⟩
/-- [.. for i, x in enumerate(a list)], items made on the way -/
theorem c_enumLI (S : Addr → Prop) (Pv : Nat → List V → Hp → Prop) (hS : ∀ b, S b → H b ≠ none) (h0 : ∀ D, H D = none → Pv 0 [] (upd H D (.lst []))) (hz : ∀ i o H', i < xs.length → Pv i o H' → o.length < 100000) (hx : ∀ H', SameB S H H' → SqL K H' a xs)
    (hD : ∀ i o H' D l l', H D = none → H' D = some (.lst l) → Pv i o H' → Pv i o (upd H' D (.lst l'))) (hw : ∀ x y, wipe (((wipe σ vs).set i (some x)).set j (some y)) vs = wipe σ vs)
    (hT : ∀ k o H' T o', H' T = none → Pv k o H' → Pv k o (upd H' T o'))
    (turn : ∀ k x H' o, xs[k]? = some x → SameB S H H' → Pv k o H' → TurnI S Pv k tt te (((wipe σ vs).set i (some (.int (k : Nat)))).set j (some x)) H' o)
    (q : ∀ p o H', H p = none → SameB S H H' → Pv xs.length o H' → H' p = some (.lst o) → Q (.ref p) H')
    (ht : ∀ R : List V → Hp → Prop, R [.ref a] H → ta σ H R) : tLc (iEnumA K ta) (gTup K 2 (gCons (gName i) (gCons (gName j) gNil))) tt te vs σ H Q :=
  ht _ ⟨a, rfl, .inl ⟨⟨xs, hx H (SameB.refl H)⟩, c_walkI S Pv walk_enum hS h0 hz hx hD (fun k x H1 H' o hk s p y R q' => by
    obtain ⟨T, u, v, e1, e2, e3, e4, e5⟩ := y
    cases e4
    subst e1 e3
    have p' := hT k o H1 T (.tup [.int (k : Nat), v]) e2 p
    have s' : SameB S H1 (upd H1 T (.tup [.int (k : Nat), v])) := Same.b (same_new e2)
    exact g_pair (SqT.of upd_same) (q' _ (hw _ _) s' (turn k v _ o e5 (s.trans s') p'))) q⟩⟩
end
/-- one continuation where a conditional expression would make two -/
theorem w_ifJ {t : TT} {ta tb : TE} {σ : L2.St} {H : Hp} {Q : VK} (G : V → Hp → Prop) (h : ∀ R : VK, (∀ v H', G v H' → R v H') → tIf t ta tb σ H R) (q : ∀ v H', G v H' → Q v H') : tIf t ta tb σ H Q := h Q q
theorem w_lcR {ta : TA} {g : TG} {tt : TT} {te : TE} {vs0 : List Nat} {σ : L2.St} {H : Hp} {Q : VK} (h : ta σ H fun vs H1 => tLc (iRng1 fun _ H R => R vs H) g tt te vs0 σ H1 Q) : tLc (iRng1 ta) g tt te vs0 σ H Q := h
theorem w_lcQ {K : PySem.W.Frag} {tl : TE} {g : TG} {tt : TT} {te : TE} {vs0 : List Nat} {σ : L2.St} {H : Hp} {Q : VK} (h : tl σ H fun x H1 => tLc (iSeq K fun _ H R => R x H) g tt te vs0 σ H1 Q) : tLc (iSeq K tl) g tt te vs0 σ H Q := h
theorem w_lcE {K : PySem.W.Frag} {ta : TA} {g : TG} {tt : TT} {te : TE} {vs0 : List Nat} {σ : L2.St} {H : Hp} {Q : VK} (h : ta σ H fun vs H1 => tLc (iEnumA K fun _ H R => R vs H) g tt te vs0 σ H1 Q) : tLc (iEnumA K ta) g tt te vs0 σ H Q := h
theorem w_slf {r : V → Option Int → Option Int → Hp → VK → Prop} {te tu : TE} {σ : L2.St} {H : Hp} {Q : VK} (h : te σ H fun x H1 => tu σ H1 fun y H2 => ∃ i, y = .int i ∧ r x (some i) none H2 Q) : tSl r te (tPart tu) tNoPart σ H Q := h
end Odd

namespace Odd
open PySem PySem.Spec PyProof.Rows L2
/-! ### rows of numbers as texts -/
/-- a number written out -/
def numS (i : Int) : Str := (toString i : String)
theorem tl_numS {i : Int} (h : 0 ≤ i) : TL.tl (numS i) = TL.numL i.toNat := by
  obtain ⟨n, rfl⟩ := Int.eq_ofNat_of_zero_le h
  rw [Int.toNat_natCast]
  exact TL.tl_num n
theorem numS_len {i : Int} (h : 0 ≤ i) (h2 : i < 10 ^ 13) : (numS i).length ≤ 13 ∧ 1 ≤ (numS i).length := by
  rw [TL.len_tl, tl_numS h]
  refine ⟨TL.numL_len (by decide) (by omega), ?_⟩
  exact List.length_pos_iff.2 (TL.numL_ne _)
theorem numS_int {i : Int} (h : 0 ≤ i) (h2 : i < 10 ^ 13) : PySem.intText? (numS i) = some i := by
  obtain ⟨n, rfl⟩ := Int.eq_ofNat_of_zero_le h
  refine TL.int_num ?_
  have := TL.numL_len (n := n) (k := 13) (by decide) (by omega)
  omega
theorem digit_uni : ∀ c : Nat, 48 ≤ c → c ≤ 57 → PySem.Unicode.isDigit c = true := by
  intro c h1 h2
  have : c = 48 ∨ c = 49 ∨ c = 50 ∨ c = 51 ∨ c = 52 ∨ c = 53 ∨ c = 54 ∨ c = 55 ∨ c = 56 ∨ c = 57 := by omega
  rcases this with h | h | h | h | h | h | h | h | h | h <;> subst h <;> decide +kernel
theorem cps_all {x : Str} {f : Nat → Bool} (h : ∀ c ∈ TL.tl x, f c = true) : x.cps.all f = true := by
  rw [← Array.all_toList, List.all_eq_true]
  exact h
theorem numS_dig {i : Int} (h : 0 ≤ i) : ∀ c ∈ TL.tl (numS i), 48 ≤ c ∧ c ≤ 57 := fun c hc => by
  rw [tl_numS h] at hc
  exact TL.numL_digits _ c hc
theorem numS_ascii {i : Int} (h : 0 ≤ i) : Txt.isascii (numS i) = true := by
  unfold Txt.isascii
  exact cps_all fun c hc => by have := numS_dig h c hc; rw [decide_eq_true_iff]; omega
theorem numS_digit {i : Int} (h : 0 ≤ i) : Txt.isdigit (numS i) = true := by
  unfold Txt.isdigit
  have : 1 ≤ (numS i).length := by
    rw [TL.len_tl, tl_numS h]
    exact List.length_pos_iff.2 (TL.numL_ne _)
  rw [cps_all fun c hc => digit_uni c (numS_dig h c hc).1 (numS_dig h c hc).2, Bool.and_true, decide_eq_true_iff]
  omega
theorem numL_head : ∀ n : Nat, 0 < n → ∃ c r, TL.numL n = c :: r ∧ c ≠ 48 := by
  intro n
  induction n using Nat.strongRecOn with
  | _ n ih =>
    intro h0
    by_cases h : n < 10
    · rw [TL.numL_lt h]
      exact ⟨48 + n, [], rfl, by omega⟩
    · obtain ⟨c, r, e, hc⟩ := ih (n / 10) (by omega) (by omega)
      rw [TL.numL_step (by omega), e]
      exact ⟨c, r ++ [48 + n % 10], rfl, hc⟩
theorem numS_zero : numS 0 = "0" := by
  refine TL.ext_tl ?_
  rw [tl_numS (by decide)]
  decide +kernel
/-- what a joined text is made of -/
theorem joinL_len (S : List Nat) : ∀ ps : List (List Nat), (TL.joinL S ps).length ≤ (ps.map List.length).sum + ps.length * S.length
  | [] => Nat.zero_le _
  | [p] => by simp [TL.joinL]
  | p :: q :: r => by
    have ih := joinL_len S (q :: r)
    show (p ++ (S ++ TL.joinL S (q :: r))).length ≤ _
    rw [List.length_append, List.length_append, List.map_cons, List.sum_cons, List.length_cons, Nat.succ_mul]
    omega
theorem joinL_mem (S : List Nat) {c : Nat} : ∀ ps : List (List Nat), c ∈ TL.joinL S ps → c ∈ S ∨ ∃ p ∈ ps, c ∈ p
  | [], h => by simp [TL.joinL] at h
  | [p], h => .inr ⟨p, List.mem_singleton_self _, h⟩
  | p :: q :: r, h => by
    have h' : c ∈ p ++ (S ++ TL.joinL S (q :: r)) := h
    rcases List.mem_append.1 h' with h | h
    · exact .inr ⟨p, List.mem_cons_self .., h⟩
    · rcases List.mem_append.1 h with h | h
      · exact .inl h
      · rcases joinL_mem S (q :: r) h with h | ⟨z, hz, h⟩
        · exact .inl h
        · exact .inr ⟨z, List.mem_cons_of_mem _ hz, h⟩
/-- a row: a first word and numbers -/
def rowW (f : Str) (ns : List Int) : List Str := f :: ns.map numS
def rowS (f : Str) (ns : List Int) : Str := Txt.join " " (rowW f ns)
def Nums (ns : List Int) : Prop := ∀ i ∈ ns, 0 ≤ i ∧ i < 10 ^ 13
def FirstW (f : Str) : Prop := f.length ≤ 6 ∧ ∀ c ∈ TL.tl f, 97 ≤ c
theorem first_table : FirstW "table" := by constructor <;> decide +kernel
theorem first_bill : FirstW "bill" := by constructor <;> decide +kernel
theorem sum_le_of {α : Type} (f : α → Nat) (k : Nat) : ∀ l : List α, (∀ x ∈ l, f x ≤ k) → (l.map f).sum ≤ l.length * k
  | [], _ => by simp
  | x :: l, h => by
    have := sum_le_of f k l fun y hy => h y (List.mem_cons_of_mem _ hy)
    have := h x (List.mem_cons_self ..)
    rw [List.map_cons, List.sum_cons, List.length_cons, Nat.succ_mul]
    omega
theorem rowW_sum {f : Str} {ns : List Int} (hf : FirstW f) (h : Nums ns) (hl : ns.length ≤ 9) : ((rowW f ns).map (·.length)).sum + (rowW f ns).length * 1 ≤ 140 := by
  have e : ((rowW f ns).map (·.length)).sum = f.length + (ns.map fun i => (numS i).length).sum := by
    unfold rowW
    rw [List.map_cons, List.sum_cons, List.map_map]
    rfl
  have := sum_le_of (fun i => (numS i).length) 13 ns fun i hi => (numS_len (h i hi).1 (h i hi).2).1
  have : ns.length * 13 ≤ 9 * 13 := Nat.mul_le_mul_right _ hl
  have := hf.1
  rw [e]
  unfold rowW
  rw [List.length_cons, List.length_map]
  omega
theorem rowS_len {f : Str} {ns : List Int} (hf : FirstW f) (h : Nums ns) (hl : ns.length ≤ 9) : (rowS f ns).length ≤ 140 := by
  have h1 := rowW_sum hf h hl
  unfold rowS
  rw [TL.join_eq, TL.len_tl, TL.tl_join]
  refine Nat.le_trans (joinL_len _ _) ?_
  rw [List.map_map, List.length_map]
  have e : (List.map (List.length ∘ TL.tl) (rowW f ns)) = (rowW f ns).map (·.length) := List.map_congr_left fun x _ => (TL.len_tl x).symm
  rw [e, show (TL.tl " ").length = 1 from rfl]
  exact h1
theorem tl_sp : TL.tl " " = 32 :: [] := rfl
theorem tl_nl : TL.tl "\n" = 10 :: [] := rfl
theorem word_free {f : Str} {ns : List Int} (hf : FirstW f) (h : Nums ns) {c : Nat} (hc : c < 48) : ∀ p ∈ rowW f ns, c ∉ TL.tl p := fun p hp hm => by
  rcases List.mem_cons.1 hp with e | e
  · subst e
    have := hf.2 c hm
    omega
  · obtain ⟨i, hi, rfl⟩ := List.mem_map.1 e
    have := numS_dig (h i hi).1 c hm
    omega
theorem row_split {f : Str} {ns : List Int} (hf : FirstW f) (h : Nums ns) : Txt.split (rowS f ns) " " = rowW f ns :=
  TL.split_join tl_sp (by decide +kernel) (by unfold rowW; simp) (word_free hf h (by decide))
theorem row_free {f : Str} {ns : List Int} (hf : FirstW f) (h : Nums ns) : 10 ∉ TL.tl (rowS f ns) := fun hm => by
  unfold rowS at hm
  rw [TL.join_eq, TL.tl_join] at hm
  rcases joinL_mem _ _ hm with z | ⟨p, hp, z⟩
  · rw [tl_sp] at z
    simp at z
  · obtain ⟨x, hx, rfl⟩ := List.mem_map.1 hp
    exact word_free hf h (by decide) x hx z
/-- the first word of an evening's text, and its number -/
theorem table_row (n : Nat) : ("table " : Str) ++ numS n = rowS "table" [(n : Int)] := by
  refine TL.ext_tl ?_
  unfold rowS
  rw [TL.tl_append, TL.join_eq, TL.tl_join]
  show _ = TL.tl "table" ++ (TL.tl " " ++ TL.tl (numS n))
  rw [← List.append_assoc]
  rfl
/-- the numbers of the rows of an evening's text -/
def evRows (n : Nat) (bs : List (Int × List Int)) : List Str := rowS "table" [(n : Int)] :: bs.map fun b => rowS "bill" (b.1 :: b.2)
def evText (n : Nat) (bs : List (Int × List Int)) : Str := Txt.join "\n" (evRows n bs)
end Odd

namespace Odd
open PySem PySem.Spec PyProof.Rows L2
/-! ### comprehensions whose items are new lists: the list under way is named -/
def TurnJ (S : Addr → Prop) (Pv : Nat → List V → Hp → Prop) (D : Addr) (i : Nat) (tt : TT) (te : TE) (σ2 : L2.St) (H1 : Hp) (o : List V) : Prop :=
  ∀ (K1 : VK) (K0 : Hp → Prop), (∀ y H4, SameB S H1 H4 → Pv (i + 1) (o ++ [y]) (upd H4 D (.lst (o ++ [y]))) → K1 y H4) → (∀ H3, SameB S H1 H3 → Pv (i + 1) o H3 → K0 H3) → tt σ2 H1 fun b H3 => if b = true then te σ2 H3 K1 else K0 H3
theorem turnJ_map {S : Addr → Prop} {Pv : Nat → List V → Hp → Prop} {D : Addr} {i : Nat} {te : TE} {σ2 : L2.St} {H1 : Hp} {o : List V} (h : ∀ R : VK, (∀ y H4, SameB S H1 H4 → Pv (i + 1) (o ++ [y]) (upd H4 D (.lst (o ++ [y]))) → R y H4) → te σ2 H1 R) : TurnJ S Pv D i tYes te σ2 H1 o := fun K1 K0 k1 _ => by
  show (if true = true then te σ2 H1 K1 else K0 H1)
  rw [if_pos rfl]
  exact h K1 k1
section
variable {K : PySem.W.Frag} {J : It} {n : Nat} {G : Hp → Prop} {Y : Nat → Hp → V → Hp → Prop} {g : TG} {tt : TT} {te : TE} {vs : List Nat} {σ : L2.St} {H : Hp} {Q : VK}
theorem c_walkJ (S : Addr → Prop) (Pv : Addr → Nat → List V → Hp → Prop) (w : Walk J n G Y) (hS : ∀ b, S b → H b ≠ none) (h0 : ∀ D, H D = none → Pv D 0 [] (upd H D (.lst []))) (hz : ∀ D i o H', i < n → Pv D i o H' → o.length < 100000) (hG : ∀ H', SameB S H H' → G H')
    (turn : ∀ D i x H1 H' o, H D = none → i < n → SameB S H H1 → H1 D = some (.lst o) → Pv D i o H1 → Y i H1 x H' → ∀ R : L2.St → Hp → Prop, (∀ σ2, wipe σ2 vs = wipe σ vs → SameB S H1 H' → TurnJ S (Pv D) D i tt te σ2 H' o → R σ2 H') → g x (wipe σ vs) H' R)
    (q : ∀ p o H', H p = none → SameB S H H' → Pv p n o H' → H' p = some (.lst o) → Q (.ref p) H') :
    ∀ D, H D = none → ∃ W : Nat → Nat → Hp → Prop, (∃ m, W 0 m (upd H D (.lst []))) ∧ ∀ i m H, W i m H →
      (J.stop i H ∧ Q (.ref D) H) ∨ (J.go i H ∧ ∃ Nx : Hp → Prop, (∀ H', Nx H' → ∃ m', m' < m ∧ W (i + 1) m' H') ∧ ∀ x H', J.yld i H x H' → g x (wipe σ vs) H' fun σ2 H2 => wipe σ2 vs = wipe σ vs ∧ tt σ2 H2 fun b H3 =>
        if b = true then te σ2 H3 fun y H4 => ∃ acc, H4 D = some (.lst acc) ∧ acc.length < sizeLine ∧ Nx (upd H4 D (.lst (acc ++ [y]))) else Nx H3) := fun D hDn => by
  have nS : ¬ S D := fun z => hS D z hDn
  refine lc_it w (Qd := fun H' => Q (.ref D) H') (fun i H' => ∃ o, SameB S H H' ∧ H' D = some (.lst o) ∧ Pv D i o H') ⟨[], (SameB.refl H).upd hDn, upd_same, h0 D hDn⟩ (fun i H' _ p => hG H' p.choose_spec.1) (fun i x H1 H' hi p y => ?_) fun H' p => ?_
  · obtain ⟨o, s1, d1, p1⟩ := p
    refine turn D i x H1 H' o hDn hi s1 d1 p1 y _ fun σ2 ew s2 t => ⟨ew, ?_⟩
    have d2 : H' D = some (.lst o) := s2 _ _ nS d1
    exact t _ _ (fun y H4 s4 p4 => ⟨o, s4 _ _ nS d2, Nat.lt_of_lt_of_le (hz D i o H1 hi p1) (by decide), o ++ [y], ((s1.trans s2).trans s4).upd hDn, upd_same, p4⟩)
      fun H3 s3 p3 => ⟨o, (s1.trans s2).trans s3, s3 _ _ nS d2, p3⟩
  · obtain ⟨o, s1, d1, p1⟩ := p
    exact q D o H' hDn s1 p1 d1
variable {a b : Addr} {xs ys : List V} {j j2 : Nat}
theorem c_tupJ (S : Addr → Prop) (Pv : Addr → Nat → List V → Hp → Prop) (hS : ∀ b, S b → H b ≠ none) (h0 : ∀ D, H D = none → Pv D 0 [] (upd H D (.lst []))) (hz : ∀ D i o H', i < xs.length → Pv D i o H' → o.length < 100000) (hx : ∀ H', SameB S H H' → SqT K H' a xs)
    (hw : ∀ x, wipe ((wipe σ vs).set j (some x)) vs = wipe σ vs)
    (turn : ∀ D i x H' o, H D = none → xs[i]? = some x → SameB S H H' → H' D = some (.lst o) → Pv D i o H' → TurnJ S (Pv D) D i tt te ((wipe σ vs).set j (some x)) H' o)
    (q : ∀ p o H', H p = none → SameB S H H' → Pv p xs.length o H' → H' p = some (.lst o) → Q (.ref p) H')
    {tl : TE} (ht : ∀ R : VK, R (.ref a) H → tl σ H R) : tLc (iSeq K tl) (gName j) tt te vs σ H Q :=
  ht _ ⟨a, rfl, .inr ⟨⟨xs, hx H (SameB.refl H)⟩, c_walkJ S Pv walk_tupS hS h0 hz hx (fun D i x H1 H' o hD hi s d p y R k => by
    obtain ⟨e1, e2⟩ := y
    subst e1
    exact k _ (hw x) (SameB.refl _) (turn D i x _ o hD e2 s d p)) q⟩⟩
theorem c_listJ (S : Addr → Prop) (Pv : Addr → Nat → List V → Hp → Prop) (hS : ∀ b, S b → H b ≠ none) (h0 : ∀ D, H D = none → Pv D 0 [] (upd H D (.lst []))) (hz : ∀ D i o H', i < xs.length → Pv D i o H' → o.length < 100000) (hx : ∀ H', SameB S H H' → SqL K H' a xs)
    (hw : ∀ x, wipe ((wipe σ vs).set j (some x)) vs = wipe σ vs)
    (turn : ∀ D i x H' o, H D = none → xs[i]? = some x → SameB S H H' → H' D = some (.lst o) → Pv D i o H' → TurnJ S (Pv D) D i tt te ((wipe σ vs).set j (some x)) H' o)
    (q : ∀ p o H', H p = none → SameB S H H' → Pv p xs.length o H' → H' p = some (.lst o) → Q (.ref p) H')
    {tl : TE} (ht : ∀ R : VK, R (.ref a) H → tl σ H R) : tLc (iSeq K tl) (gName j) tt te vs σ H Q :=
  ht _ ⟨a, rfl, .inl ⟨⟨xs, hx H (SameB.refl H)⟩, c_walkJ S Pv walk_listS hS h0 hz hx (fun D i x H1 H' o hD hi s d p y R k => by
    obtain ⟨e1, e2⟩ := y
    subst e1
    exact k _ (hw x) (SameB.refl _) (turn D i x _ o hD e2 s d p)) q⟩⟩
theorem c_rngJ {ta : TA} {n : Nat} (S : Addr → Prop) (Pv : Addr → Nat → List V → Hp → Prop) (hn : n < 100000) (hS : ∀ b, S b → H b ≠ none) (h0 : ∀ D, H D = none → Pv D 0 [] (upd H D (.lst []))) (hz : ∀ D i o H', i < n → Pv D i o H' → o.length < 100000)
    (hw : ∀ x, wipe ((wipe σ vs).set j (some x)) vs = wipe σ vs)
    (turn : ∀ D (i : Nat) H' o, H D = none → i < n → SameB S H H' → H' D = some (.lst o) → Pv D i o H' → TurnJ S (Pv D) D i tt te ((wipe σ vs).set j (some (.int i))) H' o)
    (q : ∀ p o H', H p = none → SameB S H H' → Pv p n o H' → H' p = some (.lst o) → Q (.ref p) H')
    (ht : ∀ R : List V → Hp → Prop, R [.int n] H → ta σ H R) : tLc (iRng1 ta) (gName j) tt te vs σ H Q :=
  ht _ ⟨n, rfl, by omega, by omega, by
    rw [Int.toNat_natCast]
    exact c_walkJ S Pv (Y := YFn fun i => .int (0 + (i : Int))) (G := fun _ => True) ⟨fun i _ hi _ => hi, fun _ _ => Nat.le_refl _, fun i H x H' _ _ y => y⟩ hS h0 hz (fun _ _ => True.intro) (fun D i x H1 H' o hD hi s d p y R k => by
      obtain ⟨e1, e2⟩ := y
      subst e1 e2
      refine k _ (hw _) (SameB.refl _) ?_
      show TurnJ S (Pv D) D i tt te ((wipe σ vs).set j (some (.int ((0 : Int) + (i : Int))))) H' o
      rw [Int.zero_add]
      exact turn D i _ o hD hi s d p) q⟩
theorem c_enumLJ {ta : TA} (S : Addr → Prop) (Pv : Addr → Nat → List V → Hp → Prop) (hS : ∀ b, S b → H b ≠ none) (h0 : ∀ D, H D = none → Pv D 0 [] (upd H D (.lst []))) (hz : ∀ D i o H', i < xs.length → Pv D i o H' → o.length < 100000) (hx : ∀ H', SameB S H H' → SqL K H' a xs)
    (hw : ∀ x y, wipe (((wipe σ vs).set j (some x)).set j2 (some y)) vs = wipe σ vs)
    (hT : ∀ D k o H' T o', H' T = none → H' D = some (.lst o) → Pv D k o H' → Pv D k o (upd H' T o'))
    (turn : ∀ D k x H' o, H D = none → xs[k]? = some x → SameB S H H' → H' D = some (.lst o) → Pv D k o H' → TurnJ S (Pv D) D k tt te (((wipe σ vs).set j (some (.int (k : Nat)))).set j2 (some x)) H' o)
    (q : ∀ p o H', H p = none → SameB S H H' → Pv p xs.length o H' → H' p = some (.lst o) → Q (.ref p) H')
    (ht : ∀ R : List V → Hp → Prop, R [.ref a] H → ta σ H R) : tLc (iEnumA K ta) (gTup K 2 (gCons (gName j) (gCons (gName j2) gNil))) tt te vs σ H Q :=
  ht _ ⟨a, rfl, .inl ⟨⟨xs, hx H (SameB.refl H)⟩, c_walkJ S Pv walk_enum hS h0 hz hx (fun D k x H1 H' o hD hk s d p y R q' => by
    obtain ⟨T, u, v, e1, e2, e3, e4, e5⟩ := y
    cases e4
    subst e1 e3
    have p' := hT D k o H1 T (.tup [.int (k : Nat), v]) e2 d p
    have s' : SameB S H1 (upd H1 T (.tup [.int (k : Nat), v])) := Same.b (same_new e2)
    have d' : (upd H1 T (.tup [.int (k : Nat), v])) D = some (.lst o) := by rw [upd_ne (ne_of_none d e2)]; exact d
    exact g_pair (SqT.of upd_same) (q' _ (hw _ _) s' (turn D k v _ o hD e5 (s.trans s') d' p'))) q⟩⟩
end
theorem s_notIn {X0 : Cx} {E : XK} {H : Hp} {Q : VK} {l : Addr} {z : Int} {ss : List Int} (h : SqL X0.K H l (ss.map V.int) ∨ SqT X0.K H l (ss.map V.int)) (q : Q (.bl (!decide (z ∈ ss))) H) : ∃ r, OpD X0 E (compareOp .NotIn) r ∧ r (.int z) (.ref l) H Q :=
  ⟨rIn X0.K true, fun X li _ => by rw [← li.K]; exact op_notIn_seq, l, _, rfl, h, rfl, by rw [List.all_map, List.all_eq_true]; exact fun _ _ => rfl, by
    show Q (.bl (!inV (.int z) (ss.map V.int))) H
    rw [inV_int]
    exact q⟩
/-- a test of two parts that are known -/
theorem w_orT {t u : TT} {σ : L2.St} {H : Hp} {QB : Bool → Hp → Prop} {c d : Bool} (h1 : ∀ R : Bool → Hp → Prop, R c H → t σ H R) (h2 : ∀ R : Bool → Hp → Prop, R d H → u σ H R) (q : QB (c || d) H) : tOr t u σ H QB :=
  w_or (h1 _ (by
    cases c with
    | true => exact iteT q
    | false => exact iteF (h2 _ q)))
theorem w_andT {t u : TT} {σ : L2.St} {H : Hp} {QB : Bool → Hp → Prop} {c d : Bool} (h1 : ∀ R : Bool → Hp → Prop, R c H → t σ H R) (h2 : ∀ R : Bool → Hp → Prop, R d H → u σ H R) (q : QB (c && d) H) : tAnd t u σ H QB :=
  w_and (h1 _ (by
    cases c with
    | true => exact iteT (h2 _ q)
    | false => exact iteF q))
end Odd

namespace TM2
open PySem PySem.Spec PyProof.Rows L2
theorem tuple_mul1 (l : Addr) (items : Array Value) (n : Nat) (dd : Option Addr) (sl : Array (Option Value)) (x : Int) (u : Tok) (c0 : (decide (x < -(2 ^ 63)) || decide (x ≥ 2 ^ 63)) = false) (c1 : (items.isEmpty || x == 1) = true) :
    Meets (Builtin.«tuple.__mul__» ⟨[.ref l, .int x u], []⟩) (fun _ R s => s.heap.get? l = some { cls := .type "tuple", dict := dd, data := .seq items n, slots := sl } ∧
      R (.ok (.ret (Value.ref l))) s) :=
  .of_wp fun prog w A R s h => by
    obtain ⟨hp, g, d, tk, os⟩ := s
    obtain ⟨hl, h⟩ := h
    have f1 := AutoSeq1.idx_int
    wp_walk using wpAny_loadPart' hl
    repeat (first
      | (refine wpAny_ite_false (decide_eq_false (by rw [c0]; exact Bool.false_ne_true)) ?_; wp_walk using wpAny_loadPart' hl)
      | (refine wpAny_ite_true (decide_eq_true c1) ?_; wp_walk using wpAny_loadPart' hl))
    exact ⟨_, rfl, h⟩
theorem tuple_mul0 (l : Addr) (items : Array Value) (n : Nat) (dd : Option Addr) (sl : Array (Option Value)) (x : Int) (u : Tok) (c0 : (decide (x < -(2 ^ 63)) || decide (x ≥ 2 ^ 63)) = false) (c1 : (items.isEmpty || x == 1) = false) (c2 : (decide (x ≤ 0) || items.isEmpty) = true) :
    Meets (Builtin.«tuple.__mul__» ⟨[.ref l, .int x u], []⟩) (fun _ R s => s.heap.get? l = some { cls := .type "tuple", dict := dd, data := .seq items n, slots := sl } ∧
      R (.ok (.ret (Value.ref s.heap.objs.size))) { s with heap := s.heap.push { cls := Value.type "tuple", data := Data.seq #[] }, toks := s.toks }) :=
  .of_wp fun prog w A R s h => by
    obtain ⟨hp, g, d, tk, os⟩ := s
    obtain ⟨hl, h⟩ := h
    have f1 := AutoSeq1.idx_int
    wp_walk using wpAny_loadPart' hl
    repeat (first
      | (refine wpAny_ite_false (decide_eq_false (by rw [c0]; exact Bool.false_ne_true)) ?_; wp_walk using wpAny_loadPart' hl)
      | (refine wpAny_ite_false (decide_eq_false (by rw [c1]; exact Bool.false_ne_true)) ?_; wp_walk using wpAny_loadPart' hl)
      | (refine wpAny_ite_true (decide_eq_true c2) ?_; wp_walk using wpAny_loadPart' hl))
    exact ⟨_, rfl, h⟩
end TM2
namespace Odd
open PySem PySem.Spec PyProof.Rows L2
def rRepT1 (K : PySem.W.Frag) : R2 := fun x y H Q => ∃ l k xs, x = .ref l ∧ y = .int k ∧ SqT K H l xs ∧ 0 ≤ k ∧ k ≤ 1000 ∧ (xs = [] ∨ k = 1) ∧ Q (.ref l) H
def rRepT0 (K : PySem.W.Frag) : R2 := fun x y H Q => ∃ l xs, x = .ref l ∧ y = .int 0 ∧ SqT K H l xs ∧ xs ≠ [] ∧ ∀ p, H p = none → Q (.ref p) (upd H p (.tup []))
section
variable {X : Cx}
theorem op_repT1 : OpR X (binaryOp .Mult) (rRepT1 X.K) := by
  intro pins s σ H x y v u Q I rx ry h
  obtain ⟨l, k, xs, rfl, rfl, hT, h1, h2, hor, q⟩ := h
  cases rx
  obtain ⟨t, rfl⟩ := ry
  obtain ⟨its, r, ⟨⟨cls, dd, data, sl⟩, ho, hc, n, hd⟩, hs⟩ := I.tuple hT
  simp only at hc hd
  subst hc hd
  have hle : its.length = xs.length := r.length.symm
  have c0 : (decide (k < -(2 ^ 63)) || decide (k ≥ 2 ^ 63)) = false := by
    rw [decide_eq_false (by omega), decide_eq_false (by omega)] <;> rfl
  have c1 : (its.toArray.isEmpty || k == 1) = true := by
    rcases hor with e | e
    · rw [e] at hle
      rw [List.eq_nil_of_length_eq_zero hle]
      rfl
    · rw [e]
      simp
  exact wpAny_binaryOp_repeat_ref (T := "tuple") (U := "int") (by decide) ⟨_, ho, rfl⟩ (fun s' => typeIs_int s' k t) noFill_tuple_mul F.fills_int_mul F.slot_int_rmul repeat_tuple F.slot_int_index.lookup
    (call_meets F.slot_int_rmul (typeIs_int s k t) F.entry_int_rmul (F.args_int_rmul_2 _ _) (int_rmul_tuple k t l its.toArray n dd sl)
      ⟨ho, rfl, ⟨_, ho, rfl⟩, call_meets F.slot_tuple_mul ⟨_, ho, rfl⟩ F.entry_tuple_mul (F.args_tuple_mul_2 _ _) (TM2.tuple_mul1 l its.toArray n dd sl k t c0 c1) ⟨ho, ⟨.ref l, H, I, rfl, q⟩⟩⟩)
theorem op_repT0 : OpR X (binaryOp .Mult) (rRepT0 X.K) := by
  intro pins s σ H x y v u Q I rx ry h
  obtain ⟨l, xs, rfl, rfl, hT, hne, q⟩ := h
  cases rx
  obtain ⟨t, rfl⟩ := ry
  obtain ⟨its, r, ⟨⟨cls, dd, data, sl⟩, ho, hc, n, hd⟩, hs⟩ := I.tuple hT
  simp only at hc hd
  subst hc hd
  have hle : its.length = xs.length := r.length.symm
  have hn : its ≠ [] := fun e => hne (by
    rw [e] at hle
    exact List.eq_nil_of_length_eq_zero hle.symm)
  have hi : its.toArray.isEmpty = false := by
    cases its with
    | nil => exact absurd rfl hn
    | cons a b => rfl
  have c0 : (decide ((0 : Int) < -(2 ^ 63)) || decide ((0 : Int) ≥ 2 ^ 63)) = false := by decide
  have c1 : (its.toArray.isEmpty || (0 : Int) == 1) = false := by rw [hi]; rfl
  have c2 : (decide ((0 : Int) ≤ 0) || its.toArray.isEmpty) = true := by rw [hi]; rfl
  refine wpAny_binaryOp_repeat_ref (T := "tuple") (U := "int") (by decide) ⟨_, ho, rfl⟩ (fun s' => typeIs_int s' 0 t) noFill_tuple_mul F.fills_int_mul F.slot_int_rmul repeat_tuple F.slot_int_index.lookup
    (call_meets F.slot_int_rmul (typeIs_int s 0 t) F.entry_int_rmul (F.args_int_rmul_2 _ _) (int_rmul_tuple 0 t l its.toArray n dd sl)
      ⟨ho, rfl, ⟨_, ho, rfl⟩, call_meets F.slot_tuple_mul ⟨_, ho, rfl⟩ F.entry_tuple_mul (F.args_tuple_mul_2 _ _) (TM2.tuple_mul0 l its.toArray n dd sl 0 t c0 c1 c2) ⟨ho, ?_⟩⟩)
  refine ⟨.ref s.heap.objs.size, _, I.laid (t' := s.toks) (o := .tup []) (fun b ob q => Heap.get?_push_of_some _ q) (Nat.le_refl _) ?_, rfl, q _ (I.hok.fresh (Nat.le_refl _))⟩
  exact ⟨Nat.zero_le _, [], .nil, IsTup.new _ _⟩
variable {X0 : Cx} {E : XK} {H : Hp} {Q : VK} {l : Addr} {xs : List V}
/-- a tuple so many times: its items, wherever they stand then -/
theorem s_repT {k : Nat} (h : SqT X0.K H l xs) (hk : k ≤ 1000) (hz : xs.length ≤ 1000) (q : ∀ p H', Same H H' → SqT X0.K H' p (List.replicate k xs).flatten → Q (.ref p) H') : ∃ r, OpD X0 E (binaryOp .Mult) r ∧ r (.ref l) (.int k) H Q := by
  by_cases h1 : xs = [] ∨ k = 1
  · refine ⟨rRepT1 X0.K, fun X li _ => by rw [← li.K]; exact op_repT1, l, k, xs, rfl, rfl, h, by omega, by omega, by rcases h1 with z | z; exact .inl z; exact .inr (by omega), q l H (Same.refl _) ?_⟩
    rcases h1 with z | z
    · subst z
      rw [show (List.replicate k ([] : List V)).flatten = [] by simp]
      exact h
    · subst z
      rw [show (List.replicate 1 xs).flatten = xs by simp]
      exact h
  · by_cases h0 : k = 0
    · subst h0
      exact ⟨rRepT0 X0.K, fun X li _ => by rw [← li.K]; exact op_repT0, l, xs, rfl, rfl, h, fun z => h1 (.inl z), fun p hp => q p _ (same_new hp) (SqT.of upd_same)⟩
    · refine ⟨rRepT X0.K, fun X li _ => by rw [← li.K]; exact op_repT, l, k, xs, rfl, rfl, h, fun z => h1 (.inl z), by omega, by omega, hz, fun p hp => ?_⟩
      rw [Int.toNat_natCast]
      exact q p _ (same_new hp) (SqT.of upd_same)
end
end Odd

namespace Odd
open PySem PySem.Spec PyProof.Rows L2
/-! ### the least and the greatest by a def's answer -/
section
variable {prog : Program} {w : World} {A : Around}
theorem walkS_list (hh : A.handled = none) (I a : Addr) (hne : a ≠ I) (xs : List V) : WalksS prog w A I [I, a] [I] (fun x y => y = x) xs.length (fun i v => ∃ x, xs[i]? = some x ∧ RelV x v)
    (fun i s => s.heap.IsListIter I a i ∧ ∃ its, Vals xs its ∧ s.heap.IsList a its.toArray) where
  sub := fun b hb => by rw [List.mem_singleton.1 hb]; exact List.mem_cons_self ..
  grefl := fun _ => rfl
  gtrans := fun _ _ _ h1 h2 => h2.trans h1
  frame := fun i s h' tk st _ hk => by
    obtain ⟨it, its, rl, il⟩ := st
    exact ⟨it.at fun o e => hk I (by simp) o e, its, rl, il.at fun o e => hk a (by simp) o e⟩
  item := fun i s Q E hi st hQ => by
    obtain ⟨it, its, rl, il⟩ := st
    have hl := rl.length
    refine (Walks.list (prog := prog) (w := w) hh I a hne its.toArray).toS.item i s Q E (by rw [List.size_toArray]; omega) ⟨it, il⟩ fun v s' hP st' mv => ?_
    obtain ⟨x, hx⟩ : ∃ x, xs[i]? = some x := ⟨_, List.getElem?_eq_getElem hi⟩
    obtain ⟨u, hu, ru⟩ := rl.get hx
    have hv : its.toArray[i]? = some v := hP
    rw [List.getElem?_toArray, hu] at hv
    cases hv
    exact hQ _ s' ⟨x, hx, ru⟩ ⟨st'.1, its, rl, st'.2⟩ mv
  done := fun s Q E st hQ => by
    obtain ⟨it, its, rl, il⟩ := st
    have hl := rl.length
    exact (Walks.list (prog := prog) (w := w) hh I a hne its.toArray).toS.done s Q E ⟨by rw [List.size_toArray, ← hl]; exact it, il⟩ hQ
  self := fun i s Q E st hQ => wpAny_pyIter_listiter st.1 hQ
end
section
variable {prog : Program} {w : World} {A : Around} {E : Value → Shared → Prop} {s : Shared}
theorem list_walk {l : Addr} {items : Array Value} {R : Value → Shared → Prop} (hl : s.heap.IsList l items) (h : ∀ s₂ : Shared, s₂ = { s with heap := s₂.heap } → (∀ b o, s.heap.get? b = some o → s₂.heap.get? b = some o) → s₂.heap.IsListIter s.heap.objs.size l 0 → s₂.heap.IsList l items →
    s₂.heap.objs.size = s.heap.objs.size + 1 → R (.ref s.heap.objs.size) s₂) : wpAny (model prog w) A (pyIter (.ref l)) R E s :=
  wpAny_pyIter_list hl (h _ rfl (fun b o e => Heap.get?_push_of_some _ e) ⟨_, Heap.get?_push_size _ rfl, rfl, rfl⟩ (hl.at fun o e => Heap.get?_push_of_some _ e) (Heap.size_push ..))
end
/-- f(xs, key=g), the first item whose answer is best -/
def rKeyF (K : PySem.W.Frag) (g : Addr) (sp : Sp) (lt : Int → Int → Bool) : List V → List V → Hp → VK → Prop := fun vs zs H Q => ∃ (a : Addr) (xs : List V) (kf : Nat → Int), vs = [.ref a] ∧ zs = [.ref g] ∧ SqL K H a xs ∧ 0 < xs.length ∧
  (∀ i x H', xs[i]? = some x → Same H H' → sp [x] H' (fun v H2 => v = .int (kf i) ∧ Same H' H2) E0) ∧ ∀ x H', xs[argBest (fun i j => lt (kf i) (kf j)) (xs.length - 1)]? = some x → Same H H' → Q x H'
section
variable {X : Cx} {n : Nat} {g : Addr} {sp : Sp}
theorem key_run {lt : Int → Int → Bool} {op : CmpOp} {pins : List (Addr × Obj)} {σ : L2.St} {H : Hp} {s : Shared} {a : Addr} {xs : List V} {kf : Nat → Int} {Q : VK} (F : FnR X.prog X.w X.K X.mg X.base (L2.CX X.prog X.w) n g sp) (hr : Room (n + 1) X.A) (hc : X.calm = true)
    (hcmp : CmpOf X.prog X.w X.A.in1 op (fun i v => ∃ t, v = .int (kf i) t) (fun i j => lt (kf i) (kf j))) (I : Inv X pins σ H s) (hq : SqL X.K H a xs) (hne : 0 < xs.length)
    (hkey : ∀ i x H', xs[i]? = some x → Same H H' → sp [x] H' (fun v H2 => v = .int (kf i) ∧ Same H' H2) E0) (q : ∀ x H', xs[argBest (fun i j => lt (kf i) (kf j)) (xs.length - 1)]? = some x → Same H H' → Q x H') :
    wpAny (model X.prog X.w) X.A.in1 (pyIter (.ref a)) (fun it s₂ => ∃ I fp wr G m P St J V bt, it = .ref I ∧ WalksS X.prog X.w X.A.in1 I fp wr G m P St ∧ St 0 s₂ ∧ (∀ b ∈ fp, b < s₂.heap.objs.size) ∧ 0 < m ∧
      KeyRun X.prog X.w X.A.in1 (.ref g) op s₂.heap.objs.size wr G m P St J V bt ∧ J s₂ ∧ ∀ v s', P (argBest bt (m - 1)) v → J s' → EP X pins σ Q v s') X.xe s := by
  obtain ⟨its, rl, p, hz⟩ := I.list hq
  refine list_walk p.isList fun s₂ e2 k2 it2 il2 sz2 => ?_
  have hlt : a < s.heap.objs.size := by
    obtain ⟨o, ho, _⟩ := p.isList
    exact Heap.lt_size ho
  have I2 : L2.Inv X pins σ H s₂ := by
    rw [e2]
    exact I.kept (t' := s.toks) k2
  have nI0 : H s.heap.objs.size = none := I.hok.fresh (Nat.le_refl _)
  have nS0 : H s₂.heap.objs.size = none := I2.hok.fresh (Nat.le_refl _)
  have fI : FpOk X pins H s.heap.objs.size := I.fpOk (Nat.le_refl _) nI0
  have fS : FpOk X pins H s₂.heap.objs.size := I2.fpOk (Nat.le_refl _) nS0
  have nfr : ∀ {H' : Hp} {s' : Shared} {b : Addr}, L2.Inv X pins σ H' s' → FpOk X pins H b → b ∉ frs X.stack := fun I' f z => by
    rcases List.mem_cons.mp (I'.stkSub _ z) with y | y
    · exact f.2.1 y
    · exact f.2.2.1 y
  refine ⟨s.heap.objs.size, [s.heap.objs.size, a], [s.heap.objs.size], _, xs.length, _, _, fun s' => ∃ H', Same H H' ∧ L2.Inv X pins σ H' s' ∧ H' s.heap.objs.size = none ∧ H' s₂.heap.objs.size = none, fun i v _ => ∃ t, v = .int (kf i) t, fun i j => lt (kf i) (kf j), rfl, walkS_list (A := X.A.in1) (I.ok.hd hc) _ a (Nat.ne_of_lt hlt) xs, ?st, fun b hb => ?_, hne, ⟨?keep, fun _ _ _ _ h _ => h, ?turn, ?cmp⟩, ⟨H, Same.refl _, I2, nI0, nS0⟩, ?fin⟩
  case st => exact ⟨it2, its, rl, il2⟩
  · rw [sz2]
    simp only [List.mem_cons, List.not_mem_nil, or_false] at hb
    rcases hb with rfl | rfl
    · exact Nat.lt_succ_self _
    · exact Nat.lt_succ_of_lt hlt
  case keep =>
    rintro s3 s4 ⟨H', s0, I3, n1, n2⟩ mv
    refine ⟨H', s0, ?_, n1, n2⟩
    obtain ⟨hp4, g4, d4, t4, o4⟩ := s4
    obtain rfl : g4 = s3.gens := mv.gens
    obtain rfl : d4 = s3.drawn := mv.drawn
    obtain rfl : o4 = s3.os := mv.os
    refine I3.turnedL (ch := [s₂.heap.objs.size, s.heap.objs.size]) (fun b o hb e => mv.heap b o hb e) fun b hb => ?_
    simp only [List.mem_cons, List.not_mem_nil, or_false] at hb
    rcases hb with rfl | rfl
    · exact ⟨n2, fS.2⟩
    · exact ⟨n1, fI.2⟩
  case turn =>
    rintro i v s3 o Q3 E3 hi ⟨x, hx, rx⟩ ⟨H', s0, I3, n1, n2⟩ ⟨it3, its3, rl3, il3⟩ hS k
    refine wpAny_call (codeAny_mono (F X.A.in1 X.stack s3 H' [v] [x] _ E0 hr.in1 I3.env0.in1 (.cons rx .nil) (hkey i x H' hx s0)) fun r s' hq3 => ?_)
    cases r with
    | error er =>
      obtain ⟨_, _, _, _, _, _, _, _, _, _, _, _, z⟩ := hq3
      exact z.elim
    | ok fl =>
      cases fl with
      | ret u =>
        obtain ⟨y, H4, os, bare, un, hok, ry, rfl, s5⟩ := hq3
        obtain ⟨oI, eI, cI, dI⟩ := id it3
        have eI4 := un.keep _ oI eI n1 (nfr I3 fI) (by simp)
        have eS4 := un.keep _ o hS n2 (nfr I3 fS) (by simp)
        have m1 := un.free _ oI eI n1 (by simp)
        have m2 := un.free _ o hS n2 (by simp)
        obtain ⟨hp4, g4, d4, t4, o4⟩ := s'
        obtain rfl : o4 = s3.os := os
        have I4 : L2.Inv X pins σ H4 { s3 with heap := hp4, gens := g4, drawn := d4, toks := t4 } := I3.call (h' := hp4) (g' := g4) (d' := d4) (t' := t4) (ch := []) un hok bare (fun b z => absurd z (by simp))
        obtain ⟨its4, rl4, p4, _⟩ := I4.list ((s0.trans s5).seq hq)
        exact k u _ ⟨H4, s0.trans s5, I4, m1, m2⟩ ⟨⟨oI, eI4, cI, dI⟩, its4, rl4, p4.isList⟩ eS4 ry fun _ _ h => h
      | next => exact False.elim hq3
      | brk => exact False.elim hq3
      | cont => exact False.elim hq3
  case cmp =>
    intro i j ki kj s3 Q3 E3 _ h1 h2 hq3
    exact hcmp i j ki kj s3 Q3 E3 h1 h2 hq3
  case fin =>
    rintro v s3 ⟨x, hx, rx⟩ ⟨H', s0, I3, _, _⟩
    exact ⟨x, H', I3, rx, q x H' hx s0⟩
theorem call_minF (F : FnR X.prog X.w X.K X.mg X.base (L2.CX X.prog X.w) n g sp) (hr : Room (n + 1) X.A) (hc : X.calm = true) : CallRK X (.builtin "min") [Str.ofString "key"] (rKeyF X.K g sp fun a b => decide (a < b)) := by
  intro pins s σ H vs zs us ws Q I rv rz h
  obtain ⟨a, xs, kf, rfl, rfl, hq, hne, hkey, q⟩ := h
  obtain rfl := Vals.ref1 rv
  obtain rfl := Vals.ref1 rz
  exact call_min_walkK (key_run (lt := fun a b => decide (a < b)) F hr hc (CmpOf.ints_lt kf fun _ _ h => h) I hq hne hkey q)
theorem call_maxF (F : FnR X.prog X.w X.K X.mg X.base (L2.CX X.prog X.w) n g sp) (hr : Room (n + 1) X.A) (hc : X.calm = true) : CallRK X (.builtin "max") [Str.ofString "key"] (rKeyF X.K g sp fun a b => decide (a > b)) := by
  intro pins s σ H vs zs us ws Q I rv rz h
  obtain ⟨a, xs, kf, rfl, rfl, hq, hne, hkey, q⟩ := h
  obtain rfl := Vals.ref1 rv
  obtain rfl := Vals.ref1 rz
  exact call_max_walkK (key_run (lt := fun a b => decide (a > b)) F hr hc (CmpOf.ints_gt kf fun _ _ h => h) I hq hne hkey q)
end
/-! .. with the choice left to the reading -/
def CkD (X0 : Cx) (E : XK) (ks : List Str) (u : Value) (r : List V → List V → Hp → VK → Prop) : Prop := ∀ X, Like X0 X → Pas X E → CallRK X u ks r
def tKwA (X0 : Cx) (E : XK) (x : Str) (ks : List Str) (u : Value) (t tk : TA) : TE := fun σ H Q => X0.mg x = none ∧ t σ H fun vs H1 => tk σ H1 fun zs H2 => ∃ r, CkD X0 E ks u r ∧ r vs zs H2 Q
section
variable {X0 X : Cx} {E : XK} {x : Str} {p pos : Pos} {e : Expr} {es : List Expr} {kws : List Keyword} {t tk : TA} {id : String} {ks : List Str}
theorem pe_kwA (l : Like X0 X) (h : Pas X E) (hg : Gl X x) (hv : bootBuiltins x = some (.builtin id)) (ha : PA X (e :: es) t) (hk : PK X kws tk) (hn : x ≠ "__name__" := by decide) (hdb : (x == ("__debug__" : Str)) = false := by decide)
    (he : backTo pos (starEach (e :: es) X.env) = (false, eval e X.env) :: backTo pos (starEach es X.env) := by rfl) (hpl : (backTo pos (starEach (e :: es) X.env)).any (·.1) = false := by rfl)
    (hall : (backToKw pos (keywordEach kws X.env)).all (·.1.isSome) = true := by rfl) (hnone : (backToKw pos (keywordEach kws X.env)).any (·.1.isNone) = false := by rfl) (hks : (backToKw pos (keywordEach kws X.env)).filterMap (·.1) = ks := by rfl) :
    PE X (.Call (.Name x p) (e :: es) kws pos) (tKwA X0 E x ks (.builtin id) t tk) := by
  refine ⟨fun pins s σ H Q I ⟨hm, q⟩ => ?_⟩
  rw [← l.mg] at hm
  refine wpAny_Call_Name_kw (ld_blt I hg hm hv ?_ hn hdb)
  refine callWith_kw (thn (ha.run pos pins s σ H _ I q) fun us s1 ⟨vs, H1, I1, r1, q1⟩ => thn (hk.run pos pins s1 σ H1 _ I1 q1) fun ws s2 ⟨zs, H2, I2, r2, r, hr, q2⟩ => ?_) he hpl hall hnone
  rw [hks]
  exact hr X l h pins s2 σ H2 vs zs us ws Q I2 r1 r2 q2
variable {σ : L2.St} {H : Hp} {Q : VK} {u : Value}
theorem w_kw (hm : X0.mg x = none) (h : t σ H fun vs H1 => tk σ H1 fun zs H2 => ∃ r, CkD X0 E ks u r ∧ r vs zs H2 Q) : tKwA X0 E x ks u t tk σ H Q := ⟨hm, h⟩
theorem s_minF {k : Nat} {g a : Addr} {sp : Sp} {xs : List V} (kf : Nat → Int) (F : Fn X0 k g sp) (hr : Room (k + 1) X0.A) (hc : X0.calm = true) (hq : SqL X0.K H a xs) (hne : 0 < xs.length) (hkey : ∀ i x H', xs[i]? = some x → Same H H' → sp [x] H' (fun v H2 => v = .int (kf i) ∧ Same H' H2) E0)
    (q : ∀ x H', xs[argBest (fun i j => decide (kf i < kf j)) (xs.length - 1)]? = some x → Same H H' → Q x H') : ∃ r, CkD X0 E [Str.ofString "key"] (.builtin "min") r ∧ r [.ref a] [.ref g] H Q :=
  ⟨rKeyF X0.K g sp fun a b => decide (a < b), fun X l _ => by rw [← l.K]; exact call_minF (l.fn F) (l.room hr) (by rw [l.calm]; exact hc), a, xs, kf, rfl, rfl, hq, hne, hkey, q⟩
theorem s_maxF {k : Nat} {g a : Addr} {sp : Sp} {xs : List V} (kf : Nat → Int) (F : Fn X0 k g sp) (hr : Room (k + 1) X0.A) (hc : X0.calm = true) (hq : SqL X0.K H a xs) (hne : 0 < xs.length) (hkey : ∀ i x H', xs[i]? = some x → Same H H' → sp [x] H' (fun v H2 => v = .int (kf i) ∧ Same H' H2) E0)
    (q : ∀ x H', xs[argBest (fun i j => decide (kf i > kf j)) (xs.length - 1)]? = some x → Same H H' → Q x H') : ∃ r, CkD X0 E [Str.ofString "key"] (.builtin "max") r ∧ r [.ref a] [.ref g] H Q :=
  ⟨rKeyF X0.K g sp fun a b => decide (a > b), fun X l _ => by rw [← l.K]; exact call_maxF (l.fn F) (l.room hr) (by rw [l.calm]; exact hc), a, xs, kf, rfl, rfl, hq, hne, hkey, q⟩
end
end Odd

namespace Odd
open PySem PySem.Spec PyProof.Rows L2
/-! ### a comprehension of two clauses: the items of a list that each item gives -/
section
variable {K : PySem.W.Frag} {a : Addr} {xs : List V} {σ : L2.St} {H : Hp} {Q : VK} {tl te : TE} {wi1 : TI} {vs vs1 : List Nat} {j j1 : Nat}
theorem w_yes {A B : Hp → Prop} {τ : L2.St} {H1 : Hp} (h : A H1) : tYes τ H1 (fun b H3 => if b = true then A H3 else B H3) := by
  show (if true = true then A H1 else B H1)
  rw [if_pos rfl]
  exact h
theorem c_lc2 (Pv : Addr → Nat → List V → Hp → Prop) (h0 : ∀ D, H D = none → Pv D 0 [] (upd H D (.lst []))) (hx : SqL K H a xs) (hz : ∀ D i o H', Pv D i o H' → o.length < 1000000)
    (hw : ∀ x, wipe ((wipe σ vs).set j (some x)) vs = wipe σ vs) (hw1 : ∀ x0 x, wipe ((wipe ((wipe σ vs).set j (some x0)) vs1).set j1 (some x)) vs1 = wipe ((wipe σ vs).set j (some x0)) vs1)
    (hte : ∀ x0 x (R : VK) H', R x H' → te ((wipe ((wipe σ vs).set j (some x0)) vs1).set j1 (some x)) H' R)
    (turn : ∀ D i x H' o, H D = none → xs[i]? = some x → Same H H' → H' D = some (.lst o) → Pv D i o H' → ∀ R : It → Hp → Prop, (∀ b ys H4, Same H' H4 → H' b = none → H4 b = some (.lst ys) → Pv D (i + 1) (o ++ ys) (upd H4 D (.lst (o ++ ys))) → R (Itl K b) H4) → wi1 ((wipe σ vs).set j (some x)) H' R)
    (q : ∀ p o H', H p = none → Same H H' → Pv p xs.length o H' → H' p = some (.lst o) → Q (.ref p) H')
    (ht : ∀ R : VK, R (.ref a) H → tl σ H R) : tLc2 (iSeq K tl) (gName j) tYes wi1 (gName j1) tYes te vs vs1 σ H Q :=
  ht _ ⟨a, rfl, .inl ⟨⟨xs, hx⟩, fun D hD => ⟨fun i m H1 => m = xs.length - i ∧ i ≤ xs.length ∧ ∃ o, Same H H1 ∧ H1 D = some (.lst o) ∧ Pv D i o H1, ⟨xs.length, rfl, Nat.zero_le _, [], same_new hD, upd_same, h0 D hD⟩, fun i m H1 w => by
    obtain ⟨rfl, hi, o, s1, d1, p1⟩ := w
    by_cases hlt : i < xs.length
    · refine .inr ⟨⟨xs, xs[i], s1.seq hx, by simp [hlt]⟩, fun H' => i + 1 ≤ xs.length ∧ ∃ o, Same H H' ∧ H' D = some (.lst o) ∧ Pv D (i + 1) o H', fun H' h => ⟨xs.length - (i + 1), by omega, rfl, h.1, h.2⟩, fun x H' y => ?_⟩
      obtain ⟨e1, e2⟩ := y
      subst e1
      refine ⟨hw x, ?_⟩
      refine w_yes ?_
      refine turn D i x _ o hD (e2 xs (s1.seq hx)) s1 d1 p1 _ fun b ys H4 s4 nb hb p4 => ?_
      have hbD : b ≠ D := fun z => by rw [z, d1] at nb; cases nb
      have d4 := s4 _ _ d1
      have hz4 := hz D (i + 1) _ _ p4
      rw [List.length_append] at hz4
      refine ⟨fun jj k H5 => k = ys.length - jj ∧ jj ≤ ys.length ∧ (∀ c, c ≠ D → H5 c = H4 c) ∧ H5 D = some (.lst (o ++ ys.take jj)), ⟨ys.length, rfl, Nat.zero_le _, fun _ _ => rfl, by rw [List.take_zero, List.append_nil]; exact d4⟩, fun jj k H5 w1 => ?_⟩
      obtain ⟨rfl, hj, k5, d5⟩ := w1
      have hb5 : SqL K H5 b ys := SqL.of (by rw [k5 b hbD]; exact hb)
      by_cases hjl : jj < ys.length
      · refine .inr ⟨⟨ys, ys[jj], hb5, by simp [hjl]⟩, fun H6 => jj + 1 ≤ ys.length ∧ (∀ c, c ≠ D → H6 c = H4 c) ∧ H6 D = some (.lst (o ++ ys.take (jj + 1))), fun H6 h => ⟨ys.length - (jj + 1), by omega, rfl, h.1, h.2⟩, fun x5 H6 y5 => ?_⟩
        obtain ⟨e3, e4⟩ := y5
        subst e3
        have hx5 := e4 ys hb5
        refine ⟨hw1 x x5, ?_⟩
        refine w_yes ?_
        refine hte x x5 _ _ ?_
        refine ⟨o ++ ys.take jj, d5, ?_, hjl, fun c hc => by rw [upd_ne hc]; exact k5 c hc, ?_⟩
        · rw [List.length_append, List.length_take]
          exact Nat.lt_of_lt_of_le (show o.length + min jj ys.length < 1000000 by omega) (by decide)
        · rw [upd_same, List.take_add_one, hx5, ← List.append_assoc]
          rfl
      · obtain rfl : jj = ys.length := by omega
        rw [List.take_of_length_le (Nat.le_refl _)] at d5
        have eH : H5 = upd H4 D (.lst (o ++ ys)) := by
          funext c
          by_cases hc : c = D
          · subst hc
            rw [d5, upd_same]
          · rw [k5 c hc, upd_ne hc]
        refine .inl ⟨⟨ys, hb5, Nat.le_refl _⟩, hlt, o ++ ys, ?_, d5, by rw [eH]; exact p4⟩
        rw [eH]
        exact same_mut (s1.trans s4) hD
    · obtain rfl : i = xs.length := by omega
      exact .inl ⟨⟨xs, s1.seq hx, Nat.le_refl _⟩, q D o H1 hD s1 p1 d1⟩⟩⟩⟩
end
/-! ### the first best -/
theorem argBest_le (bt : Nat → Nat → Bool) : ∀ k, argBest bt k ≤ k
  | 0 => Nat.le_refl _
  | k + 1 => by
    show (if bt (k + 1) (argBest bt k) then k + 1 else argBest bt k) ≤ k + 1
    split
    · exact Nat.le_refl _
    · exact Nat.le_succ_of_le (argBest_le bt k)
theorem argBest_congr {bt bt' : Nat → Nat → Bool} : ∀ k, (∀ i j, i ≤ k → j ≤ k → bt i j = bt' i j) → argBest bt k = argBest bt' k
  | 0, _ => rfl
  | k + 1, h => by
    have e := argBest_congr k fun i j hi hj => h i j (by omega) (by omega)
    show (if bt (k + 1) (argBest bt k) then k + 1 else argBest bt k) = (if bt' (k + 1) (argBest bt' k) then k + 1 else argBest bt' k)
    rw [← e, h (k + 1) (argBest bt k) (Nat.le_refl _) (Nat.le_succ_of_le (argBest_le bt k))]
/-- the first of the least -/
theorem argBest_min (f : Nat → Int) : ∀ k, (∀ i, i ≤ k → f (argBest (fun i j => decide (f i < f j)) k) ≤ f i) ∧ ∀ i, i < argBest (fun i j => decide (f i < f j)) k → f (argBest (fun i j => decide (f i < f j)) k) < f i
  | 0 => ⟨fun i h => by rw [Nat.le_zero.1 h]; exact Int.le_refl _, fun i h => absurd h (Nat.not_lt_zero _)⟩
  | k + 1 => by
    obtain ⟨h1, h2⟩ := argBest_min f k
    show (∀ i, i ≤ k + 1 → f (if decide (f (k + 1) < f (argBest (fun i j => decide (f i < f j)) k)) = true then k + 1 else argBest (fun i j => decide (f i < f j)) k) ≤ f i) ∧ _
    by_cases h : f (k + 1) < f (argBest (fun i j => decide (f i < f j)) k)
    · have e : argBest (fun i j => decide (f i < f j)) (k + 1) = k + 1 := by
        show (if _ then _ else _) = _
        rw [if_pos (decide_eq_true h)]
      rw [if_pos (decide_eq_true h), e]
      refine ⟨fun i hi => ?_, fun i hi => ?_⟩
      · rcases Nat.lt_or_ge i (k + 1) with z | z
        · have := h1 i (by omega); omega
        · rw [show i = k + 1 by omega]; exact Int.le_refl _
      · have := h1 i (by omega)
        omega
    · have e : argBest (fun i j => decide (f i < f j)) (k + 1) = argBest (fun i j => decide (f i < f j)) k := by
        show (if _ then _ else _) = _
        rw [if_neg (by simpa using h)]
      rw [if_neg (by simpa using h), e]
      refine ⟨fun i hi => ?_, h2⟩
      rcases Nat.lt_or_ge i (k + 1) with z | z
      · exact h1 i (by omega)
      · rw [show i = k + 1 by omega]; omega
end Odd

namespace Odd
open PySem PySem.Spec PyProof.Rows L2
/-! ### a try with several statements: what runs within it -/
section
variable {X0 X : Cx}
theorem likeT {pn : List (Addr × Obj)} {xe : Value → Shared → Prop} : Like X (X.tr pn xe) := ⟨rfl, rfl, rfl, rfl, rfl, rfl, rfl⟩
theorem likeS {b : Addr} {pn : List (Addr × Obj)} : Like (X.suite b []) (X.suite b pn) := ⟨rfl, rfl, rfl, rfl, rfl, rfl, rfl⟩
theorem pas0 : Pas X (fun _ _ _ => False) := fun _ _ _ _ _ _ _ ⟨_, _, _, _, _, _, _, _, _, _, _, _, z⟩ => z.elim
/-- o.m(e, ..) within a try: what it raises goes to the handlers -/
def tMeT (X0 : Cx) (W : WX) (m : Str) (ta : TE) (t : TA) : TE := fun σ H Q => ta σ H fun x H1 => ∃ a C dx fs g k sp, x = .ref a ∧ H1 a = some (.ins C dx fs) ∧ Cls X0.K C ∧ Meth X0.K C m g ∧ PySem.W.keepIn X0.K (.ref g) = true ∧ fs.lookup m = none ∧
  Fn X0 k g sp ∧ Room k X0.A ∧ t σ H1 fun vs H2 => ∃ Ef : XK, (∀ cls d H', Ef cls d H' → W cls d σ H') ∧ sp (x :: vs) H2 Q Ef
theorem pe_meT {W : WX} {o e : Expr} {es : List Expr} {ta : TE} {t : TA} {m : Str} {pos apos : Pos} {pl : Sem Bool} (l : Like X0 X) (tk : L2.Takes X W) (he : PE X o ta) (ha : PA X (e :: es) t)
    (hst : starEach (e :: es) X.env = (false, eval e X.env) :: starEach es X.env := by rfl) (hpl : (backTo pos (starEach es X.env)).any (·.1) = false := by rfl)
    (ht : eval (.Call (.Attribute o m apos) (e :: es) [] pos) X.env = (do
      let ov ← eval o X.env
      standAt apos.atName
      let (f, first) ← holding [ov] (getMethod ov m pl)
      callWith pos f first (backTo pos (starEach (e :: es) X.env)) (backToKw pos (keywordEach [] X.env))) := by rfl) :
    PE X (.Call (.Attribute o m apos) (e :: es) [] pos) (tMeT X0 W m ta t) := by
  refine ⟨fun pins s σ H Q I hq => ?_⟩
  refine PySem.W.methodCall_KW (pl := pl) (thn (he.run pins s σ H _ I hq) fun u s1 ⟨x, H1, I1, rx, a, C, dx, fs, g, k, sp, ex, ea, c, hm, hk, lk, F, hr, q⟩ => ?_) ht
  subst ex
  obtain rfl : u = Value.ref a := rx
  rw [← l.K] at c hm hk
  refine getmeth_ok I1 ea c hm lk ?_
  refine PySem.W.callWith_K (first := [.ref a]) (h₀ := X.base) I.ok.mod.kin hm.kp (thn (ha.run pos pins s1 σ H1 _ I1 q) fun us s2 ⟨vs, H2, I2, r, Ef, hW, q2⟩ => ⟨I2.kIn, ?_⟩) hst hpl
  refine wpAny_call (codeAny_mono ((l.fn F) X.A X.stack s2 H2 (.ref a :: us) (.ref a :: vs) Q Ef (l.room hr) I2.env0 (.cons rfl r) q2) fun r s' hq => ?_)
  cases r with
  | error e => exact tk _ _ (L2.XE.of_call I2 hW hq)
  | ok fl =>
    cases fl with
    | ret u => exact I2.after hq
    | next => exact False.elim hq
    | brk => exact False.elim hq
    | cont => exact False.elim hq
theorem w_meT {W : WX} {m : Str} {ta : TE} {t : TA} {σ : L2.St} {H : Hp} {Q : VK} (h : ta σ H fun x H1 => ∃ a C dx fs g k sp, x = .ref a ∧ H1 a = some (.ins C dx fs) ∧ Cls X0.K C ∧ Meth X0.K C m g ∧ PySem.W.keepIn X0.K (.ref g) = true ∧ fs.lookup m = none ∧
  Fn X0 k g sp ∧ Room k X0.A ∧ t σ H1 fun vs H2 => ∃ Ef : XK, (∀ cls d H', Ef cls d H' → W cls d σ H') ∧ sp (x :: vs) H2 Q Ef) : tMeT X0 W m ta t σ H Q := h
end
end Odd

namespace Odd
open PySem PySem.Spec PyProof.Rows L2 SeqAt
/-! ### lists compared, sorted, and a place put in -/
def ltI (ns ms : List Int) : Bool := firstLt (fun j => decide (ns.getD j 0 = ms.getD j 0)) (fun j => decide (ns.getD j 0 < ms.getD j 0)) (decide (ns.length < ms.length)) (List.range (min ns.length ms.length))
def rLtL (K : PySem.W.Frag) : R2 := fun x y H Q => ∃ (a b : Addr) (ns ms : List Int), x = .ref a ∧ y = .ref b ∧ SqL K H a (ns.map V.int) ∧ SqL K H b (ms.map V.int) ∧ Q (.bl (ltI ns ms)) H
/-- the items of a row of ints -/
theorem row_at {us : List Value} {ns : List Int} (h : IntsAre us ns) : ∀ i (hi : i < us.toArray.size), ∃ t, us.toArray[i] = Value.int (ns.getD i 0) t := by
  induction h with
  | nil => exact fun i hi => absurd hi (Nat.not_lt_zero _)
  | cons c t _ ih =>
    intro i hi
    cases i with
    | zero => exact ⟨t, rfl⟩
    | succ i =>
      obtain ⟨t', e⟩ := ih i (by simpa using hi)
      exact ⟨t', by simpa using e⟩
theorem op_ltL {X : Cx} (hu : X.A.units < cLine) : OpR X (compareOp .Lt) (rLtL X.K) := by
  rintro pins sh τ G left right lv rv Z I rl rr ⟨p, p', ks, ls, rfl, rfl, hp, hp', goal⟩
  obtain rfl : lv = Value.ref p := rl
  obtain rfl : rv = Value.ref p' := rr
  obtain ⟨us, vu, pu, -⟩ := I.list hp
  obtain ⟨ws, vw, pw, -⟩ := I.list hp'
  have iu := row_at vu.ints
  have iw := row_at vw.ints
  have lu : us.toArray.size = ks.length := by simpa using vu.ints.length
  have lw : ws.toArray.size = ls.length := by simpa using vw.ints.length
  have low := RcLt.lists (A := X.A) (s := sh) (e := fun i => decide (ks.getD i 0 = ls.getD i 0)) (r := fun i => decide (ks.getD i 0 < ls.getD i 0)) pu.isList pw.isList hu
    (fun i h h' => by
      obtain ⟨t, et⟩ := iu i h
      obtain ⟨t', et'⟩ := iw i h'
      rw [et, et']
      exact EqAt.int_int (ks.getD i 0) t (ls.getD i 0) t')
    (fun i h h' _ => by
      obtain ⟨t, et⟩ := iu i h
      obtain ⟨t', et'⟩ := iw i h'
      rw [et, et']
      exact fun _ _ _ _ k => lt_int k)
  rw [lu, lw] at low
  exact low X.prog X.w X.xe (EP X pins τ Z) ⟨V.bl (ltI ks ls), G, I, rfl, goal⟩
section
variable {X0 : Cx} {E : XK} {H : Hp} {Q : VK}
theorem s_ltL {a b : Addr} {ns ms : List Int} (hu : X0.A.units + 64 < cLine) (ha : SqL X0.K H a (ns.map V.int)) (hb : SqL X0.K H b (ms.map V.int)) (q : Q (.bl (ltI ns ms)) H) : ∃ r, OpD X0 E (compareOp .Lt) r ∧ r (.ref a) (.ref b) H Q :=
  ⟨rLtL X0.K, fun X l _ => by rw [← l.K]; exact op_ltL (by rw [l.A]; omega), a, b, ns, ms, rfl, rfl, ha, hb, q⟩
theorem s_sortI {a : Addr} {ns : List Int} (ha : SqL X0.K H a (ns.map V.int)) (q : ∀ (ns' : List Int) (p : Addr), ns'.Perm ns → ns'.Pairwise (· ≤ ·) → H p = none → Q (.ref p) (upd H p (.lst (ns'.map V.int)))) : ∃ r, CaD X0 E (.builtin "sorted") r ∧ r [.ref a] H Q :=
  ⟨rSortedI X0.K, fun X l _ => by rw [← l.K]; exact cr_sortedI, a, ns, rfl, ha, q⟩
end
/-! ### from the first that differs -/
theorem firstLt_true (e r : Nat → Bool) : ∀ c lo : Nat, firstLt e r false (List.range' lo c) = true → ∃ j, lo ≤ j ∧ j < lo + c ∧ r j = true ∧ ∀ i, lo ≤ i → i < j → e i = true
  | 0, lo, h => by cases h
  | c + 1, lo, h => by
    rw [List.range'_succ] at h
    by_cases he : e lo = true
    · rw [firstLt_yes he] at h
      obtain ⟨j, h1, h2, h3, h4⟩ := firstLt_true e r c (lo + 1) h
      refine ⟨j, by omega, by omega, h3, fun i hi hj => ?_⟩
      by_cases hl : i = lo
      · rw [hl]; exact he
      · exact h4 i (by omega) hj
    · have e1 : firstLt e r false (lo :: List.range' (lo + 1) c) = r lo := if_neg he
      rw [e1] at h
      exact ⟨lo, Nat.le_refl _, by omega, h, fun i h1 h2 => by omega⟩
/-- a before b: the first place that differs is less -/
def Lx (a b : List Nat) : Prop := ∃ (j x y : Nat), a[j]? = some x ∧ b[j]? = some y ∧ x < y ∧ ∀ i, i < j → a[i]? = b[i]?
theorem Lx.asymm {a b : List Nat} (h : Lx a b) (h' : Lx b a) : False := by
  obtain ⟨j, x, y, h1, h2, h3, h4⟩ := h
  obtain ⟨j', x', y', g1, g2, g3, g4⟩ := h'
  rcases Nat.lt_trichotomy j j' with z | z | z
  · have e := g4 j z
    rw [h1, h2] at e
    injection e with e
    omega
  · subst z
    rw [h1] at g2
    rw [h2] at g1
    injection g1 with e1
    injection g2 with e2
    omega
  · have e := h4 j' z
    rw [g1, g2] at e
    injection e with e
    omega
end Odd

namespace Odd
open PySem PySem.Spec PyProof.Rows L2 PpSet
/-! ### {e for x in xs}, e an int -/
section
variable {X : Cx}
def tScI (w : World) (wi : TI) (g : TG) (te : TE) (vs : List Nat) : TE := fun σ H Q => wi σ H fun J H1 => ∀ D, H1 D = none → ∃ W : Nat → Nat → Hp → Prop, (∃ m, W 0 m (upd H1 D (SetO w D (fun _ => false) 0))) ∧ ∀ i m H, W i m H →
  (J.stop i H ∧ Q (.ref D) H) ∨ (J.go i H ∧ ∃ Nx : Hp → Prop, (∀ H', Nx H' → ∃ m', m' < m ∧ W (i + 1) m' H') ∧ ∀ x H', J.yld i H x H' → g x (wipe σ vs) H' fun σ2 H2 => wipe σ2 vs = wipe σ vs ∧ te σ2 H2 fun y H4 =>
    ∃ (c : Int) (S : Int → Bool) (n : Nat), y = .int c ∧ H4 D = some (SetO w D S n) ∧ n + 1 < scanBound ∧ Nx (upd H4 D (SetO w D (fun j => S j || decide (j = c)) (if S c = true then n else n + 1))))
/-- an int put in -/
theorem put_int {pins : List (Addr × Obj)} {σ : L2.St} {H : Hp} {s : Shared} {E : Value → Shared → Prop} {D : Addr} {S : Int → Bool} {n : Nat} {c : Int} {t : Tok} {R : Value → Shared → Prop} (I : Inv X pins σ H s) (atD : H D = some (SetO X.w D S n)) (few : n + 1 < scanBound)
    (k : ∀ s', Inv X pins σ (upd H D (SetO X.w D (fun j => S j || decide (j = c)) (if S c = true then n else n + 1))) s' → R .none s') : wpAny (model X.prog X.w) X.A (call (.builtin "set.add") [.ref D, .int c t]) R E s := by
  refine setR_add (setO_get I atD) few fun h' but made => k _ ?_
  refine I.write (e := D) (t' := s.toks + 1) (by rw [atD]; trivial) (.inl rfl) (fun b u hb hu => (but.2 b hb).trans hu) ?_ (setO_new made)
  obtain ⟨o, _, _, _, ho, _⟩ := made
  exact ⟨o, ho⟩
theorem pe_scI {elt tg iter : Expr} {scope : Scope} {own : List (Str × Nat)} {pos : Pos} {wi : TI} {g : TG} {te : TE} (calm : X.calm = true) (nd : X.N.Nodup) (hi : PI X tg iter wi) (ok : BlkOk X.N X.env.scope scope own)
    (hg : ∀ (s : Shared) (H : Hp) (C : Addr) (cl : List (Str × Addr)) (fp : List Addr), PG (X.blk s H scope (compEnvC scope cl C X.env) fp) tg g)
    (he : ∀ (s : Shared) (H : Hp) (C : Addr) (cl : List (Str × Addr)) (fp : List Addr), PE (X.blk s H scope (compEnvC scope cl C X.env) fp) elt te) (fold : ∀ x, foldedSetIterable iter X.env x = pure x := by intro _; rfl) :
    PE X (.SetComp elt [⟨tg, iter, [], 0⟩] scope pos) (tScI X.w wi g te (own.map (·.2))) := by
  refine ⟨fun pins s σ H Q I start => ?_⟩
  rw [eval_SetComp]
  have cellOf : ∀ y ∈ scope.names, y.2 = .free → ∃ c, X.env.cells.lookup y.1 = some c := fun y hy e => (ok.free y hy e).elim (fun k => I.ok.has _ (.inl k)) fun k => I.ok.has _ (.inr k)
  refine wpAny_comprehension_free (use := none) rfl fold (closure_ok cellOf) ok.kind (fun y hy e => (ok.uniq y hy).trans (by rw [e])) (thn (hi.run pins s σ H _ I start) fun _ s1 run1 => thn run1 fun _ s2 run2 => ?_)
  obtain ⟨it, fp, tn, J, H2, rfl, I2, T, walk2, free2, body⟩ := run2
  refine newSet_ok (newEnv_comp ?_)
  obtain ⟨D, eD⟩ : ∃ D, D = s2.heap.objs.size := ⟨_, rfl⟩
  rw [← eD]
  have newD : H2 D = none := I2.hok.fresh (by rw [eD]; exact Nat.le_refl _)
  -- the set, empty
  obtain ⟨ob, eob⟩ : ∃ ob : Obj, ob = { cls := .type "set", dict := none, data := .set #[] 0 (.fresh 0 0 (!X.w.params.followText "set-order")) } := ⟨_, rfl⟩
  obtain ⟨s3, e3⟩ : ∃ s3 : Shared, s3 = { s2 with heap := s2.heap.push ob } := ⟨_, rfl⟩
  have heap3 : s3.heap = s2.heap.push ob := by rw [e3]
  obtain ⟨H3, eH3⟩ : ∃ H3, H3 = upd H2 D (SetO X.w D (fun _ => false) 0) := ⟨_, rfl⟩
  have I3 : Inv X pins σ H3 s3 := by
    rw [e3, eH3, eD, eob]
    exact I2.laid (t' := s2.toks) (fun b o e => Heap.get?_push_of_some _ e) (Nat.le_refl _) (setO_new (setR_fresh X.w))
  have under : ∀ b ∈ fp, b < s2.heap.objs.size := fun b hb => let ⟨_, e, _⟩ := T.obj _ _ walk2 b hb; Heap.lt_size e
  have free3 : ∀ b ∈ fp, FpOk X pins H3 b ∧ b < s3.heap.objs.size := fun b hb => by
    have lt := under b hb
    refine ⟨⟨?_, (free2 b hb).2⟩, by rw [heap3, Heap.size_push]; exact Nat.lt_succ_of_lt lt⟩
    rw [eH3, upd_ne (by rw [eD]; exact Nat.ne_of_lt lt)]
    exact (free2 b hb).1
  have walk3 : tn 0 s3.heap := T.keep _ _ _ walk2 fun b _ o e => by rw [heap3]; exact Heap.get?_push_of_some _ e
  obtain ⟨W, ⟨m0, w0⟩, turns⟩ := body D newD
  rw [← eH3] at w0
  have I4 := block_start I3 ok nd free3
  have goes := hg s3 H3 s3.heap.objs.size (cellsFrom (s3.heap.objs.size + 1) scope.names (cloFrom X.env.cells scope.names [])) fp
  have elem := he s3 H3 s3.heap.objs.size (cellsFrom (s3.heap.objs.size + 1) scope.names (cloFrom X.env.cells scope.names [])) fp
  rw [← eob]
  have shown : ({ s2 with heap := s2.heap.push ob } : Shared) = s3 := e3.symm
  rw [shown]
  show codeAny _ _ (.compStart (.SetComp elt [⟨tg, iter, [], 0⟩] scope pos) 0 (.ref it) (.ref D) (compEnvC scope (cellsFrom (s3.heap.objs.size + 1) scope.names (cloFrom X.env.cells scope.names [])) s3.heap.objs.size X.env)) (compPost (model X.prog X.w) X.A X.xe none (EP X pins σ Q) (.ref D) s3.heap.objs.size) { s3 with heap := pushCells (s3.heap.push { cls := .type "dict", data := .dict #[] }) scope.names }
  have locD : (compEnvC scope (cellsFrom (s3.heap.objs.size + 1) scope.names (cloFrom X.env.cells scope.names [])) s3.heap.objs.size X.env).locals = s3.heap.objs.size := rfl
  generalize compEnvC scope (cellsFrom (s3.heap.objs.size + 1) scope.names (cloFrom X.env.cells scope.names [])) s3.heap.objs.size X.env = ce at I4 goes elem locD ⊢
  obtain ⟨s4, e4⟩ : ∃ s4 : Shared, s4 = { s3 with heap := pushCells (s3.heap.push { cls := .type "dict", data := .dict #[] }) scope.names } := ⟨_, rfl⟩
  rw [← e4] at I4 ⊢
  have walk4 : tn 0 s4.heap := T.keep _ _ _ walk3 fun b _ o e => by rw [e4]; exact pushCells_keeps _ _ _ _ (Heap.get?_push_of_some _ e)
  have still : ∀ {σ' : L2.St} {H' : Hp} {s' : Shared}, Inv (X.blk s3 H3 scope ce fp) [] σ' H' s' → (∀ b ∈ fp, H' b = none) → ∀ b ∈ fp, FpOk (X.blk s3 H3 scope ce fp) [] H' b := fun {σ' H' s'} I' hn b hb =>
    ⟨hn b hb, (I'.ok.exf b hb).1, I'.ok.exfs b hb, .inl hb, fun x c e => (I'.ok.exf b hb).2 x c e, fun p hp => absurd (show p ∈ ([] : List (Addr × Obj)) ++ [] from hp) (by simp)⟩
  have loop : codeAny (model X.prog X.w) X.A (.compLoop (.SetComp elt [⟨tg, iter, [], 0⟩] scope pos) 0 (.ref it) (.ref D) ce) (compPost (model X.prog X.w) X.A X.xe none (EP X pins σ Q) (.ref D) s3.heap.objs.size) s4 := by
    refine compLoopS_any (fun n s' => ∃ i H', Inv (X.blk s3 H3 scope ce fp) [] (wipe σ (own.map (·.2))) H' s' ∧ tn i s'.heap ∧ (∀ b ∈ fp, H' b = none) ∧ W i n H') (fun n s5 inv5 => ?_) m0 ⟨0, H3, I4, walk4, fun b hb => (free3 b hb).1.1, w0⟩
    obtain ⟨i, H5, I5, walk5, none5, w5⟩ := inv5
    rcases turns i n H5 w5 with ⟨stop, last⟩ | ⟨go, Nx, next, step⟩
    · refine thnF (T.done (X.blk s3 H3 scope ce fp) rfl rfl rfl calm i [] s5 _ H5 (fun _ _ => False) I5 (still I5 none5) walk5 stop) fun r s6 ⟨er, I6⟩ => ?_
      subst er
      have back : Inv X pins σ H5 s6 := I3.call' (ch := fp) I6.os I6.base I6.hok I6.bare fun b hb => let z := (free3 b hb).1; ⟨z.2.2.2.1, z.2.1, z.2.2.2.2.1, z.2.2.2.2.2⟩
      have gone : H5 s3.heap.objs.size = none := by
        have z : H5 ce.locals = none := I6.free
        rwa [locD] at z
      obtain ⟨m, ns, _⟩ := I6.loc
      have ns : s6.heap.Ns ce.locals m := ns
      rw [locD] at ns
      refine ⟨m, ns, fun h7 only => ?_⟩
      obtain ⟨f0, f1, f2, f3, f4, f5⟩ := I3.fpOk (Nat.le_refl _) gone
      exact ⟨.ref D, H5, back.turned (t' := s6.toks) (fun b o hb e => (only.2 b hb).trans e) f0 f1 f3 f4 f5, rfl, last⟩
    · refine thnF (T.item (X.blk s3 H3 scope ce fp) rfl rfl rfl calm i [] s5 _ H5 (fun _ _ => False) I5 (still I5 none5) walk5 go) fun r s6 ⟨u, er, run6⟩ => ?_
      subst er
      refine thnF run6 fun _ s7 ⟨x, H7, I7, rx, yl, walk7, none7⟩ => ?_
      have pinned := I7.pinned (still I7 none7) (T.obj _ _ walk7)
      refine thnF (goes.run _ s7 _ H7 x u _ pinned rx (step x H7 yl)) fun _ s8 ⟨σ8, H8, I8, same8, q8⟩ => ?_
      have done : ∀ {s' : Shared} {H' : Hp}, Inv (X.blk s3 H3 scope ce fp) ([] ++ pinsAt fp s7.heap) σ8 H' s' → Nx H' → ∃ m, m < n ∧ ∃ i H', Inv (X.blk s3 H3 scope ce fp) [] (wipe σ (own.map (·.2))) H' s' ∧ tn i s'.heap ∧ (∀ b ∈ fp, H' b = none) ∧ W i m H' := fun {s' H'} I' nx => by
        obtain ⟨m', lt, w'⟩ := next H' nx
        have pin' : ∀ b ∈ fp, ∀ o, s7.heap.get? b = some o → s'.heap.get? b = some o ∧ H' b = none := fun b hb o e => ⟨(I'.pin (b, o) (List.mem_append_right _ (List.mem_append_right _ (mem_pinsAt hb e)))).1, (I'.pin (b, o) (List.mem_append_right _ (List.mem_append_right _ (mem_pinsAt hb e)))).2.1⟩
        refine ⟨m', lt, i + 1, H', (I'.unpinned (pins := [])).weak (by rw [← same8, wipe_length]) (fun j v e => (wipe_some (by rw [same8]; exact e)).1), T.keep _ _ _ walk7 fun b hb o e => (pin' b hb o e).1, fun b hb => ?_, w'⟩
        obtain ⟨o, e, _⟩ := T.obj _ _ walk7 b hb
        exact (pin' b hb o e).2
      refine thnF ((pts_nil (X := X.blk s3 H3 scope ce fp)).run _ s8 σ8 H8 (fun b H9 => b = true ∧ H9 = H8) I8 (show _ from ⟨rfl, rfl⟩)) fun b s9 ⟨H9, I9, eb, e9⟩ => ?_
      subst eb e9
      rw [if_pos rfl]
      refine thnF (elem.run _ s9 σ8 _ _ I9 q8) fun z s10 ⟨yv, H10, I10, ry, c, S, k, ey, atD, few, nx⟩ => ?_
      subst ey
      obtain ⟨tk, ez⟩ := (show ∃ t, z = Value.int c t from ry)
      subst ez
      exact put_int (X := X.blk s3 H3 scope ce fp) I10 atD few fun s11 I11 => done I11 nx
  exact codeAny_compStart_set loop (T.self X.A 0 _ _ _ walk4 loop)
end
end Odd

namespace Odd
open PySem PySem.Spec PyProof.Rows L2
/-! ### the set of what a tuple's items give -/
section
variable {w : World} {K : PySem.W.Frag} {a : Addr} {xs : List V} {σ : L2.St} {H : Hp} {Q : VK} {tl te : TE} {vs : List Nat} {j : Nat}
theorem c_scT (ys : List Int) (hl : ys.length = xs.length) (h63 : xs.length ≤ 63) (hx : SqT K H a xs) (hw : ∀ x, wipe ((wipe σ vs).set j (some x)) vs = wipe σ vs)
    (turn : ∀ (i : Nat) x y H', xs[i]? = some x → ys[i]? = some y → Same H H' → ∀ R : VK, (∀ H4, Same H' H4 → R (.int y) H4) → te ((wipe σ vs).set j (some x)) H' R)
    (q : ∀ D n H', H D = none → Same H H' → n ≤ ys.length → H' D = some (SetO w D (fun k => decide (k ∈ ys)) n) → Q (.ref D) H')
    (ht : ∀ R : VK, R (.ref a) H → tl σ H R) : tScI w (iSeq K tl) (gName j) te vs σ H Q :=
  ht _ ⟨a, rfl, .inr ⟨⟨xs, hx⟩, fun D hD => ⟨fun i m H1 => m = xs.length - i ∧ i ≤ xs.length ∧ Same H H1 ∧ ∃ n, n ≤ i ∧ H1 D = some (SetO w D (fun k => decide (k ∈ ys.take i)) n),
    ⟨xs.length, rfl, Nat.zero_le _, same_new hD, 0, Nat.le_refl _, by
      rw [upd_same]
      exact congrArg (fun S => some (SetO w D S 0)) (funext fun k => by simp)⟩, fun i m H1 z => by
    obtain ⟨rfl, hi, s1, n, hn, d1⟩ := z
    by_cases hlt : i < xs.length
    · refine .inr ⟨⟨xs, xs[i], same_t s1 hx, by simp [hlt]⟩, fun H' => i + 1 ≤ xs.length ∧ Same H H' ∧ ∃ n, n ≤ i + 1 ∧ H' D = some (SetO w D (fun k => decide (k ∈ ys.take (i + 1))) n), fun H' h => ⟨xs.length - (i + 1), by omega, rfl, h.1, h.2⟩, fun x H' y => ?_⟩
      obtain ⟨e1, e2⟩ := y
      subst e1
      have hy : i < ys.length := by omega
      refine ⟨hw x, turn i x ys[i] _ (e2 xs (same_t s1 hx)) (List.getElem?_eq_getElem hy) s1 _ fun H4 s4 => ?_⟩
      refine ⟨ys[i], _, n, rfl, s4 _ _ d1, Nat.lt_of_le_of_lt (show n + 1 ≤ 64 by omega) (by decide), hlt, same_mut (s1.trans s4) hD, (if decide (ys[i] ∈ ys.take i) = true then n else n + 1), ?_, ?_⟩
      · split <;> omega
      · rw [upd_same]
        refine congrArg (fun S => some (SetO w D S _)) (funext fun k => ?_)
        rw [List.take_add_one, List.getElem?_eq_getElem hy, Bool.eq_iff_iff, Bool.or_eq_true, decide_eq_true_iff, decide_eq_true_iff, decide_eq_true_iff, List.mem_append]
        show _ ∨ _ ↔ _ ∨ k ∈ [ys[i]]
        rw [List.mem_singleton]
    · obtain rfl : i = xs.length := by omega
      rw [List.take_of_length_le (by omega)] at d1
      exact .inl ⟨⟨xs, same_t s1 hx, Nat.le_refl _⟩, q D n H1 hD s1 (by omega) d1⟩⟩⟩⟩
end
section
variable {X0 : Cx} {E : XK} {H : Hp} {Q : VK}
theorem s_sortSet {a : Addr} {S : Int → Bool} {n : Nat} (hc : X0.calm = true) (ha : H a = some (SetO X0.w a S n)) (h64 : n < 64)
    (q : ∀ (ns : List Int) (p : Addr), ns.Pairwise (· < ·) → (∀ k : Int, k ∈ ns ↔ S k = true) → H p = none → Q (.ref p) (upd H p (.lst (ns.map V.int)))) : ∃ r, CaD X0 E (.builtin "sorted") r ∧ r [.ref a] H Q :=
  ⟨rSortedSet X0.w, fun X l _ => by rw [← l.w]; exact cr_sortedSet (by rw [l.calm]; exact hc), a, S, n, rfl, ha, h64, fun ns p h1 h2 _ h4 => q ns p h1 h2 h4⟩
end
theorem asc_ext {xs ys : List Int} (hx : xs.Pairwise (· < ·)) (hy : ys.Pairwise (· < ·)) (h : ∀ k, k ∈ xs ↔ k ∈ ys) : xs = ys := by
  have nd : ∀ {l : List Int}, l.Pairwise (· < ·) → l.Nodup := fun p => p.imp fun h => by omega
  refine List.Perm.eq_of_pairwise (le := fun a b : Int => a ≤ b) (fun a b _ _ h1 h2 => Int.le_antisymm h1 h2) (hx.imp fun h => by omega) (hy.imp fun h => by omega) ?_
  rw [List.perm_iff_count]
  intro c
  rw [List.Nodup.count (nd hx), List.Nodup.count (nd hy)]
  by_cases z : c ∈ xs
  · rw [if_pos z, if_pos ((h c).1 z)]
  · rw [if_neg z, if_neg fun u => z ((h c).2 u)]
end Odd

namespace Odd
open PySem PySem.Spec PyProof.Rows L2 SeqAt
/-! ### two tuples of the very same objects -/
theorem vals_refs : ∀ {ps : List Addr} {us : List Value}, Vals (ps.map V.ref) us → us = ps.map Value.ref
  | [], _, .nil => rfl
  | p :: ps, _, .cons r h => by
    rw [show _ = Value.ref p from r, vals_refs h]
    rfl
def rSameT (K : PySem.W.Frag) : R2 := fun x y H Q => ∃ (a b : Addr) (ps : List Addr), x = .ref a ∧ y = .ref b ∧ SqT K H a (ps.map V.ref) ∧ SqT K H b (ps.map V.ref) ∧ Q (.bl true) H
theorem op_sameT {X : Cx} (hu : X.A.units < cLine) : OpR X (compareOp .Eq) (rSameT X.K) := by
  intro pins s σ H x y v u Q I rx ry h
  obtain ⟨a, b, ps, rfl, rfl, ha, hb, q⟩ := h
  cases rx
  cases ry
  obtain ⟨its, r1, p1, _⟩ := I.tuple ha
  obtain ⟨its2, r2, p2, _⟩ := I.tuple hb
  obtain rfl := vals_refs r1
  obtain rfl := vals_refs r2
  have R := RcAt.tuples (A := X.A) (s := s) (e := fun _ => true) p1 p2 hu fun j h1 h2 => EqAt.same _
  rw [show ((List.range (min (ps.map Value.ref).toArray.size (ps.map Value.ref).toArray.size)).all (fun _ => true) && (ps.map Value.ref).toArray.size == (ps.map Value.ref).toArray.size) = true by simp] at R
  have z : wpAny (model X.prog X.w) X.A (compareOp .Eq (.ref a) (.ref b)) (EP X pins σ Q) X.xe s := R X.prog X.w X.xe (EP X pins σ Q) ⟨.bl _, H, I, rfl, q⟩
  exact z
theorem s_sameT {X0 : Cx} {E : XK} {H : Hp} {Q : VK} {a b : Addr} {ps : List Addr} (hu : X0.A.units + 64 < cLine) (ha : SqT X0.K H a (ps.map V.ref)) (hb : SqT X0.K H b (ps.map V.ref)) (q : Q (.bl true) H) : ∃ r, OpD X0 E (compareOp .Eq) r ∧ r (.ref a) (.ref b) H Q :=
  ⟨rSameT X0.K, fun X l _ => by rw [← l.K]; exact op_sameT (by rw [l.A]; omega), a, b, ps, rfl, rfl, ha, hb, q⟩
theorem w_bm0 {K : PySem.W.Frag} {T : String} {r : V → List V → Hp → VK → Prop} {to : TE} {σ : L2.St} {H : Hp} {Q : VK} (h : to σ H fun x H1 => tyV K T x H1 ∧ r x [] H1 Q) : tBM0 K T r to σ H Q := h
end Odd

namespace Odd
open PySem PySem.Spec PyProof.Rows L2
/-! ### dicts with tuples as keys -/
section
variable {X0 : Cx} {E : XK} {H : Hp} {Q : VK}
theorem s_ixDT {k : Nat} {p b : Addr} {kvs : List (List Key × V)} {key : List Key} {v : V} (hr : Room k X0.A) (h : H p = some (.dT kvs)) (hb : H b = some (.tup (key.map kV))) (e : valV kvs key = some v) (q : Q v H) : ∃ r, IxD X0 E r ∧ r (.ref p) (.ref b) H Q :=
  ⟨rIxK, fun X l _ => ix_dict (hu1 (l.room hr)), p, v, rfl, by rw [← e]; exact DGet.t h hb, q⟩
def rNotInD : R2 := fun x y H Q => ∃ (a : Addr) (o : Option V), y = .ref a ∧ DGet H a x o ∧ Q (.bl (!o.isSome)) H
theorem op_notInD {X : Cx} (hu : X.A.units + 1 < cLine) : OpR X (compareOp .NotIn) rNotInD := by
  intro pins s σ H x y v u Q I rx ry h
  obtain ⟨a, o, rfl, g, q⟩ := h
  obtain rfl : u = Value.ref a := ry
  exact d_notIn hu I g rx fun s' I' => ⟨.bl _, H, I', rfl, q⟩
theorem s_notInDT {k : Nat} {p b : Addr} {kvs : List (List Key × V)} {key : List Key} (hr : Room k X0.A) (h : H p = some (.dT kvs)) (hb : H b = some (.tup (key.map kV))) (q : Q (.bl (!(valV kvs key).isSome)) H) : ∃ r, OpD X0 E (compareOp .NotIn) r ∧ r (.ref b) (.ref p) H Q :=
  ⟨rNotInD, fun X l _ => op_notInD (hu1 (l.room hr)), p, _, rfl, DGet.t h hb, q⟩
end
end Odd

namespace Odd
open PySem PySem.Spec PyProof.Rows L2
/-! ### {t: v}, t a tuple -/
section
variable {X0 X : Cx}
def tDispT (X0 : Cx) (tk tv : TE) : TE := fun σ H Q => X0.A.units + 1 < cLine ∧ ∀ p, H p = none → tPairs [(tk, tv)] σ (upd H p (.dT [])) fun ps H2 =>
  ∃ (b : Addr) (key : List Key) (y : V), ps = [(.ref b, y)] ∧ H2 b = some (.tup (key.map kV)) ∧ H2 p = some (.dT []) ∧ Q (.ref p) (upd H2 p (.dT [(key, y)]))
theorem pe_dispT {k v : Expr} {pos : Pos} {tk tv : TE} (l : Like X0 X) (hk : PE X k tk) (hv : PE X v tv) : PE X (.Dict [some k] [v] pos) (tDispT X0 tk tv) := by
  refine ⟨fun pins s σ H Q I ⟨hu, q⟩ => ?_⟩
  rw [← l.A] at hu
  have fresh := I.hok.fresh (Nat.le_refl s.heap.objs.size)
  have I1 := I.laid (a := s.heap.objs.size) (o := .dT []) (h' := s.heap.push { cls := .type "dict", data := .dict #[] }) (t' := s.toks) (fun _ _ q => Heap.get?_push_of_some _ q) (Nat.le_refl _) (dt_empty s.heap I.big)
  refine wpAny_Dict_any rfl rfl (by simp) (by show 1 ≤ 15; decide) ?_
  refine thn ((pps_cons hk hv pps_nil).run pins _ σ _ _ I1 (q _ fresh)) fun ws s2 ⟨ps, H2, I2, rel, b, key, y, ep, eb, ed, qq⟩ => ?_
  subst ep
  obtain ⟨u, r, rfl, ru, ry⟩ : ∃ u r, ws = [(u, r)] ∧ RelV (.ref b) u ∧ RelV y r := by
    cases rel with
    | @cons a c as cs h t =>
      cases t
      exact ⟨c.1, c.2, rfl, h.1, h.2⟩
  cases (show u = Value.ref b from ru)
  obtain ⟨z, hd, xs, kt, dd⟩ := dt_of I2.hok ed
  have hz : xs.length ≤ sizeLine := by rw [← Paired.length kt]; exact z
  unfold storeAll
  rw [List.forIn_cons]
  refine wpAny_bind (wpAny_bind (wpAny_dictSet_heap (hsz := hz) (knd := tupleKind (mixKind X.prog X.w)) (show X.A.units < cLine by omega) (key_of I2.hok eb) dd fun h' dd' hs => wpAny_pure ?_))
  dsimp only
  rw [List.forIn_nil]
  refine wpAny_pure ⟨.ref s.heap.objs.size, _, ?_, rfl, qq⟩
  obtain ⟨o, es, ep, ho, h2, h3, h4, _, h5⟩ := dd'
  refine d_write I2 (by rw [ed]; exact True.intro) hs ⟨o, ho⟩ ⟨by show 1 ≤ sizeLine; decide, hd, _, (kt.put key eb ry).keeps fun c ys ec => ?_, o, es, ep, ho, h2, h3, h4, h5⟩
  rw [upd_ne (ne_of ec ed (fun z => nomatch z))]
  exact ec
theorem w_dispT {tk tv : TE} {σ : L2.St} {H : Hp} {Q : VK} (hu : X0.A.units + 64 < cLine) (h : ∀ p, H p = none → tk σ (upd H p (.dT [])) fun x H1 => tv σ H1 fun y H2 => ∃ (b : Addr) (key : List Key) (z : V), [(x, y)] = [(V.ref b, z)] ∧ H2 b = some (.tup (key.map kV)) ∧ H2 p = some (.dT []) ∧ Q (.ref p) (upd H2 p (.dT [(key, z)]))) : tDispT X0 tk tv σ H Q := ⟨by omega, h⟩
end
end Odd

namespace Odd
open PySem PySem.Spec PyProof.Rows L2
/-! ### a set made of a list of ints -/
abbrev noSet (w : World) : Obj := { cls := .type "set", dict := none, data := .set #[] 0 (.fresh 0 0 (!w.params.followText "set-order")) }
section
variable {P : Program} {w : World} {A : Around} {E : Value → Shared → Prop} {s : Shared}
/-- what the set's own start does with a list of ints -/
theorem start_set {l : Addr} {items : Array Value} {ns : List Int} {s : Shared} (hh : A.handled = none) (hl : s.heap.IsList l items) (hit : IntsAre items.toList ns) (few : ns.length + 1 < scanBound) :
    codeAny (model P w) A (.call (.builtin "set.__init__") ⟨[.ref s.heap.objs.size, .ref l], []⟩) (wants (fun r s₂ => r = .none ∧ ∃ h' tk c, s₂ = { s with heap := h', toks := tk } ∧ SetR w h' s.heap.objs.size (fun j => decide (j ∈ ns)) c ∧ c ≤ ns.length ∧
      ∀ b o, s.heap.get? b = some o → h'.get? b = some o) E) { s with heap := s.heap.push (noSet w) } := by
  have old : ∀ {b : Addr} {o : Obj}, s.heap.get? b = some o → (s.heap.push (noSet w)).get? b = some o := fun e => Heap.get?_push_of_some _ e
  have mine : (s.heap.push (noSet w)).get? s.heap.objs.size = some (noSet w) := Heap.get?_push_size _ rfl
  have ty : Shared.TypeIs { s with heap := s.heap.push (noSet w) } (.ref s.heap.objs.size) "set" := ⟨_, mine, rfl⟩
  have many : items.size = ns.length := by rw [← Array.length_toList]; exact IntsAre.length hit
  refine codeAny_call_builtin F.called_set.init.plain F.entry_set_init (check_set_init_1 ty ?_)
  obtain ⟨⟨c0, d0, data0, sl0⟩, ho, hc, m0, hd⟩ := hl
  cases hc
  cases hd
  have low : l < s.heap.objs.size := Heap.lt_size ho
  have sz : (s.heap.push (noSet w)).objs.size = s.heap.objs.size + 1 := Heap.size_push ..
  have there := old ho
  have isl : (s.heap.push (noSet w)).IsList l items := ⟨_, there, rfl, m0, rfl⟩
  have n1 := F.sub_list_set
  have n2 := F.sub_list_frozenset
  have n3 : (Value.type "list" == Value.type "dict") = false := by decide
  unfold Builtin.«set.__init__» noKeywords Builtin.Frozenset.updateFrom
  generalize hg : pyIter = PI
  wp_walk
  subst hg
  refine wpAny_pyIter_list isl (wpAny_bind (wpAny_runValue ?_))
  have apart : l ≠ (s.heap.push (noSet w)).objs.size := by rw [sz]; exact Nat.ne_of_lt (Nat.lt_succ_of_lt low)
  have off : s.heap.objs.size ∉ [(s.heap.push (noSet w)).objs.size, l] := fun z => by
    rcases List.mem_cons.1 z with z | z
    · rw [sz] at z
      exact absurd z (Nat.ne_of_lt (Nat.lt_succ_self _))
    · exact absurd (List.mem_singleton.1 z) (Nat.ne_of_gt low)
  refine set_update_ints (Walks.list (by show A.handled = none; exact hh) _ l apart items).toS s.heap.objs.size off ns many few (fun i v hv => ?_) items.size 0 _ (Nat.sub_zero _) (Nat.zero_le _) ⟨⟨_, Heap.get?_push_size _ rfl, rfl, rfl⟩, isl.push _⟩ ⟨0, Nat.le_refl 0, setR_new_at (Heap.get?_push_of_some _ mine)⟩ fun s2 c2 mv hc2 hS2 => ?_
  · have hi : i < ns.length := by rw [← many]; exact (Array.getElem?_eq_some_iff.1 hv).1
    obtain ⟨t, et⟩ := IntsAre.int_at hit i v (by rw [Array.getElem?_toList]; exact hv)
    exact ⟨ns[i], t, List.getElem?_eq_getElem hi, by rw [et, List.getD_eq_getElem?_getD, List.getElem?_eq_getElem hi] <;> rfl⟩
  · obtain ⟨h2, gens, drawn, tk2, os2⟩ := s2
    cases (show gens = s.gens from mv.gens)
    cases (show drawn = s.drawn from mv.drawn)
    cases (show os2 = s.os from mv.os)
    refine wpAny_pure (wpAny_pure ⟨rfl, h2, tk2, c2, rfl, hS2, by omega, fun b o e => ?_⟩)
    have hb := Heap.lt_size e
    refine mv.heap b o (fun z => ?_) (Heap.get?_push_of_some _ (old e))
    rcases List.mem_cons.1 z with z | z
    · exact absurd z (Nat.ne_of_lt hb)
    · have z := List.mem_singleton.1 z
      rw [sz] at z
      exact absurd z (Nat.ne_of_lt (Nat.lt_succ_of_lt hb))
theorem set_of_list {l : Addr} {items : Array Value} {ns : List Int} {Q : Value → Shared → Prop} (hh : A.handled = none) (hl : s.heap.IsList l items) (hit : IntsAre items.toList ns) (few : ns.length + 1 < scanBound)
    (h : ∀ h' tk c, SetR w h' s.heap.objs.size (fun j => decide (j ∈ ns)) c → c ≤ ns.length → (∀ b o, s.heap.get? b = some o → h'.get? b = some o) → Q (.ref s.heap.objs.size) { s with heap := h', toks := tk }) : wpAny (model P w) A (call (.type "set") [.ref l]) Q E s := by
  obtain ⟨c, tl, mro⟩ := F.called_set.mro
  have a1 := F.called_set.made; have a2 := F.called_set.sub; have a3 := F.called_set.notType; have a4 := F.called_set.canCreate; have a5 := F.typeCall_set_1 (.ref l)
  refine wpAny_call (codeAny_of_tree (show wpAny _ _ (callAny (.type "set") _) _ _ _ from wpAny_pure ⟨Code.quiet_builtin _ (by decide +kernel), codeAny_builtin F.entry_type_call ?_⟩))
  rw [Around.under_plain (weight_type_call_type "set" [.ref l] []) rfl]
  repeat any_goals first | assumption | wp_step
  refine codeAny_mono (code_set_led1 (.ref l) (E := E) (Q₁ := fun ob s1 => ob = .ref s.heap.objs.size ∧ s1 = { s with heap := s.heap.push (noSet w) }) ⟨rfl, rfl⟩) fun r s1 hr => ?_
  match r, hr with
  | .error e, hr => exact hr
  | .ok (.ret ob), hr =>
    obtain ⟨rfl, rfl⟩ := hr
    have b1 := F.called_set.init.lookup; have b2 := F.called_set.init.bind (.ref s.heap.objs.size)
    have ty : Shared.TypeIs { s with heap := s.heap.push (noSet w) } (.ref s.heap.objs.size) "set" := ⟨_, Heap.get?_push_size _ rfl, rfl⟩
    repeat any_goals first | assumption | wp_step
    refine codeAny_mono (start_set (E := E) (by exact hh) hl hit few) fun r2 s2 hr2 => ?_
    match r2, hr2 with
    | .error e, hr2 => exact hr2
    | .ok (.ret v), hr2 =>
      obtain ⟨rfl, h', tk, c', rfl, hS, hc, keep⟩ := hr2
      repeat any_goals first | assumption | wp_step
      exact h _ _ _ hS hc keep
end
section
variable {X0 : Cx} {E : XK} {H : Hp} {Q : VK}
theorem s_setOf {a : Addr} {ns : List Int} (hc : X0.calm = true) (ha : SqL X0.K H a (ns.map V.int)) (few : ns.length ≤ 63) (q : ∀ D n H', H D = none → n ≤ ns.length → Same H H' → H' D = some (SetO X0.w D (fun k => decide (k ∈ ns)) n) → Q (.ref D) H') : ∃ r, CaD X0 E (.type "set") r ∧ r [.ref a] H Q := by
  refine ⟨fun vs H Q => ∃ a ns, vs = [.ref a] ∧ SqL X0.K H a (ns.map V.int) ∧ ns.length ≤ 63 ∧ ∀ D n, H D = none → n ≤ ns.length → Q (.ref D) (upd H D (SetO X0.w D (fun k => decide (k ∈ ns)) n)), fun X l _ => ?_, a, ns, rfl, ha, few, fun D n h1 h2 => q D n _ h1 h2 (same_new h1) upd_same⟩
  intro pins s σ H xs us Q I r h
  obtain ⟨a, ns, rfl, hs, few, q⟩ := h
  rw [← l.K] at hs
  rw [← l.w] at q
  rw [Vals.ref1 r]
  obtain ⟨its, rl, p, hz⟩ := I.list hs
  refine set_of_list (I.ok.hd (l.calm.trans hc)) p.isList rl.ints (Nat.lt_of_le_of_lt (show _ ≤ 64 by omega) (by decide)) fun h' tk c hS hn keep => ?_
  exact ⟨.ref _, _, I.laid (t' := tk) keep (Nat.le_refl _) (setO_new hS), rfl, q _ c (I.hok.fresh (Nat.le_refl _)) hn⟩
/-- x in, not in a list of data -/
theorem s_inD {x : V} {d : PyData} {l : Addr} {ds : List PyData} (hu : X0.A.units + 65 < cLine) (hx : Dp X0.K H x d) (hl : Dp X0.K H (.ref l) (.list ds)) (h1 : SeqAt.shaped d = true) (h2 : SeqAt.shaped (.list ds) = true) (q : Q (.bl (ds.any fun z => PyData.eqv z d)) H) : ∃ r, OpD X0 E (compareOp .In) r ∧ r x (.ref l) H Q :=
  ⟨L2.rInD X0.K, fun X l _ => by rw [← l.K]; exact L2.op_inD (by rw [l.A]; exact hu), d, ds, hx, hl, h1, h2, q⟩
theorem s_notInD {x : V} {d : PyData} {l : Addr} {ds : List PyData} (hu : X0.A.units + 65 < cLine) (hx : Dp X0.K H x d) (hl : Dp X0.K H (.ref l) (.list ds)) (h1 : SeqAt.shaped d = true) (h2 : SeqAt.shaped (.list ds) = true) (q : Q (.bl (!ds.any fun z => PyData.eqv z d)) H) : ∃ r, OpD X0 E (compareOp .NotIn) r ∧ r x (.ref l) H Q :=
  ⟨L2.rNotInD X0.K, fun X l _ => by rw [← l.K]; exact L2.op_notInD (by rw [l.A]; exact hu), d, ds, hx, hl, h1, h2, q⟩
end
end Odd

namespace Odd
open PySem PySem.Spec PyProof.Rows L2 LamX NdefX
/-! ### e(), e an expression that gives a lambda of this def -/
def tActE (X : Cx) (E : XK) (te : TE) : TE := fun σ H Q => te σ H fun y H1 => ∀ B, CellsB X σ B → ∃ (f : Addr) (F : NF) (bd : Expr) (dV : Value) (k : Nat), y = .ref f ∧ H1 f = some (LamO f F bd dV) ∧ CallAt X.prog X.w X.K X.mg B k f H1 Q E ∧ Room k X.A
theorem pe_actE {X : Cx} {E : XK} {o : Expr} {te : TE} {pos : Pos} (h : Pas X E) (hfn : ∀ x, X.fn x = true) (ho : PE X o te)
    (ht : eval (.Call o [] [] pos) X.env = (do callWith pos (← eval o X.env) [] (backTo pos (starEach [] X.env)) (backToKw pos (keywordEach [] X.env))) := by rfl) : PE X (.Call o [] [] pos) (tActE X E te) := by
  refine ⟨fun pins s σ H Q I hq => ?_⟩
  refine Call_ (thn (ho.run pins s σ H _ I hq) fun u s1 ⟨y, H1, I1, ry, q⟩ => ?_) ht
  obtain ⟨f, F, bd, dV, k, ey, hf, hc, hr⟩ := q _ (cells_sub I1 (cells_nofr I1 hfn))
  subst ey
  obtain rfl : u = Value.ref f := ry
  obtain ⟨od, sl, doc, pm, ctv, hob⟩ := lamO_at I1.hok hf
  refine PySem.W.callWith_F0 ⟨_, _, _, _, hob⟩ (wpAny_call (codeAny_mono (hc X.A X.stack s1 hr (env0_sub I1)) fun r s' hq => ?_))
  match r, hq with
  | .error e, hq => exact h pins σ H1 s1 e s' I1 hq
  | .ok (.ret v), hq => exact I1.after hq
theorem w_actE {X : Cx} {E : XK} {te : TE} {σ : L2.St} {H : Hp} {Q : VK} (h : te σ H fun y H1 => ∀ B, CellsB X σ B → ∃ (f : Addr) (F : NF) (bd : Expr) (dV : Value) (k : Nat), y = .ref f ∧ H1 f = some (LamO f F bd dV) ∧ CallAt X.prog X.w X.K X.mg B k f H1 Q E ∧ Room k X.A) : tActE X E te σ H Q := h
/-! ### sorted of at most one tuple -/
theorem perm01 {α : Type} : ∀ {xs ys : List α}, xs.length ≤ 1 → ys.Perm xs → ys = xs
  | [], _, _, h => h.eq_nil
  | [_], _, _, h => List.perm_singleton.1 h
  | _ :: _ :: _, _, h, _ => by simp at h
theorem s_sort01 {X0 : Cx} {E : XK} {H : Hp} {Q : VK} {a : Addr} {xs : List V} {d : Nat} {B : Int} (hd : 1 ≤ d) (ha : SqL X0.K H a xs) (hl : xs.length ≤ 1) (hx : ∀ x ∈ xs, ∃ ns, TupI X0.K H x ns ∧ ns.length = d ∧ TS.Bd B ns) (q : ∀ p, H p = none → Q (.ref p) (upd H p (.lst xs))) : ∃ r, CaD X0 E (.builtin "sorted") r ∧ r [.ref a] H Q := by
  refine ⟨rSortU X0.K d B, fun X l _ => by rw [← l.K]; exact cr_sortT hd, a, xs, rfl, ha, by omega, hx, fun ys p hp _ hn => ?_⟩
  rw [perm01 hl hp]
  exact q p hn
end Odd

namespace Odd
open PySem PySem.Spec PyProof.Rows L2
/-! ### bits: 1 << k, n & (1 << k), n.bit_length() -/
section
variable {X0 : Cx} {E : XK} {H : Hp} {Q : VK}
theorem s_oneShl {k : Nat} (hk : k ≤ 1000) (q : Q (.int (2 ^ k)) H) : ∃ r, OpD X0 E (binaryOp .LShift) r ∧ r (.int 1) (.int (k : Nat)) H Q := ⟨_, fun _ _ _ => op_oneShl, k, rfl, rfl, Nat.le_trans hk (by decide), q⟩
theorem s_absZ {i : Int} (q : Q (.int (if i < 0 then -i else i)) H) : ∃ r, CaD X0 E (.builtin "abs") r ∧ r [.int i] H Q := ⟨_, fun _ _ _ => call_abs, i, rfl, q⟩
theorem s_allL {a : Addr} {bs : List Bool} (hc : X0.calm = true) (h : SqL X0.K H a (bs.map V.bl)) (q : Q (.bl (bs.all id)) H) : ∃ r, CaD X0 E (.builtin "all") r ∧ r [.ref a] H Q :=
  ⟨rAll X0.K, fun X l _ => by rw [← l.K]; exact cr_all (l.calm.trans hc), a, bs, rfl, h, q⟩
theorem s_band {i j : Int} (q : Q (.int (Builtin.bitAnd i j)) H) : ∃ r, OpD X0 E (binaryOp .BitAnd) r ∧ r (.int i) (.int j) H Q := ⟨_, fun _ _ _ => op_and, i, j, rfl, rfl, q⟩
end
/-- a.join(e), within a comprehension -/
theorem pe_joinA {X0 X : Cx} {o e : Expr} {to te : TE} {apos pos : Pos} (l : Like X0 X) (ho : PE X o to) (he : PE X e te) (hs : starEach [e] X.env = [(false, eval e X.env)] := by rfl) (hbase : attributeBase o "join" X.env (eval o X.env) = eval o X.env := by rfl) (hline : (apos.endLine == pos.line) = true := by rfl) :
    PE X (.Call (.Attribute o "join" apos) [e] [] pos) (tM1 (fun x xs H Q => ∃ a p, ∃ ys : List Str, x = .str a ∧ xs = [.ref p] ∧ (SqL X0.K H p (ys.map V.str) ∨ SqT X0.K H p (ys.map V.str)) ∧
      (ys.map (·.length)).sum + ys.length * a.length ≤ 16777216 ∧ Q (.str (Txt.join a ys)) H) to te) := by
  rw [← l.K]
  exact pe_join ho he hs hbase hline
theorem w_bits {to : TE} {σ : L2.St} {H : Hp} {Q : VK} (h : to σ H fun x H1 => ∃ i, x = .int i ∧ Q (.int (Builtin.Int.intBits i : Nat)) H1) : tBits to σ H Q := h
/-- which seats the bits of a number stand for -/
def bitSeats (m : Nat) : List Nat := (List.range (Builtin.Int.intBits (m : Int))).filter fun s => Builtin.bitAnd (m : Int) (2 ^ s) != 0
/-- the number that seats stand for -/
def bitSum (ss : List Nat) : Nat := (ss.map fun s => 2 ^ s).sum
/-- the lists of ascending seats from lo to 7 -/
def ascs : Nat → Nat → List (List Nat)
  | 0, _ => [[]]
  | f + 1, lo => ascs f (lo + 1) ++ (ascs f (lo + 1)).map (lo :: ·)
theorem bits_all : ∀ ss ∈ ascs 8 0, bitSeats (bitSum ss) = ss ∧ bitSum ss < 256 := by decide +kernel
end Odd

namespace Odd
open PySem PySem.Spec PyProof.Rows L2
/-! ### dicts whose keys are tables: tuples of tuples of numbers -/
def rowKey (r : List Int) : NestedKey := .tup (r.map .num)
def tabKey (rows : List (List Int)) : NestedKey := .tup (rows.map rowKey)
theorem num_inj : ∀ {r s : List Int}, r.map NestedKey.num = s.map NestedKey.num → r = s
  | [], [], _ => rfl
  | [], _ :: _, h => by cases h
  | _ :: _, [], h => by cases h
  | a :: r, b :: s, h => by
    injection h with h1 h2
    injection h1 with h3
    rw [h3, num_inj h2]
theorem tab_inj : ∀ {x y : List (List Int)}, x.map rowKey = y.map rowKey → x = y
  | [], [], _ => rfl
  | [], _ :: _, h => by cases h
  | _ :: _, [], h => by cases h
  | a :: r, b :: s, h => by
    injection h with h1 h2
    injection h1 with h3
    rw [num_inj h3, tab_inj h2]
theorem tabKey_inj {x y : List (List Int)} : tabKey x = tabKey y ↔ x = y := ⟨fun h => by injection h with h; exact tab_inj h, fun h => by rw [h]⟩
theorem num_depth : ∀ r : List Int, NestedKey.depthAll (r.map .num) = 0
  | [] => rfl
  | a :: r => by show max 0 (NestedKey.depthAll (r.map .num)) = 0; rw [num_depth r]; rfl
theorem row_depth : ∀ rows : List (List Int), NestedKey.depthAll (rows.map rowKey) ≤ 1
  | [] => Nat.zero_le _
  | r :: rows => by
    show max (NestedKey.depthAll (r.map .num) + 1) (NestedKey.depthAll (rows.map rowKey)) ≤ 1
    rw [num_depth]
    have := row_depth rows
    omega
theorem tab_depth (rows : List (List Int)) : (tabKey rows).depth ≤ 8 := by
  show NestedKey.depthAll (rows.map rowKey) + 1 ≤ 8
  have := row_depth rows
  omega
/-- the table rows stands at a, as a tuple of tuples -/
def KeyAt (H : Hp) (rows : List (List Int)) (a : Addr) : Prop := ∃ ps : List Addr, H a = some (.tup (ps.map V.ref)) ∧ ps.length = rows.length ∧ ∀ (i : Nat) p r, ps[i]? = some p → rows[i]? = some r → H p = some (.tup (r.map V.int))
theorem KeyAt.keep {H H' : Hp} {rows : List (List Int)} {a : Addr} (h : KeyAt H rows a) (k : ∀ p xs, H p = some (.tup xs) → H' p = some (.tup xs)) : KeyAt H' rows a := by
  obtain ⟨ps, h1, h2, h3⟩ := h
  exact ⟨ps, k _ _ h1, h2, fun i p r e1 e2 => k _ _ (h3 i p r e1 e2)⟩
section
variable {P : Program} {w : World} {H : Hp} {h : Heap}
theorem num_all : ∀ {r : List Int} {its : List Value}, Vals (r.map V.int) its → NestedAll h (r.map .num) its
  | [], _, q => by cases q; exact .nil
  | a :: r, _, q => by
    cases q with
    | cons q1 q2 =>
      obtain ⟨t, rfl⟩ := q1
      exact .cons (.int a t) (num_all q2)
theorem row_is (ok : HOk P w H h) {r : List Int} {p : Addr} (e : H p = some (.tup (r.map V.int))) : NestedIs h (rowKey r) (.ref p) := by
  obtain ⟨_, its, q, o, h1, h2, n, h3⟩ := (show ObjOk P w H h p (.tup (r.map V.int)) from ok p _ e)
  exact .tup h1 h2 h3 (by simpa using num_all q)
theorem rows_all (ok : HOk P w H h) : ∀ {ps : List Addr} {rows : List (List Int)} {its : List Value}, ps.length = rows.length → (∀ (i : Nat) p r, ps[i]? = some p → rows[i]? = some r → H p = some (.tup (r.map V.int))) → Vals (ps.map V.ref) its → NestedAll h (rows.map rowKey) its
  | [], [], _, _, _, q => by cases q; exact .nil
  | [], _ :: _, _, e, _, _ => by simp at e
  | _ :: _, [], _, e, _, _ => by simp at e
  | p :: ps, r :: rows, _, e, k, q => by
    cases q with
    | @cons _ u _ _ q1 q2 =>
      obtain rfl : u = Value.ref p := q1
      exact .cons (row_is ok (k 0 p r rfl rfl)) (rows_all ok (by simpa using e) (fun i p r e1 e2 => k (i + 1) p r e1 e2) q2)
theorem keyAt_is (ok : HOk P w H h) {rows : List (List Int)} {a : Addr} (k : KeyAt H rows a) : (nestedKind P w).is h (tabKey rows) a := by
  obtain ⟨ps, h1, h2, h3⟩ := k
  obtain ⟨_, its, q, o, e1, e2, n, e3⟩ := (show ObjOk P w H h a (.tup (ps.map V.ref)) from ok a _ h1)
  exact ⟨.tup e1 e2 e3 (by simpa using rows_all ok h2 h3 q), tab_depth rows⟩
end
/-- an entry: the table, where its tuple stands, the number -/
abbrev Ent := List (List Int) × Addr × Int
abbrev EntR (p : Ent) (q : NestedKey × Addr × Value) : Prop := q.1 = tabKey p.1 ∧ q.2.1 = p.2.1 ∧ ∃ t, q.2.2 = .int p.2.2 t
def NDat (P : Program) (w : World) (d : Addr) (kvs : List Ent) (h : Heap) : Prop := (d == sysModules) = false ∧ kvs.length ≤ 1000 ∧ ∃ xs : List (NestedKey × Addr × Value), Paired EntR kvs xs ∧
  ∃ o es ep, h.get? d = some o ∧ o.ExactDict ∧ o.data = .dict es ep ∧ es.toList = xs.map (entryOfKey (nestedKind P w)) ∧ (xs.map (·.1)).Nodup
/-- a dict of tables at d -/
def ND (P : Program) (w : World) (d : Addr) (kvs : List Ent) : HO := .ext (NDat P w d kvs)
theorem nd_ok {P : Program} {w : World} {H : Hp} {h : Heap} {d : Addr} {kvs : List Ent} (q : NDat P w d kvs h) : ObjOk P w H h d (ND P w d kvs) := by
  obtain ⟨z, l, xs, r, o, es, ep, e1, e2, e3, e4, e5⟩ := id q
  exact ⟨q, ⟨o, e1⟩, fun h1 h2 ⟨z, l, xs, r, o, es, ep, e1, e2, e3, e4, e5⟩ k => ⟨z, l, xs, r, o, es, ep, k o e1, e2, e3, e4, e5⟩⟩
def ndGet (kvs : List Ent) (key : List (List Int)) : Option Int := (kvs.find? fun p => decide (p.1 = key)).map (·.2.2)
def ndPut (kvs : List Ent) (key : List (List Int)) (a : Addr) (v : Int) : List Ent := if (ndGet kvs key).isSome then kvs.map (fun p => if p.1 = key then (p.1, p.2.1, v) else p) else kvs ++ [(key, a, v)]
theorem nd_get : ∀ {kvs : List Ent} {xs : List (NestedKey × Addr × Value)} (key : List (List Int)), Paired EntR kvs xs → (ndGet kvs key = none ∧ atKey xs (tabKey key) = none) ∨ ∃ i b t, ndGet kvs key = some i ∧ atKey xs (tabKey key) = some (b, .int i t)
  | [], [], key, _ => .inl ⟨rfl, rfl⟩
  | p :: kvs, q :: xs, key, .cons r rs => by
    obtain ⟨r1, r2, t, r3⟩ := r
    by_cases e : p.1 = key
    · refine .inr ⟨p.2.2, q.2.1, t, by simp [ndGet, e], ?_⟩
      have : q.1 = tabKey key := by rw [r1, e]
      simp [atKey, this, ← r3]
    · have ne : ¬ q.1 = tabKey key := fun z => e (tabKey_inj.1 (by rw [← r1, z]))
      rcases nd_get key rs with ⟨h1, h2⟩ | ⟨i, b, t, h1, h2⟩
      · exact .inl ⟨by simpa [ndGet, e] using h1, by simpa [atKey, ne] using h2⟩
      · exact .inr ⟨i, b, t, by simpa [ndGet, e] using h1, by simpa [atKey, ne] using h2⟩
theorem nd_put {kvs : List Ent} {xs : List (NestedKey × Addr × Value)} (key : List (List Int)) (a : Addr) (v : Int) (t : Tok) (r : Paired EntR kvs xs) : Paired EntR (ndPut kvs key a v) (storedH xs (tabKey key) a (.int v t)) := by
  have hm : ∀ {kvs : List Ent} {xs : List (NestedKey × Addr × Value)}, Paired EntR kvs xs → Paired EntR (kvs.map fun p => if p.1 = key then (p.1, p.2.1, v) else p) (xs.map (putAt (tabKey key) (.int v t))) := by
    intro kvs xs r
    induction r with
    | nil => exact .nil
    | @cons p q ps qs r rs ih =>
      refine .cons ?_ ih
      obtain ⟨r1, r2, t2, r3⟩ := r
      by_cases e : p.1 = key
      · have : q.1 = tabKey key := by rw [r1, e]
        show EntR (if p.1 = key then (p.1, p.2.1, v) else p) _
        rw [if_pos e]
        unfold putAt
        rw [if_pos this]
        exact ⟨r1, r2, t, rfl⟩
      · have ne : ¬ q.1 = tabKey key := fun z => e (tabKey_inj.1 (by rw [← r1, z]))
        show EntR (if p.1 = key then (p.1, p.2.1, v) else p) _
        rw [if_neg e]
        unfold putAt
        rw [if_neg ne]
        exact ⟨r1, r2, t2, r3⟩
  have hs : ∀ {kvs : List Ent} {xs : List (NestedKey × Addr × Value)}, Paired EntR kvs xs → Paired EntR (kvs ++ [(key, a, v)]) (xs ++ [(tabKey key, a, .int v t)]) := by
    intro kvs xs r
    induction r with
    | nil => exact .cons ⟨rfl, rfl, t, rfl⟩ .nil
    | cons r rs ih => exact .cons r ih
  unfold ndPut storedH
  rcases nd_get key r with ⟨h1, h2⟩ | ⟨i, b, t2, h1, h2⟩
  · rw [h1, h2]
    exact hs r
  · rw [h1, h2]
    exact hm r
theorem ndPut_len {kvs : List Ent} {key : List (List Int)} {a : Addr} {v : Int} : (ndPut kvs key a v).length ≤ kvs.length + 1 := by
  unfold ndPut
  split <;> simp
/-- all keys stand -/
def KeysAt (H : Hp) (kvs : List Ent) : Prop := ∀ p ∈ kvs, KeyAt H p.1 p.2.1
theorem KeysAt.put {H : Hp} {kvs : List Ent} {key : List (List Int)} {a : Addr} {v : Int} (h : KeysAt H kvs) (k : KeyAt H key a) : KeysAt H (ndPut kvs key a v) := by
  intro p hp
  unfold ndPut at hp
  split at hp
  · obtain ⟨q, hq, rfl⟩ := List.mem_map.1 hp
    have := h q hq
    split <;> exact this
  · rcases List.mem_append.1 hp with hp | hp
    · exact h p hp
    · rw [List.mem_singleton.1 hp]; exact k
theorem nd_keys {P : Program} {w : World} {H : Hp} {h : Heap} (ok : HOk P w H h) : ∀ {kvs : List Ent} {xs : List (NestedKey × Addr × Value)}, Paired EntR kvs xs → KeysAt H kvs → ∀ x ∈ xs, (nestedKind P w).is h x.1 x.2.1
  | [], [], _, _, x, hx => by simp at hx
  | p :: kvs, q :: xs, .cons r rs, k, x, hx => by
    rcases List.mem_cons.1 hx with rfl | hx
    · rw [r.1, r.2.1]
      exact keyAt_is ok (k p (List.mem_cons_self ..))
    · exact nd_keys ok rs (fun p hp => k p (List.mem_cons_of_mem _ hp)) x hx
/-- {}, to be a dict of tables -/
def tDNewN (P : Program) (w : World) : TE := fun _ H Q => ∀ p, H p = none → Q (.ref p) (upd H p (ND P w p []))
theorem pe_dnewN {X0 X : Cx} {pos : Pos} (l : Like X0 X) : PE X (.Dict [] [] pos) (tDNewN X0.prog X0.w) := by
  rw [← l.prog, ← l.w]
  exact ⟨fun pins s σ H Q I h => wpAny_Dict_empty ⟨.ref s.heap.objs.size, _, I.laid (a := s.heap.objs.size) (o := ND X.prog X.w s.heap.objs.size []) (t' := s.toks) (fun _ _ q => Heap.get?_push_of_some _ q) (Nat.le_refl _)
    (nd_ok ⟨beq_eq_false_iff_ne.mpr (Ne.symm (Nat.ne_of_lt I.big)), Nat.zero_le _, [], .nil, _, #[], 0, Heap.get?_push_size _ rfl, ⟨rfl, rfl, rfl⟩, rfl, rfl, List.nodup_nil⟩), rfl, h _ (I.hok.fresh (Nat.le_refl _))⟩⟩
theorem nd_at {P : Program} {w : World} {H : Hp} {h : Heap} {d : Addr} {kvs : List Ent} (ok : HOk P w H h) (e : H d = some (ND P w d kvs)) : NDat P w d kvs h := by
  have x : ObjOk P w H h d (.ext (NDat P w d kvs)) := ok d _ e
  exact x.1
/-- d.get(key, x) -/
def tDGetN (P : Program) (w : World) (td ty tx : TE) : TE := fun σ H Q => td σ H fun x H1 => ∃ a, x = .ref a ∧ (∃ kvs, H1 a = some (ND P w a kvs)) ∧ ty σ H1 fun y H2 => tx σ H2 fun z H3 => ∃ kvs key b i, H3 a = some (ND P w a kvs) ∧ KeysAt H3 kvs ∧ y = .ref b ∧ KeyAt H3 key b ∧ z = .int i ∧ Q (.int ((ndGet kvs key).getD i)) H3
theorem pe_dgetN {X0 X : Cx} {o e f : Expr} {apos cpos : Pos} {td ty tx : TE} (l : Like X0 X) (hu : X.A.units + 9 < cLine) (ho : PE X o td) (he : PE X e ty) (hf : PE X f tx) (m : M2 X o "get" apos e f cpos) : PE X (.Call (.Attribute o "get" apos) [e, f] [] cpos) (tDGetN X0.prog X0.w td ty tx) := by
  rw [← l.prog, ← l.w]
  refine ⟨fun pins s σ H Q I h => ?_⟩
  refine wpAny_Call_method m.base m.few m.line PySem.F.plainAttrs_dict PySem.F.slot_dict_get PySem.F.type_dict_get (thn (ho.run pins s σ H _ I h) fun u s1 ⟨x, H1, I1, rx, a, ex, ⟨kv0, d⟩, q1⟩ => ?_)
  subst ex
  obtain rfl : u = Value.ref a := rx
  obtain ⟨_, _, xs0, _, o0, es0, ep0, g1, g2, _, _, _⟩ := nd_at I1.hok d
  refine ⟨⟨o0, g1, g2.1⟩, fun b q => ?_, ?_⟩
  · cases q
    exact ⟨o0, g1, g2.2.1⟩
  rw [m.trees]
  refine Calls.callWith_builtin rfl (Calls.evalArgs_plain (Calls.spliced_cons (thn (he.run pins s1 σ H1 _ I1 q1) fun iv s2 ⟨y, H2, I2, ry, q2⟩ =>
    Calls.spliced_cons (thn (hf.run pins s2 σ H2 _ I2 q2) fun fv s3 ⟨z, H3, I3, rz, kvs, key, b, i, hd, hk, ey, hkey, ez, q3⟩ => Calls.spliced_nil ?_))))
  subst ey ez
  obtain rfl : iv = Value.ref b := ry
  obtain ⟨t, rfl⟩ := rz
  obtain ⟨hz, hl, xs, r, oo, es, ep, e1, e2, e3, e4, e5⟩ := nd_at I3.hok hd
  have dd : s3.heap.DictOfH (nestedKind X.prog X.w) a xs := ⟨oo, es, ep, e1, e2, e3, e4, nd_keys I3.hok r hk, e5⟩
  refine call_meetsIn PySem.F.slot_dict_get dd.typeIs PySem.F.entry_dict_get (PySem.F.args_dict_get_3 _ _ _) (meetsH_dict_get_default (nestedKind X.prog X.w) a b hz (.int i t)) ⟨?_, tabKey key, xs, keyAt_is I3.hok hkey, dd, ?_⟩
  · show X.A.in1.units + 8 < cLine
    have : X.A.in1.units = X.A.units + 1 := rfl
    omega
  · rcases nd_get key r with ⟨h1, h2⟩ | ⟨j, b2, t2, h1, h2⟩
    · rw [h1] at q3
      rw [h2]
      exact ⟨.int i, H3, I3.tok _, ⟨t, rfl⟩, q3⟩
    · rw [h1] at q3
      rw [h2]
      exact ⟨.int j, H3, I3.tok _, ⟨t2, rfl⟩, q3⟩
/-- d[key] = v -/
def rSetN (P : Program) (w : World) : TSet := fun o i v H Q => ∃ a kvs key b j, o = .ref a ∧ H a = some (ND P w a kvs) ∧ KeysAt H kvs ∧ i = .ref b ∧ KeyAt H key b ∧ v = .int j ∧ kvs.length < 1000 ∧ Q (upd H a (ND P w a (ndPut kvs key b j)))
theorem set_dictN {X0 X : Cx} (l : Like X0 X) (hu : X.A.units + 9 < cLine) : PSet X (rSetN X0.prog X0.w) := by
  rw [← l.prog, ← l.w]
  intro pins s σ H o i v ov iv u Q I ro ri rv h
  obtain ⟨a, kvs, key, b, j, rfl, hd, hk, rfl, hkey, rfl, hl, q⟩ := h
  obtain rfl : ov = Value.ref a := ro
  obtain rfl : iv = Value.ref b := ri
  obtain ⟨t, rfl⟩ := rv
  obtain ⟨hz, _, xs, r, oo, es, ep, e1, e2, e3, e4, e5⟩ := nd_at I.hok hd
  have dd : s.heap.DictOfH (nestedKind X.prog X.w) a xs := ⟨oo, es, ep, e1, e2, e3, e4, nd_keys I.hok r hk, e5⟩
  have hxl : xs.length = kvs.length := (Paired.length r).symm
  refine wpAny_setItem_heap (knd := nestedKind X.prog X.w) (k := tabKey key) ?_ (keyAt_is I.hok hkey) dd (fun h' hm' hs => ?_) (by rw [hxl]; exact Nat.le_trans (Nat.le_of_lt hl) (by decide))
  · show X.A.in1.units + 8 < cLine
    have : X.A.in1.units = X.A.units + 1 := rfl
    omega
  · obtain ⟨o2, es2, ep2, f1, f2, f3, f4, f5, f6⟩ := hm'
    have nd : NDat X.prog X.w a (ndPut kvs key b j) h' := ⟨hz, Nat.le_trans ndPut_len hl, _, nd_put key b j t r, o2, es2, ep2, f1, f2, f3, f4, f6⟩
    exact ⟨_, I.write (x := a) (e := a) (o := ND X.prog X.w a (ndPut kvs key b j)) (by rw [hd]; exact True.intro) (.inl rfl) (fun c o hc z => (hs.2 c hc).trans z) ⟨_, f1⟩ (nd_ok nd), q⟩
theorem hu9 {k : Nat} {A : Around} (hr : Room k A) : A.units + 9 < cLine := by
  have := hr.units
  omega
theorem w_dgetN {P : Program} {w : World} {td ty tx : TE} {σ : L2.St} {H : Hp} {Q : VK} (h : td σ H fun x H1 => ∃ a, x = .ref a ∧ (∃ kvs, H1 a = some (ND P w a kvs)) ∧ ty σ H1 fun y H2 => tx σ H2 fun z H3 => ∃ kvs key b i, H3 a = some (ND P w a kvs) ∧ KeysAt H3 kvs ∧ y = .ref b ∧ KeyAt H3 key b ∧ z = .int i ∧ Q (.int ((ndGet kvs key).getD i)) H3) : tDGetN P w td ty tx σ H Q := h
theorem w_dnewN {P : Program} {w : World} {σ : L2.St} {H : Hp} {Q : VK} (h : ∀ p, H p = none → Q (.ref p) (upd H p (ND P w p []))) : tDNewN P w σ H Q := h
theorem ndGet_cons (p : Ent) (kvs : List Ent) (k : List (List Int)) : ndGet (p :: kvs) k = if p.1 = k then some p.2.2 else ndGet kvs k := by
  unfold ndGet
  rw [List.find?_cons]
  by_cases e : p.1 = k
  · rw [if_pos e, decide_eq_true e]; rfl
  · rw [if_neg e, decide_eq_false e]
theorem ndGet_map (key key' : List (List Int)) (v : Int) : ∀ kvs : List Ent, ndGet (kvs.map fun p => if p.1 = key then (p.1, p.2.1, v) else p) key' = if key' = key then (ndGet kvs key).map (fun _ => v) else ndGet kvs key'
  | [] => by unfold ndGet; split <;> rfl
  | p :: kvs => by
    rw [List.map_cons, ndGet_cons, ndGet_cons, ndGet_cons, ndGet_map key key' v kvs]
    by_cases e : p.1 = key
    · rw [if_pos e, if_pos e]
      show (if p.1 = key' then some v else _) = _
      by_cases z : key' = key
      · rw [if_pos z, if_pos (by rw [e, z]), if_pos z]; rfl
      · rw [if_neg z, if_neg (by rw [e]; exact fun y => z y.symm), if_neg z]
        rw [if_neg (by rw [e]; exact fun y => z y.symm)]
    · rw [if_neg e, if_neg e]
      by_cases z : key' = key
      · rw [if_pos z, if_pos z, if_neg (by rw [z]; exact e)]
      · rw [if_neg z, if_neg z]
theorem ndGet_app (kvs ls : List Ent) (k : List (List Int)) : ndGet (kvs ++ ls) k = match ndGet kvs k with | some i => some i | none => ndGet ls k := by
  induction kvs with
  | nil => rfl
  | cons p kvs ih =>
    rw [List.cons_append, ndGet_cons, ndGet_cons, ih]
    split <;> rfl
theorem ndGet_put (kvs : List Ent) (key key' : List (List Int)) (a : Addr) (v : Int) : ndGet (ndPut kvs key a v) key' = if key' = key then some v else ndGet kvs key' := by
  unfold ndPut
  cases e : ndGet kvs key with
  | none =>
    rw [if_neg (by simp), ndGet_app, ndGet_cons]
    by_cases z : key' = key
    · rw [if_pos z, z, e, if_pos rfl]
    · rw [if_neg z, if_neg (fun y => z y.symm)]
      cases ndGet kvs key' <;> rfl
  | some i =>
    rw [if_pos (by simp), ndGet_map, e]
    rfl
end Odd

namespace Odd
open PySem PySem.Spec PyProof.Rows L2
/-! ### a sign, so many times -/
def signs (c : Nat) (n : Nat) : Str := ⟨(List.replicate n c).toArray⟩
theorem signs_len {c n : Nat} : (signs c n).length = n := by
  show (List.replicate n c).toArray.size = n
  simp
theorem fold_signs (c : Nat) : ∀ (n : Nat) (acc : Array Nat), (List.replicate n #[c]).foldl (· ++ ·) acc = acc ++ (List.replicate n c).toArray
  | 0, acc => by simp
  | n + 1, acc => by
    rw [List.replicate_succ, List.foldl_cons, fold_signs c n, List.replicate_succ]
    apply Array.ext'
    simp
def rSign : V → V → Hp → VK → Prop := fun x y H Q => ∃ (c : Nat) (n : Int), x = .str ⟨#[c]⟩ ∧ y = .int n ∧ -100000 ≤ n ∧ n ≤ 100000 ∧ Q (.str (signs c n.toNat)) H
theorem op_mulSign {X : Cx} : OpR X (binaryOp .Mult) rSign := by
  intro pins s σ H x y v u Q I rx ry h
  obtain ⟨c, n, rfl, rfl, h1, h2, q⟩ := h
  obtain ⟨t, rfl⟩ := (show ∃ t, v = Value.str ⟨#[c]⟩ t from rx)
  obtain ⟨t', rfl⟩ := (show ∃ t, u = Value.int n t from ry)
  refine P.mul_str ?_ (fun hn _ => ?_) (fun hn _ => ?_) ?_
  · rw [decide_eq_false (show ¬ n < -(2 ^ 63 : Int) by omega), decide_eq_false (show ¬ n ≥ 2 ^ 63 by omega)]
    rfl
  · show ¬ ((1 : Int) > (2 ^ 63 - 1) / n)
    have : 1 ≤ (2 ^ 63 - 1 : Int) / n := Int.le_ediv_of_mul_le (by omega) (by omega)
    omega
  · show PySem.Builtin.Str.tooLong (1 * n.toNat) = false
    unfold PySem.Builtin.Str.tooLong
    have : (100000 : Nat) ≤ sizeLine := by decide
    simp
    omega
  · by_cases hn : n < 1
    · rw [if_pos hn]
      have e : n.toNat = 0 := by omega
      rw [e] at q
      exact ⟨by decide, .str (signs c 0), H, I.tok _, ⟨_, rfl⟩, q⟩
    · rw [if_neg hn]
      by_cases h3 : (n == 1 || (⟨#[c]⟩ : Str).length == 0) = true
      · rw [if_pos h3]
        have e : n = 1 := by
          have : ((⟨#[c]⟩ : Str).length == 0) = false := rfl
          rw [this, Bool.or_false] at h3
          exact eq_of_beq h3
        subst e
        exact ⟨.str (signs c 1), H, I, ⟨t, rfl⟩, q⟩
      · rw [if_neg h3]
        have e : (⟨(List.replicate n.toNat (#[c] : Array Nat)).foldl (· ++ ·) #[]⟩ : Str) = signs c n.toNat := by
          rw [fold_signs]
          simp [signs]
        show Made.post (Made.str ⟨(List.replicate n.toNat (#[c] : Array Nat)).foldl (· ++ ·) #[]⟩) _ s
        rw [e]
        exact ⟨by rw [signs_len]; exact Nat.le_trans (show n.toNat ≤ 100000 by omega) (by decide), .str (signs c n.toNat), H, I.tok _, ⟨_, rfl⟩, q⟩
theorem s_sign {X0 : Cx} {E : XK} {H : Hp} {Q : VK} {c : Nat} {n : Int} (h1 : -100000 ≤ n) (h2 : n ≤ 100000) (q : Q (.str (signs c n.toNat)) H) : ∃ r, OpD X0 E (binaryOp .Mult) r ∧ r (.str ⟨#[c]⟩) (.int n) H Q := ⟨rSign, fun _ _ _ => op_mulSign, c, n, rfl, rfl, h1, h2, q⟩
end Odd

namespace Odd
open PySem PySem.Spec PyProof.Rows L2 Builtin Builtin.Int Builtin.Float
/-! ### fields with a specification -/
abbrev fComma : FormatSpec := { fill := 32, align := 62, width := none, grouping := some ',', type := none }
abbrev fTwo : FormatSpec := { fill := 48, align := 61, width := some 2, grouping := none, type := some 100 }
abbrev fLeft : FormatSpec := { fill := 32, align := 60, width := some 4, grouping := none, type := none }
abbrev fRight : FormatSpec := { fill := 32, align := 62, width := some 26, grouping := none, type := none }
theorem p_comma : parseFormatSpec ("," : Str).cps.toList "int" 62 = .ok fComma := by rfl
theorem p_two : parseFormatSpec ("02d" : Str).cps.toList "int" 62 = .ok fTwo := by rfl
theorem p_left : parseFormatSpec ("<4" : Str).cps.toList "int" 62 = .ok fLeft := by rfl
theorem p_right : parseFormatSpec (">26" : Str).cps.toList "int" 62 = .ok fRight := by rfl
abbrev SpecM (a : Int) (t : Tok) (spec : Str) (f : FormatSpec) : Prop := ∀ u, Meets («int.__format__» ⟨[.int a t, .str spec u], []⟩) (fun _ R s => ∀ t' k, R (.ok (.ret (.str (intSpecText f a) t'))) { s with toks := k })
theorem m_comma {a : Int} {t : Tok} (hd : a.natAbs.log2 < 1920) (hlen : (intSpecText fComma a).length ≤ sizeLine) : SpecM a t "," fComma := fun u => .of_wp fun prog w A R s h => by
  unfold «int.__format__» selfAndOne noKeywords Int.intOfSelf
  simp only [asInt?, asStr?, List.isEmpty_nil, if_true, pure_bind, if_false, Bool.false_eq_true, show (Value.str ("," : Str) u == Value.none) = false from rfl, show ((("," : Str).length == 0)) = false from rfl,
    show (((("," : Str).cps.toList.drop 1).any (· ≥ 128)) || (decide (("," : Str).cps.getD 0 0 ≥ 128) && !([60, 62, 61, 94] : List Nat).contains (("," : Str).cps.getD 1 0))) = false from rfl]
  refine wpAny_bind (wpAny_typeNameOf (T := "str") (typeIs_str _ _ _) (by decide) fun _ => ?_)
  refine wpAny_bind (wpAny_typeNameOfCut_int ?_)
  rw [p_comma]
  show wpAny _ _ (Builtin.overDigitLimit? a >>= _) _ _ s
  rw [PySem.overDigitLimit_small hd]
  refine wpAny_bind (wpAny_pure ?_)
  show wpAny _ _ (retStr _) _ _ s
  have key : ∀ X : Str, X = intSpecText fComma a → wpAny (model prog w) A.in1 (retStr X) (fun fin s' => ∃ v, fin = Fin.done (Flow.ret v) ∧ R (Except.ok (Flow.ret v)) s') (fun e s' => R (Except.error e) s') s := fun X e => by
    subst e
    unfold retStr
    exact wpAny_bind (wpAny_mkStr (wpAny_pure ⟨_, rfl, h _ _⟩) hlen)
  refine key _ ?_
  first | rfl | kernel_rfl | (show _ = intField' _ _ _ _ _ _; rfl)
theorem m_two {a : Int} {t : Tok} (hd : a.natAbs.log2 < 1920) (hlen : (intSpecText fTwo a).length ≤ sizeLine) : SpecM a t "02d" fTwo := fun u => .of_wp fun prog w A R s h => by
  unfold «int.__format__» selfAndOne noKeywords Int.intOfSelf
  simp only [asInt?, asStr?, List.isEmpty_nil, if_true, pure_bind, if_false, Bool.false_eq_true, show (Value.str ("02d" : Str) u == Value.none) = false from rfl, show ((("02d" : Str).length == 0)) = false from rfl,
    show (((("02d" : Str).cps.toList.drop 1).any (· ≥ 128)) || (decide (("02d" : Str).cps.getD 0 0 ≥ 128) && !([60, 62, 61, 94] : List Nat).contains (("02d" : Str).cps.getD 1 0))) = false from rfl]
  refine wpAny_bind (wpAny_typeNameOf (T := "str") (typeIs_str _ _ _) (by decide) fun _ => ?_)
  refine wpAny_bind (wpAny_typeNameOfCut_int ?_)
  rw [p_two]
  show wpAny _ _ (Builtin.overDigitLimit? a >>= _) _ _ s
  rw [PySem.overDigitLimit_small hd]
  refine wpAny_bind (wpAny_pure ?_)
  show wpAny _ _ (retStr _) _ _ s
  have key : ∀ X : Str, X = intSpecText fTwo a → wpAny (model prog w) A.in1 (retStr X) (fun fin s' => ∃ v, fin = Fin.done (Flow.ret v) ∧ R (Except.ok (Flow.ret v)) s') (fun e s' => R (Except.error e) s') s := fun X e => by
    subst e
    unfold retStr
    exact wpAny_bind (wpAny_mkStr (wpAny_pure ⟨_, rfl, h _ _⟩) hlen)
  refine key _ ?_
  first | rfl | kernel_rfl | (show _ = intField' _ _ _ _ _ _; rfl)
theorem m_left {a : Int} {t : Tok} (hd : a.natAbs.log2 < 1920) (hlen : (intSpecText fLeft a).length ≤ sizeLine) : SpecM a t "<4" fLeft := fun u => .of_wp fun prog w A R s h => by
  unfold «int.__format__» selfAndOne noKeywords Int.intOfSelf
  simp only [asInt?, asStr?, List.isEmpty_nil, if_true, pure_bind, if_false, Bool.false_eq_true, show (Value.str ("<4" : Str) u == Value.none) = false from rfl, show ((("<4" : Str).length == 0)) = false from rfl,
    show (((("<4" : Str).cps.toList.drop 1).any (· ≥ 128)) || (decide (("<4" : Str).cps.getD 0 0 ≥ 128) && !([60, 62, 61, 94] : List Nat).contains (("<4" : Str).cps.getD 1 0))) = false from rfl]
  refine wpAny_bind (wpAny_typeNameOf (T := "str") (typeIs_str _ _ _) (by decide) fun _ => ?_)
  refine wpAny_bind (wpAny_typeNameOfCut_int ?_)
  rw [p_left]
  show wpAny _ _ (Builtin.overDigitLimit? a >>= _) _ _ s
  rw [PySem.overDigitLimit_small hd]
  refine wpAny_bind (wpAny_pure ?_)
  show wpAny _ _ (retStr _) _ _ s
  have key : ∀ X : Str, X = intSpecText fLeft a → wpAny (model prog w) A.in1 (retStr X) (fun fin s' => ∃ v, fin = Fin.done (Flow.ret v) ∧ R (Except.ok (Flow.ret v)) s') (fun e s' => R (Except.error e) s') s := fun X e => by
    subst e
    unfold retStr
    exact wpAny_bind (wpAny_mkStr (wpAny_pure ⟨_, rfl, h _ _⟩) hlen)
  refine key _ ?_
  first | rfl | kernel_rfl | (show _ = intField' _ _ _ _ _ _; rfl)
theorem m_right {a : Int} {t : Tok} (hd : a.natAbs.log2 < 1920) (hlen : (intSpecText fRight a).length ≤ sizeLine) : SpecM a t ">26" fRight := fun u => .of_wp fun prog w A R s h => by
  unfold «int.__format__» selfAndOne noKeywords Int.intOfSelf
  simp only [asInt?, asStr?, List.isEmpty_nil, if_true, pure_bind, if_false, Bool.false_eq_true, show (Value.str (">26" : Str) u == Value.none) = false from rfl, show (((">26" : Str).length == 0)) = false from rfl,
    show ((((">26" : Str).cps.toList.drop 1).any (· ≥ 128)) || (decide ((">26" : Str).cps.getD 0 0 ≥ 128) && !([60, 62, 61, 94] : List Nat).contains ((">26" : Str).cps.getD 1 0))) = false from rfl]
  refine wpAny_bind (wpAny_typeNameOf (T := "str") (typeIs_str _ _ _) (by decide) fun _ => ?_)
  refine wpAny_bind (wpAny_typeNameOfCut_int ?_)
  rw [p_right]
  show wpAny _ _ (Builtin.overDigitLimit? a >>= _) _ _ s
  rw [PySem.overDigitLimit_small hd]
  refine wpAny_bind (wpAny_pure ?_)
  show wpAny _ _ (retStr _) _ _ s
  have key : ∀ X : Str, X = intSpecText fRight a → wpAny (model prog w) A.in1 (retStr X) (fun fin s' => ∃ v, fin = Fin.done (Flow.ret v) ∧ R (Except.ok (Flow.ret v)) s') (fun e s' => R (Except.error e) s') s := fun X e => by
    subst e
    unfold retStr
    exact wpAny_bind (wpAny_mkStr (wpAny_pure ⟨_, rfl, h _ _⟩) hlen)
  refine key _ ?_
  first | rfl | kernel_rfl | (show _ = intField' _ _ _ _ _ _; rfl)
/-- a text, filled up with blanks on the left -/
theorem m_strR {x : Str} {t u : Tok} (hlen : x.length < 26) : Meets («str.__format__» ⟨[.str x t, .str ">26" u], []⟩) (fun _ R s => ∀ t' k, R (.ok (.ret (.str (signs 32 (26 - x.length) ++ x) t'))) { s with toks := k }) := .of_wp fun prog w A R s h => by
  unfold «str.__format__» Str.strOneArg selfAndOne noKeywords Str.textOf
  simp only [asStr?, List.isEmpty_nil, if_true, pure_bind, if_false, Bool.false_eq_true, show (((">26" : Str).length == 0)) = false from rfl,
    show ((((">26" : Str).cps.toList.drop 1).any (· ≥ 128)) || (decide ((">26" : Str).cps.getD 0 0 ≥ 128) && !([60, 62, 61, 94] : List Nat).contains ((">26" : Str).cps.getD 1 0))) = false from rfl]
  refine wpAny_bind (PySem.W.KXf.cut_str ?_)
  rw [show parseFormatSpec (">26" : Str).cps.toList "str" 60 = .ok fRight from rfl]
  have e : Str.strField x fRight "str" = .ok (some (signs 32 (26 - x.length) ++ x)) := by
    have sub : Str.strSub x 0 x.length = x := by
      show (⟨x.cps.extract 0 x.cps.size⟩ : Str) = x
      rw [Array.extract_size]
    have h1 : Str.strField x fRight "str" = (if decide (26 ≤ x.length) = true then pure none else pure (some (Str.padded (Str.strSub x 0 x.length) (26 - (Str.strSub x 0 x.length).length) (26 - (Str.strSub x 0 x.length).length - (26 - (Str.strSub x 0 x.length).length)) 32))) := by
      unfold Str.strField
      simp only [Option.isSome_none, Option.all_some, Option.all_none, Bool.and_true]
      rfl
    rw [h1, sub, decide_eq_false (by omega), if_neg Bool.false_ne_true]
    show Except.ok (some _) = _
    congr 2
    unfold Str.padded signs
    rw [Nat.sub_self]
    show (⟨_⟩ : Str) = ⟨_⟩
    congr 1
  try simp only [show (fRight.type.isNone && (">26" : Str).cps.back? == some 0) = false from rfl, Bool.false_eq_true, if_false]
  show wpAny _ _ (match (do let r ← Str.strField x fRight "str"; pure (some r) : Except String (Option (Option Str))) with | .error _ => _ | .ok none => _ | .ok (some none) => _ | .ok (some (some text)) => retStr text) _ _ s
  rw [e]
  show wpAny _ _ (retStr (signs 32 (26 - x.length) ++ x)) _ _ s
  unfold retStr
  refine wpAny_bind (wpAny_mkStr (wpAny_pure ⟨_, rfl, h _ _⟩) ?_)
  show ((signs 32 (26 - x.length)).cps ++ x.cps).size ≤ sizeLine
  rw [Array.size_append]
  have h1 : (signs 32 (26 - x.length)).cps.size = 26 - x.length := signs_len
  have h2 : x.cps.size = x.length := rfl
  exact Nat.le_trans (show _ ≤ 26 by omega) (by decide)
/-- 'mark' is four signs long -/
theorem m_mark {t u : Tok} : Meets («str.__format__» ⟨[.str "mark" t, .str "<4" u], []⟩) (fun _ R s => ∀ t' k, R (.ok (.ret (.str "mark" t'))) { s with toks := k }) := .of_wp fun prog w A R s h => by
  unfold «str.__format__» Str.strOneArg selfAndOne noKeywords Str.textOf
  simp only [asStr?, List.isEmpty_nil, if_true, pure_bind, if_false, Bool.false_eq_true, show ((("<4" : Str).length == 0)) = false from rfl,
    show (((("<4" : Str).cps.toList.drop 1).any (· ≥ 128)) || (decide (("<4" : Str).cps.getD 0 0 ≥ 128) && !([60, 62, 61, 94] : List Nat).contains (("<4" : Str).cps.getD 1 0))) = false from rfl]
  refine wpAny_bind (PySem.W.KXf.cut_str ?_)
  rw [show parseFormatSpec ("<4" : Str).cps.toList "str" 60 = .ok fLeft from rfl]
  show wpAny _ _ (do rule "str.__format__.unchanged"; ret (.str "mark" t)) _ _ s
  exact wpAny_bind (wpAny_rule (wpAny_pure ⟨_, rfl, h t s.toks⟩))
def FmtI (sp : Str) (f : FormatSpec) : Prop := (sp = "," ∧ f = fComma) ∨ (sp = "02d" ∧ f = fTwo) ∨ (sp = "<4" ∧ f = fLeft) ∨ (sp = ">26" ∧ f = fRight)
def FmtT (sp y z : Str) : Prop := (sp = ">26" ∧ y.length < 26 ∧ z = signs 32 (26 - y.length) ++ y) ∨ (sp = "<4" ∧ y = "mark" ∧ z = "mark")
/-- {e:sp} -/
def tFmtS (sp : Str) (te : TE) : TE := fun σ H Q => te σ H fun x H1 => (∃ i f, x = .int i ∧ i.natAbs.log2 < 1920 ∧ FmtI sp f ∧ (intSpecText f i).length ≤ sizeLine ∧ Q (.str (intSpecText f i)) H1) ∨ ∃ y z, x = .str y ∧ FmtT sp y z ∧ Q (.str z) H1
theorem pe_fmtS {X : Cx} {e : Expr} {te : TE} {sp : Str} {j : Nat} {p1 p2 pos : Pos} (he : PE X e te) : PE X (.FormattedValue e (-1) (some (.JoinedStr [.Constant (.str sp) j p1] p2)) pos) (tFmtS sp te) := by
  refine ⟨fun pins s σ H Q I h => ?_⟩
  refine wpAny_FormattedValue_spec (thn (he.run pins s σ H _ I h) fun v s1 ⟨x, H1, I1, r1, q⟩ => ?_)
  have hs : PE X (.JoinedStr [.Constant (.str sp) j p1] p2) (tC (.str sp)) := pe_joined1 pe_str
  refine thn (hs.run pins s1 σ H1 (fun y H2 => y = V.str sp ∧ H2 = H1) I1 ⟨rfl, rfl⟩) fun r s2 ⟨y, H2, I2, r2, ey, eH⟩ => ?_
  subst ey eH
  obtain ⟨t2, rfl⟩ := r2
  refine ⟨sp, t2, rfl, ?_⟩
  rcases q with ⟨i, f, rfl, hd, hf, hl, q⟩ | ⟨y, z, rfl, hf, q⟩
  · obtain ⟨t, rfl⟩ := r1
    have fin : ∀ t' k, EP X pins σ Q (.str (intSpecText f i) t') { s2 with toks := k } := fun t' k => ⟨.str (intSpecText f i), H2, I2.tok _, ⟨t', rfl⟩, q⟩
    rcases hf with ⟨rfl, rfl⟩ | ⟨rfl, rfl⟩ | ⟨rfl, rfl⟩ | ⟨rfl, rfl⟩
    · exact PySem.W.KXf.field_int rfl rfl (by decide) (m_comma hd hl) fin
    · exact PySem.W.KXf.field_int rfl rfl (by decide) (m_two hd hl) fin
    · exact PySem.W.KXf.field_int rfl rfl (by decide) (m_left hd hl) fin
    · exact PySem.W.KXf.field_int rfl rfl (by decide) (m_right hd hl) fin
  · obtain ⟨t, rfl⟩ := r1
    have fin : ∀ t' k, EP X pins σ Q (.str z t') { s2 with toks := k } := fun t' k => ⟨.str z, H2, I2.tok _, ⟨t', rfl⟩, q⟩
    rcases hf with ⟨rfl, hy, rfl⟩ | ⟨rfl, rfl, rfl⟩
    · exact PySem.W.KXf.field_str rfl rfl rfl (by decide) (fun u => m_strR hy) fin
    · exact PySem.W.KXf.field_str rfl rfl rfl (by decide) (fun u => m_mark) fin
theorem w_fmtS {sp : Str} {te : TE} {σ : L2.St} {H : Hp} {Q : VK} (h : te σ H fun x H1 => (∃ i f, x = .int i ∧ i.natAbs.log2 < 1920 ∧ FmtI sp f ∧ (intSpecText f i).length ≤ sizeLine ∧ Q (.str (intSpecText f i)) H1) ∨ ∃ y z, x = .str y ∧ FmtT sp y z ∧ Q (.str z) H1) : tFmtS sp te σ H Q := h
theorem w_fmt {te : TE} {σ : L2.St} {H : Hp} {Q : VK} (h : te σ H fun x H1 => (∃ y : Str, x = .str y ∧ y.length ≤ sizeLine ∧ Q (.str y) H1) ∨ ∃ i : Int, x = .int i ∧ i.natAbs.log2 < 1920 ∧ Q (.str (toString i)) H1) : tFmt te σ H Q := h
theorem w_js {t : TE} {ts : List TE} {acc : Str} {σ : L2.St} {H : Hp} {Q : Str → Hp → Prop} (h : t σ H fun x H1 => ∃ y : Str, x = .str y ∧ (acc ++ y).length ≤ sizeLine ∧ tJs ts (acc ++ y) σ H1 Q) : tJs (t :: ts) acc σ H Q := h
theorem w_js0 {acc : Str} {σ : L2.St} {H : Hp} {Q : Str → Hp → Prop} (h : Q acc H) : tJs [] acc σ H Q := h
end Odd

namespace Odd
open PySem PySem.Spec PyProof.Rows L2
/-! ### text.lstrip(a).replace(b, c): the tokens of the written texts are known to differ -/
section
variable {X : Cx} {o e : Expr} {to te : TE}
def PE1 (X : Cx) (e : Expr) (te : TE) : Prop := ∀ (pins : List (Addr × Obj)) (s : Shared) (σ : L2.St) (H : Hp) (Q : VK), Inv X pins σ H s → te σ H Q → wpAny (model X.prog X.w) X.A (eval e X.env) (fun v s1 => 1 ≤ s1.toks ∧ EP X pins σ Q v s1) X.xe s
theorem PE1.pe (h : PE1 X e te) : PE X e te := ⟨fun pins s σ H Q I q => thn (h pins s σ H Q I q) fun _ _ z => z.2⟩
theorem pe1_m1 {id : String} {name c : Str} {j : Nat} {cp apos pos : Pos} {r : V → List V → Hp → VK → Prop} (slot : Slot "str" name id) (ty : typeOf (.builtin id) = pure (.type "method_descriptor")) (rule : MtR X id r) (ho : PE X o to)
    (hs : starEach [.Constant (.str c) j cp] X.env = [(false, eval (.Constant (.str c) j cp) X.env)] := by rfl) (hbase : attributeBase o name X.env (eval o X.env) = eval o X.env := by rfl) (hline : (apos.endLine == pos.line) = true := by rfl) :
    PE1 X (.Call (.Attribute o name apos) [.Constant (.str c) j cp] [] pos) (tM1 r to (tC (.str c))) := by
  intro pins s σ H Q I h
  refine PySem.Call_method1 hbase hs hline (thn (ho.run pins s σ H _ I h) fun v s1 ⟨x, H1, I1, r1, q1⟩ => ?_)
  obtain ⟨⟨a, rfl⟩, q1⟩ := q1
  obtain ⟨t, rfl⟩ := _root_.id r1
  refine ⟨"str", _, F.plainAttrs_str, slot, ty, typeIs_str _ _ _, (fun _ e => nomatch e), Calls.callWith_builtin rfl (Calls.evalArgs_plain (Calls.spliced_cons (Calls.Constant_str (Calls.spliced_nil ?_))))⟩
  have rr := rule pins { s1 with toks := s1.toks + 1 } σ H1 _ [V.str c] _ [Value.str c s1.toks] Q (I1.tok _) r1 (.cons ⟨_, rfl⟩ .nil) q1
  refine wpAny_mono (PySem.wpAny_toks rr) (fun _ s2 q => ⟨?_, q.2⟩) fun _ _ z => z.2
  have hk : s1.toks + 1 ≤ s2.toks := q.1
  omega
def tRepc (y z : Str) (to : TE) : TE := fun σ H Q => to σ H fun x H1 => ∃ a : Str, x = .str a ∧ a.length + (a.length + 1) * z.length ≤ 16777216 ∧ Q (.str (Txt.replace a y z)) H1
theorem pe1_rep {y z : Str} {j0 j1 : Nat} {c0 c1 apos pos : Pos} (ho : PE1 X o to) (hyz : (y == z) = false)
    (hst : starEach [.Constant (.str y) j0 c0, .Constant (.str z) j1 c1] X.env = [(false, eval (.Constant (.str y) j0 c0) X.env), (false, eval (.Constant (.str z) j1 c1) X.env)] := by rfl)
    (hbase : attributeBase o "replace" X.env (eval o X.env) = eval o X.env := by rfl) (hline : (apos.endLine == pos.line) = true := by rfl) :
    PE1 X (.Call (.Attribute o "replace" apos) [.Constant (.str y) j0 c0, .Constant (.str z) j1 c1] [] pos) (tRepc y z to) := by
  intro pins s σ H Q I h
  refine PySem.Call_method2 hbase hst hline (thn (ho pins s σ H _ I h) fun v s1 ⟨h1, x, H1, I1, r1, q1⟩ => ?_)
  obtain ⟨a, rfl, hb, q⟩ := q1
  obtain ⟨tx, rfl⟩ := _root_.id r1
  refine ⟨"str", _, F.plainAttrs_str, F.slot_str_replace, F.type_str_replace, typeIs_str _ _ _, (fun _ e => nomatch e), Calls.callWith_builtin rfl (Calls.evalArgs_plain (Calls.spliced_cons (Calls.Constant_str (Calls.spliced_cons (Calls.Constant_str (Calls.spliced_nil ?_))))))⟩
  have rr : wpAny (model X.prog X.w) X.A (call (.builtin "str.replace") [.str a tx, .str y s1.toks, .str z (s1.toks + 1)]) (EP X pins σ Q) X.xe { s1 with toks := s1.toks + 1 + 1 } :=
    PySem.SC.replace (show s1.toks ≠ 0 by omega) (show s1.toks + 1 ≠ 0 by omega) (show s1.toks ≠ s1.toks + 1 by omega) hyz hb fun t' k => ⟨.str (Txt.replace a y z), H1, I1.tok k, ⟨t', rfl⟩, q⟩
  refine wpAny_mono (PySem.wpAny_toks rr) (fun _ s2 q => ⟨?_, q.2⟩) fun _ _ z => z.2
  have hk : s1.toks + 1 + 1 ≤ s2.toks := q.1
  omega
theorem w_repc {y z : Str} {to : TE} {σ : L2.St} {H : Hp} {Q : VK} (h : to σ H fun x H1 => ∃ a : Str, x = .str a ∧ a.length + (a.length + 1) * z.length ≤ 16777216 ∧ Q (.str (Txt.replace a y z)) H1) : tRepc y z to σ H Q := h
end
/-! ### what they give -/
theorem filt_free {c : Nat} {p : List Nat} (h : c ∉ p) : (p.filter fun k => decide (k ≠ c)) = p :=
  List.filter_eq_self.2 fun k hk => decide_eq_true (by intro e; subst e; exact h hk)
theorem joinL_filter (c : Nat) : ∀ ps : List (List Nat), (∀ p ∈ ps, c ∉ p) → TL.joinL [] ps = (TL.joinL [c] ps).filter fun k => decide (k ≠ c)
  | [], _ => rfl
  | [p], h => by
    show p = p.filter _
    rw [filt_free (h p (List.mem_singleton_self _))]
  | p :: q :: r, h => by
    have ih := joinL_filter c (q :: r) fun z hz => h z (List.mem_cons_of_mem _ hz)
    show p ++ ([] ++ TL.joinL [] (q :: r)) = (p ++ ([c] ++ TL.joinL [c] (q :: r))).filter _
    rw [ih, List.filter_append, List.filter_append, filt_free (h p (List.mem_cons_self ..))]
    simp
theorem tl_repl (x : Str) (c : Nat) : TL.tl (Txt.replace x ⟨#[c]⟩ "") = (TL.tl x).filter fun k => decide (k ≠ c) := by
  rw [StrLaws.replace_one, TL.tl_join, show TL.tl ("" : Str) = [] from rfl, joinL_filter c _ (fun p hp => by
    obtain ⟨z, hz, rfl⟩ := List.mem_map.1 hp
    exact StrLaws.split_free x c z hz)]
  have e : TL.tl (Str.join ⟨#[c]⟩ (Txt.split x ⟨#[c]⟩)) = TL.tl x := by rw [StrLaws.join_split]
  rw [TL.tl_join] at e
  rw [show TL.joinL [c] ((Txt.split x ⟨#[c]⟩).map TL.tl) = TL.tl x from e]
theorem tl_lstrip (x y : Str) : TL.tl (Txt.lstripChars x y) = (TL.tl x).drop ((TL.tl x).takeWhile y.cps.contains).length := by
  unfold Txt.lstripChars Txt.stripBy
  split
  · rename_i h
    unfold PySem.stripSame at h
    rw [Bool.and_eq_true] at h
    have h0 : PySem.stripLo y.cps.contains true x = 0 := by simpa using h.1
    have h1 : ((TL.tl x).takeWhile y.cps.contains).length = 0 := h0
    rw [h1]
    rfl
  · unfold PySem.stripped
    exact TL.tl_strSub_end x _
theorem tl_signs (c n : Nat) : TL.tl (signs c n) = List.replicate n c := rfl
theorem tl_cutFrom (z : Str) (k : Nat) : TL.tl (cutS z (some (k : Int)) none) = (TL.tl z).drop k := by
  unfold cutS
  rw [TL.tl_mk]
  show ((TL.tl z).drop (HT.sIx z.length 0 (some (k : Int)))).take (z.length - HT.sIx z.length 0 (some (k : Int))) = _
  rw [HT.sIx_nat, List.take_of_length_le (by rw [List.length_drop, ← TL.len_tl]; exact Nat.le_refl _)]
  have h2 := TL.len_tl z
  by_cases h : k ≤ z.length
  · rw [Nat.min_eq_left h]
  · rw [Nat.min_eq_right (by omega), List.drop_of_length_le (by omega), List.drop_of_length_le (by omega)]
/-- the signs of a number, three more digits -/
theorem numL_step3 {n : Nat} (h : 1000 ≤ n) : TL.numL n = TL.numL (n / 1000) ++ [48 + n / 100 % 10, 48 + n / 10 % 10, 48 + n % 10] := by
  rw [TL.numL_step (show 10 ≤ n by omega), TL.numL_step (show 10 ≤ n / 10 by omega), TL.numL_step (show 10 ≤ n / 10 / 10 by omega), Nat.div_div_eq_div_mul, Nat.div_div_eq_div_mul, Nat.div_div_eq_div_mul]
  simp
theorem digitsVal_snoc (l : List Nat) (c : Nat) : NumText.digitsVal (l ++ [c]) = NumText.digitsVal l * 10 + (c - 48) := by
  unfold NumText.digitsVal
  rw [List.foldl_append]
  rfl
end Odd

namespace Odd
open PySem PySem.Spec PyProof.Rows L2
section
variable {tb : TS} {D : Ends} {σ : L2.St} {H : Hp} {ta : TA} {g : TG}
/-- for i in range(a, a + n) -/
theorem f_rng2 {a n : Nat} (Pv : Nat → L2.St → Hp → Prop) (ht : ∀ R : List V → Hp → Prop, R [.int a, .int ((a + n : Nat) : Int)] H → ta σ H R) (hn : a + n < 100000) (h0 : Pv 0 σ H)
    (hs : ∀ i σ H, i < n → Pv i σ H → g (.int ((a + i : Nat) : Int)) σ H fun σ2 H2 => tb { D with nx := Pv (i + 1), ct := Pv (i + 1), bk := D.nx } σ2 H2) (hd : ∀ σ H, Pv n σ H → D.nx σ H) : tFor (iRng2 ta) g tb D σ H :=
  ht _ ⟨(a : Int), ((a + n : Nat) : Int), rfl, by omega, by
    rw [show (((a + n : Nat) : Int) - (a : Int)).toNat = n by omega]
    exact for_range Pv h0 (fun k σ H hk p => by rw [← Int.natCast_add]; exact hs k σ H hk p) hd⟩
end
theorem kwd_one {K : PySem.W.Frag} {D : Addr} {x : Str} {i : Int} {tk : Tok} (h : PySem.W.nsIn K D x = some (some (.int i tk))) : ∀ q ∈ [(x, V.int i)], ∃ u, PySem.W.nsIn K D q.1 = some (some u) ∧ RelV q.2 u := fun q hq => by
  cases List.mem_singleton.1 hq
  exact ⟨_, h, ⟨_, rfl⟩⟩
/-- the seats of every set, and the set without one of them -/
theorem bits_at : ∀ m < 256, bitSeats m ∈ ascs 8 0 ∧ bitSum (bitSeats m) = m := by decide +kernel
theorem bits_less : ∀ m < 256, ∀ s ∈ bitSeats m, s < 8 ∧ 2 ^ s ≤ m ∧ bitSeats (m - 2 ^ s) = (bitSeats m).erase s := by decide +kernel
theorem bits_ne : ∀ m < 256, 0 < m → bitSeats m ≠ [] := by decide +kernel
theorem bits_full : ∀ n ≤ 8, bitSeats (2 ^ n - 1) = List.range n := by decide +kernel
theorem bits_len : ∀ m < 256, (bitSeats m).length ≤ 8 := by decide +kernel
theorem bits_add : ∀ k < 8, ∀ m < 2 ^ k, bitSeats (m + 2 ^ k) = bitSeats m ++ [k] := by decide +kernel
theorem bits_lt : ∀ k ≤ 8, ∀ m < 2 ^ k, ∀ s ∈ bitSeats m, s < k := by decide +kernel
theorem bits_nodup : ∀ m < 256, (bitSeats m).Nodup := by decide +kernel
theorem bits_zero : bitSeats 0 = [] := by decide +kernel
end Odd

namespace Odd
open PySem PySem.Spec PyProof.Rows L2
/-! ### what never runs -/
theorem pe_never {X : Cx} {e : Expr} : PE X e (fun _ _ _ => False) := ⟨fun _ _ _ _ _ _ h => h.elim⟩
/-! ### isinstance(e, c) of the error at hand -/
def tIsE (X0 : Cx) (a : Addr) (cls : Value) (d : Option Addr) (x : Str) (t : TA) : TE := fun σ H Q => X0.mg x = none ∧ ∃ D : Addr, cls = .ref D ∧ d = none ∧ L2.ExcC X0.K D ∧ t σ H fun vs H1 => rIsE X0.K D a vs H1 Q
theorem pe_isE {X0 Y : Cx} {x : Str} {a : Addr} {oe : Obj} {cls : Value} {d : Option Addr} {e : Expr} {es : List Expr} {t : TA} {p pos : Pos} (l : Like X0 Y) (hz : Zc cls d oe) (hf : ∃ vs, oe.data = .fields vs) (hY : ∃ (X : Cx) (pn : List (Addr × Obj)), Y = X.suite a ((a, oe) :: pn))
    (hg : Gl Y x) (hv : bootBuiltins x = some (.builtin "isinstance")) (ha : PA Y (e :: es) t) (hn : x ≠ "__name__" := by decide) (hdb : (x == ("__debug__" : Str)) = false := by decide)
    (he : starEach (e :: es) Y.env = (false, eval e Y.env) :: starEach es Y.env := by rfl) (hpl : (backTo pos (starEach es Y.env)).any (·.1) = false := by rfl) : PE Y (.Call (.Name x p) (e :: es) [] pos) (tIsE X0 a cls d x t) := by
  obtain ⟨X, pn, rfl⟩ := hY
  refine ⟨fun pins s σ H Q I hq => ?_⟩
  obtain ⟨hm, D, rfl, rfl, C, h⟩ := hq
  rw [← l.mg] at hm
  rw [← l.K] at C h
  have z := (pe_callB (X := X.suite a ((a, oe) :: pn)) (p := p) (pos := pos) (call_isE (X := X) C hz hf) hg hm hv ha hn hdb he hpl).run pins s σ H Q I h
  exact z
theorem w_isE {X0 : Cx} {a : Addr} {cls : Value} {d : Option Addr} {x : Str} {t : TA} {σ : L2.St} {H : Hp} {Q : VK} (h : X0.mg x = none ∧ ∃ D : Addr, cls = .ref D ∧ d = none ∧ L2.ExcC X0.K D ∧ t σ H fun vs H1 => rIsE X0.K D a vs H1 Q) : tIsE X0 a cls d x t σ H Q := h
/-- an own error, an own class or a built-in one -/
theorem kit_exc {K : PySem.W.Frag} {C D : Addr} {b : Bool} (hd : PySem.W.hasDictIn K C = true) (h1 : PySem.W.typeIn K (.ref C) = some (.type "type")) (h2 : PySem.W.subIn K (.ref D) (.ref C) = some b) (hb : D ≠ C ∨ b = true) : PySem.W.kitOne K (.ref D) (.ref C) = some b := by
  have hc : (PySem.W.clsIn K C).isSome = true := by
    obtain ⟨cd, hc, _⟩ := PySem.W.any_some hd
    rw [hc]
    rfl
  unfold PySem.W.kitOne PySem.W.kitCls
  by_cases e : ((Value.ref D) == (.ref C)) = true
  · rw [if_pos e]
    rcases hb with z | z
    · exact absurd (Value.ref.inj (beq_iff_eq.mp e)) z
    · rw [z]
  · rw [if_neg e]
    show (if ((PySem.W.clsIn K C).isSome && PySem.W.typeIn K (.ref C) == some (.type "type")) = true then PySem.W.subIn K (.ref D) (.ref C) else none) = some b
    rw [hc, h1]
    exact h2
theorem sub_ne {K : PySem.W.Frag} {C D : Addr} (h1 : PySem.W.subIn K (.ref C) (.ref C) = some true) (h2 : PySem.W.subIn K (.ref D) (.ref C) = some false) : D ≠ C := fun e => by
  rw [e, h1] at h2
  cases h2
theorem kit_val {K : PySem.W.Frag} {D : Addr} (h2 : PySem.W.subIn K (.ref D) (.type "ValueError") = some true) : PySem.W.kitOne K (.ref D) (.type "ValueError") = some true := by
  unfold PySem.W.kitOne PySem.W.kitCls
  rw [if_neg (by simp)]
  show (if PySem.W.kitMeta "ValueError" = true then PySem.W.subIn K (.ref D) (.type "ValueError") else none) = some true
  rw [if_pos (by decide +kernel)]
  exact h2
/-! ### l.count(b) of a list of truth values -/
def rCntB (K : PySem.W.Frag) : V → List V → Hp → VK → Prop := fun x xs H Q => ∃ (p : Addr) (bs : List Bool) (k : Bool), x = .ref p ∧ xs = [.bl k] ∧ SqL K H p (bs.map V.bl) ∧ Q (.int (bs.count k : Nat)) H
theorem bools_are : ∀ {bs : List Bool} {its : List Value}, Vals (bs.map V.bl) its → its = bs.map Value.bool
  | [], _, h => by cases h; rfl
  | b :: bs, _, h => by
    cases h with
    | cons r rv =>
      cases r
      rw [bools_are rv]
      rfl
theorem bools_count (k : Bool) : ∀ bs : List Bool, (bs.map Value.bool).countP (isBoolOf k) = bs.count k
  | [] => rfl
  | b :: bs => by
    rw [List.map_cons, List.countP_cons, List.count_cons, bools_count k bs]
    rfl
theorem mt_lcountB {X : Cx} : MtR X "list.count" (rCntB X.K) := by
  intro pins s σ H x xs v us Q I rx rxs h
  obtain ⟨p, bs, k, rfl, rfl, hs, q⟩ := h
  cases rx
  obtain ⟨u, rfl, ru⟩ := rxs.one
  cases ru
  obtain ⟨its, rv, ⟨⟨cls, dd, data, sl⟩, n, ho, hc, hdn, hd⟩, hlen⟩ := I.list hs
  simp only at hc hd
  subst hc hd
  have hi := bools_are rv
  subst hi
  refine call_meets PySem.F.slot_list_count ⟨_, ho, rfl⟩ PySem.F.entry_list_count (PySem.F.args_list_count_2 _ _)
    (SeqAt.list_countAt p (bs.map Value.bool).toArray n dd sl (.bool k) (isBoolOf k)) ⟨ho, fun y hy => ?_, ?_⟩
  · have hy : y ∈ bs.map Value.bool := by simpa using hy
    obtain ⟨b, _, rfl⟩ := List.mem_map.1 hy
    exact SeqAt.EqAt.bool_bool b k
  refine ⟨.int (bs.count k : Nat), H, I.tok _, ⟨s.toks, ?_⟩, q⟩
  show Value.int (((bs.map Value.bool).toArray.toList.countP (isBoolOf k) : Nat) : Int) s.toks = Value.int ((bs.count k : Nat) : Int) s.toks
  rw [show (bs.map Value.bool).toArray.toList = bs.map Value.bool from rfl, bools_count]
/-! ### methods of lists, in a suite -/
section
variable {X0 X : Cx} {T : String} {name : Str} {id : String} {r : V → List V → Hp → VK → Prop} {o e : Expr} {es : List Expr} {to : TE} {t : TA} {apos cpos : Pos}
theorem pe_bmL (l : Like X0 X) (pa : PlainAttrs T) (slot : Slot T name id) (hty : typeOf (.builtin id) = pure (.type "method_descriptor")) (hm : ∀ Y : Cx, Like X0 Y → MtR Y id r) (ho : PE X o to) (ha : PA X (e :: es) t)
    (hbase : attributeBase o name X.env (eval o X.env) = eval o X.env := by rfl)
    (hfew : ((backTo cpos (starEach (e :: es) X.env)).all (fun x => !x.1) && (backToKw cpos (keywordEach [] X.env)).all (fun x => x.1.isSome)
      && decide ((e :: es).length + ([] : List Keyword).length + (if ([] : List Keyword).isEmpty then 0 else 1) < 30)) = true := by rfl)
    (hline : (apos.endLine == cpos.line) = true := by rfl) (hs : starEach (e :: es) X.env = (false, eval e X.env) :: starEach es X.env := by rfl) (hplain : (backTo cpos (starEach es X.env)).any (·.1) = false := by rfl) :
    PE X (.Call (.Attribute o name apos) (e :: es) [] cpos) (tBM X0.K T r to t) := by
  rw [← l.K]
  exact pe_bm pa slot hty (hm X l) ho ha hbase hfew hline hs hplain
theorem mtL_count : ∀ Y : Cx, Like X0 Y → MtR Y "list.count" (rCntB X0.K) := fun Y l => by rw [← l.K]; exact mt_lcountB
theorem mtL_index : ∀ Y : Cx, Like X0 Y → MtR Y "list.index" (rIndex X0.K) := fun Y l => by rw [← l.K]; exact mt_index
end
/-! ### f() within a try, the slots known -/
section
open LamX NdefX
def tActT (X : Cx) (i k : Nat) (W : WX) : TE := fun σ H Q => ∃ (f : Addr) (F : NF) (bd : Expr) (dV : Value) (Ef : XK), σ[i]? = some (some (.ref f)) ∧ H f = some (LamO f F bd dV) ∧ CallAt X.prog X.w X.K X.mg X.base k f H Q Ef ∧ (∀ cls d H', Ef cls d H' → W cls d σ H') ∧ Room k X.A
theorem pe_actT {X0 X : Cx} {a : Str} {i k : Nat} {W : WX} {p1 p2 : Pos} (l : Like X0 X) (tk : Takes X W) (hN : X.N[i]? = some a) (hv : Vis X.env.scope a) (hd : (a == ("__debug__" : Str)) = false := by decide) (hcd : (a == ("__classdict__" : Str)) = false := by decide) :
    PE X (.Call (.Name a p1) [] [] p2) (tActT X0 i k W) := by
  refine ⟨fun pins s σ H Q I h => ?_⟩
  obtain ⟨f, F, bd, dV, Ef, hs, hf, hc, hW, hr⟩ := h
  rw [← l.prog, ← l.w, ← l.K, ← l.mg, ← l.base] at hc
  rw [← l.A] at hr
  refine wpAny_Call_Name_kw (thn ((pe_var (pos := p1) (i := i) hN hv hd hcd).run pins s σ H (fun v H1 => v = .ref f ∧ H1 = H) I ⟨.ref f, hs, rfl, rfl⟩) fun u s1 ⟨v, H1, I1, r1, ev, eH⟩ => ?_)
  subst ev eH
  obtain rfl : u = Value.ref f := r1
  obtain ⟨od, sl, doc, pm, ctv, ho⟩ := lamO_at I1.hok hf
  refine PySem.W.callWith_F0 ⟨_, _, _, _, ho⟩ (wpAny_call (codeAny_mono (hc X.A X.stack s1 hr I1.env0) fun r s' hq => ?_))
  match r, hq with
  | .error e, hq => exact tk _ _ (L2.XE.of_call I1 hW hq)
  | .ok (.ret u), hq => exact I1.after hq
theorem w_actT {X : Cx} {i k : Nat} {W : WX} {σ : L2.St} {H : Hp} {Q : VK} (h : ∃ (f : Addr) (F : NF) (bd : Expr) (dV : Value) (Ef : XK), σ[i]? = some (some (.ref f)) ∧ H f = some (LamO f F bd dV) ∧ CallAt X.prog X.w X.K X.mg X.base k f H Q Ef ∧ (∀ cls d H', Ef cls d H' → W cls d σ H') ∧ Room k X.A) : tActT X i k W σ H Q := h
end
end Odd

namespace Odd
open PySem PySem.Spec PyProof.Rows L2 LamX NdefX
def topS (i : Nat) : Stmt := PySem.Challenge.pw_oddcents_k32_payments_and_errors.main.body.getD i (.Pass ⟨0, 0, 0, 0⟩)
abbrev s__wall : Stmt := topS 0
abbrev N__wall : List Str := ["k"]
theorem sc__wall : FnScope N__wall ["k"] (defScope s__wall) := ⟨rfl, rfl, rfl, by decide +kernel, rfl, by decide +kernel, by decide +kernel⟩
abbrev s_is_between : Stmt := topS 16
abbrev N_is_between : List Str := ["value", "low", "high"]
theorem sc_is_between : FnScope N_is_between ["value", "low", "high"] (defScope s_is_between) := ⟨rfl, rfl, rfl, by decide +kernel, rfl, by decide +kernel, by decide +kernel⟩
abbrev s_check_seat : Stmt := topS 17
abbrev N_check_seat : List Str := ["seat", "seat_count"]
theorem sc_check_seat : FnScope N_check_seat ["seat", "seat_count"] (defScope s_check_seat) := ⟨rfl, rfl, rfl, by decide +kernel, rfl, by decide +kernel, by decide +kernel⟩
abbrev s_seats_of : Stmt := topS 18
abbrev N_seats_of : List Str := ["number", "seat"]
theorem sc_seats_of : FnScope N_seats_of ["number"] (defScope s_seats_of) := ⟨rfl, rfl, rfl, by decide +kernel, rfl, by decide +kernel, by decide +kernel⟩
abbrev s_Shares__init_ : Stmt := inClass (topS 20) 0
abbrev N_Shares__init_ : List Str := ["self", "cents"]
theorem sc_Shares__init_ : FnScope N_Shares__init_ ["self", "cents"] (defScope s_Shares__init_) := ⟨rfl, rfl, rfl, by decide +kernel, rfl, by decide +kernel, by decide +kernel⟩
abbrev s_Shares_cents : Stmt := inClass (topS 20) 1
abbrev N_Shares_cents : List Str := ["self"]
theorem sc_Shares_cents : FnScope N_Shares_cents ["self"] (defScope s_Shares_cents) := ⟨rfl, rfl, rfl, by decide +kernel, rfl, by decide +kernel, by decide +kernel⟩
abbrev s_Shares_whole : Stmt := inClass (topS 20) 2
abbrev N_Shares_whole : List Str := ["self"]
theorem sc_Shares_whole : FnScope N_Shares_whole ["self"] (defScope s_Shares_whole) := ⟨rfl, rfl, rfl, by decide +kernel, rfl, by decide +kernel, by decide +kernel⟩
abbrev s_Shares__getitem_ : Stmt := inClass (topS 20) 3
abbrev N_Shares__getitem_ : List Str := ["self", "seat"]
theorem sc_Shares__getitem_ : FnScope N_Shares__getitem_ ["self", "seat"] (defScope s_Shares__getitem_) := ⟨rfl, rfl, rfl, by decide +kernel, rfl, by decide +kernel, by decide +kernel⟩
abbrev s_Shares__iter_ : Stmt := inClass (topS 20) 4
abbrev N_Shares__iter_ : List Str := ["self"]
theorem sc_Shares__iter_ : FnScope N_Shares__iter_ ["self"] (defScope s_Shares__iter_) := ⟨rfl, rfl, rfl, by decide +kernel, rfl, by decide +kernel, by decide +kernel⟩
abbrev s_Shares__len_ : Stmt := inClass (topS 20) 5
abbrev N_Shares__len_ : List Str := ["self"]
theorem sc_Shares__len_ : FnScope N_Shares__len_ ["self"] (defScope s_Shares__len_) := ⟨rfl, rfl, rfl, by decide +kernel, rfl, by decide +kernel, by decide +kernel⟩
abbrev s_Shares__eq_ : Stmt := inClass (topS 20) 6
abbrev N_Shares__eq_ : List Str := ["self", "other"]
theorem sc_Shares__eq_ : FnScope N_Shares__eq_ ["self", "other"] (defScope s_Shares__eq_) := ⟨rfl, rfl, rfl, by decide +kernel, rfl, by decide +kernel, by decide +kernel⟩
abbrev s_Shares__add_ : Stmt := inClass (topS 20) 7
abbrev N_Shares__add_ : List Str := ["self", "other", "sums", "mine", "its"]
theorem sc_Shares__add_ : FnScope N_Shares__add_ ["self", "other"] (defScope s_Shares__add_) := ⟨rfl, rfl, rfl, by decide +kernel, rfl, by decide +kernel, by decide +kernel⟩
abbrev s_Shares__sub_ : Stmt := inClass (topS 20) 8
abbrev N_Shares__sub_ : List Str := ["self", "other"]
theorem sc_Shares__sub_ : FnScope N_Shares__sub_ ["self", "other"] (defScope s_Shares__sub_) := ⟨rfl, rfl, rfl, by decide +kernel, rfl, by decide +kernel, by decide +kernel⟩
abbrev s_Shares__mul_ : Stmt := inClass (topS 20) 9
abbrev N_Shares__mul_ : List Str := ["self", "times", "products", "cents"]
theorem sc_Shares__mul_ : FnScope N_Shares__mul_ ["self", "times"] (defScope s_Shares__mul_) := ⟨rfl, rfl, rfl, by decide +kernel, rfl, by decide +kernel, by decide +kernel⟩
abbrev s_Shares__neg_ : Stmt := inClass (topS 20) 10
abbrev N_Shares__neg_ : List Str := ["self"]
theorem sc_Shares__neg_ : FnScope N_Shares__neg_ ["self"] (defScope s_Shares__neg_) := ⟨rfl, rfl, rfl, by decide +kernel, rfl, by decide +kernel, by decide +kernel⟩
abbrev s_Shares__abs_ : Stmt := inClass (topS 20) 11
abbrev N_Shares__abs_ : List Str := ["self"]
theorem sc_Shares__abs_ : FnScope N_Shares__abs_ ["self"] (defScope s_Shares__abs_) := ⟨rfl, rfl, rfl, by decide +kernel, rfl, by decide +kernel, by decide +kernel⟩
abbrev s_check_payment : Stmt := topS 24
abbrev N_check_payment : List Str := ["seat_count", "giver", "taker", "cents"]
theorem sc_check_payment : FnScope N_check_payment ["seat_count", "giver", "taker", "cents"] (defScope s_check_payment) := ⟨rfl, rfl, rfl, by decide +kernel, rfl, by decide +kernel, by decide +kernel⟩
abbrev s_balance_after : Stmt := topS 25
abbrev N_balance_after : List Str := ["balance", "given", "due", "giver", "taker", "cents"]
theorem sc_balance_after : FnScope N_balance_after ["balance", "given"] (defScope s_balance_after) := ⟨rfl, rfl, rfl, by decide +kernel, rfl, by decide +kernel, by decide +kernel⟩
abbrev s_check_balance : Stmt := topS 26
abbrev N_check_balance : List Str := ["balance"]
theorem sc_check_balance : FnScope N_check_balance ["balance"] (defScope s_check_balance) := ⟨rfl, rfl, rfl, by decide +kernel, rfl, by decide +kernel, by decide +kernel⟩
abbrev s_sums_of_sets : Stmt := topS 27
abbrev N_sums_of_sets : List Str := ["due", "sums", "cents", "others"]
theorem sc_sums_of_sets : FnScope N_sums_of_sets ["due"] (defScope s_sums_of_sets) := ⟨rfl, rfl, rfl, by decide +kernel, rfl, by decide +kernel, by decide +kernel⟩
abbrev s_number_of_groups : Stmt := topS 28
abbrev N_number_of_groups : List Str := ["parting"]
theorem sc_number_of_groups : FnScope N_number_of_groups ["parting"] (defScope s_number_of_groups) := ⟨rfl, rfl, rfl, by decide +kernel, rfl, by decide +kernel, by decide +kernel⟩
abbrev s_parted : Stmt := topS 29
abbrev N_parted : List Str := ["due", "sums", "partings", "index", "choices", "seat", "groups", "others", "_"]
theorem sc_parted : FnScope N_parted ["due"] (defScope s_parted) := ⟨rfl, rfl, rfl, by decide +kernel, rfl, by decide +kernel, by decide +kernel⟩
abbrev s_payments_within : Stmt := topS 30
abbrev N_payments_within : List Str := ["group", "due", "rest", "takers", "seat", "given", "giver", "taker", "cents"]
theorem sc_payments_within : FnScope N_payments_within ["group", "due"] (defScope s_payments_within) := ⟨rfl, rfl, rfl, by decide +kernel, rfl, by decide +kernel, by decide +kernel⟩
abbrev s_payments : Stmt := topS 31
abbrev N_payments : List Str := ["balance", "due", "group", "payment"]
theorem sc_payments : FnScope N_payments ["balance"] (defScope s_payments) := ⟨rfl, rfl, rfl, by decide +kernel, rfl, by decide +kernel, by decide +kernel⟩
abbrev s_fewest_payments : Stmt := topS 32
abbrev N_fewest_payments : List Str := ["balance"]
theorem sc_fewest_payments : FnScope N_fewest_payments ["balance"] (defScope s_fewest_payments) := ⟨rfl, rfl, rfl, by decide +kernel, rfl, by decide +kernel, by decide +kernel⟩
abbrev s_Bill__init_ : Stmt := inClass (topS 36) 1
abbrev N_Bill__init_ : List Str := ["self", "amount", "seats"]
theorem sc_Bill__init_ : FnScope N_Bill__init_ ["self", "amount", "seats"] (defScope s_Bill__init_) := ⟨rfl, rfl, rfl, by decide +kernel, rfl, by decide +kernel, by decide +kernel⟩
abbrev s_Bill_amount : Stmt := inClass (topS 36) 2
abbrev N_Bill_amount : List Str := ["self"]
theorem sc_Bill_amount : FnScope N_Bill_amount ["self"] (defScope s_Bill_amount) := ⟨rfl, rfl, rfl, by decide +kernel, rfl, by decide +kernel, by decide +kernel⟩
abbrev s_Bill_seats : Stmt := inClass (topS 36) 3
abbrev N_Bill_seats : List Str := ["self"]
theorem sc_Bill_seats : FnScope N_Bill_seats ["self"] (defScope s_Bill_seats) := ⟨rfl, rfl, rfl, by decide +kernel, rfl, by decide +kernel, by decide +kernel⟩
abbrev s_Bill_odd_cents : Stmt := inClass (topS 36) 4
abbrev N_Bill_odd_cents : List Str := ["self"]
theorem sc_Bill_odd_cents : FnScope N_Bill_odd_cents ["self"] (defScope s_Bill_odd_cents) := ⟨rfl, rfl, rfl, by decide +kernel, rfl, by decide +kernel, by decide +kernel⟩
abbrev s_Bill__contains_ : Stmt := inClass (topS 36) 5
abbrev N_Bill__contains_ : List Str := ["self", "seat"]
theorem sc_Bill__contains_ : FnScope N_Bill__contains_ ["self", "seat"] (defScope s_Bill__contains_) := ⟨rfl, rfl, rfl, by decide +kernel, rfl, by decide +kernel, by decide +kernel⟩
abbrev s_check_amount : Stmt := topS 37
abbrev N_check_amount : List Str := ["amount"]
theorem sc_check_amount : FnScope N_check_amount ["amount"] (defScope s_check_amount) := ⟨rfl, rfl, rfl, by decide +kernel, rfl, by decide +kernel, by decide +kernel⟩
abbrev s_check_seats : Stmt := topS 38
abbrev N_check_seats : List Str := ["seats", "lowest", "index", "seat"]
theorem sc_check_seats : FnScope N_check_seats ["seats"] (defScope s_check_seats) := ⟨rfl, rfl, rfl, by decide +kernel, rfl, by decide +kernel, by decide +kernel⟩
abbrev s_check_seat_count : Stmt := topS 39
abbrev N_check_seat_count : List Str := ["seat_count"]
theorem sc_check_seat_count : FnScope N_check_seat_count ["seat_count"] (defScope s_check_seat_count) := ⟨rfl, rfl, rfl, by decide +kernel, rfl, by decide +kernel, by decide +kernel⟩
abbrev s_check_mark : Stmt := topS 40
abbrev N_check_mark : List Str := ["mark", "seat_count"]
theorem sc_check_mark : FnScope N_check_mark ["mark", "seat_count"] (defScope s_check_mark) := ⟨rfl, rfl, rfl, by decide +kernel, rfl, by decide +kernel, by decide +kernel⟩
abbrev s_no_shares : Stmt := topS 41
abbrev N_no_shares : List Str := ["seat_count", "cents"]
theorem sc_no_shares : FnScope N_no_shares ["seat_count"] (defScope s_no_shares) := ⟨rfl, rfl, rfl, by decide +kernel, rfl, by decide +kernel, by decide +kernel⟩
abbrev s_Page__init_ : Stmt := inClass (topS 43) 0
abbrev N_Page__init_ : List Str := ["self", "operation", "due", "mark"]
theorem sc_Page__init_ : FnScope N_Page__init_ ["self", "operation", "due", "mark"] (defScope s_Page__init_) := ⟨rfl, rfl, rfl, by decide +kernel, rfl, by decide +kernel, by decide +kernel⟩
abbrev s_Ledger__init_ : Stmt := inClass (topS 44) 0
abbrev N_Ledger__init_ : List Str := ["self", "seat_count", "mark"]
theorem sc_Ledger__init_ : FnScope N_Ledger__init_ ["self", "seat_count", "mark"] (defScope s_Ledger__init_) := ⟨rfl, rfl, rfl, by decide +kernel, rfl, by decide +kernel, by decide +kernel⟩
abbrev s_Ledger_replay : Stmt := inClass (topS 44) 1
abbrev N_Ledger_replay : List Str := ["cls", "seat_count", "mark", "operations"]
theorem sc_Ledger_replay : FnScope N_Ledger_replay ["cls", "seat_count", "mark", "operations"] (defScope s_Ledger_replay) := ⟨rfl, rfl, rfl, by decide +kernel, rfl, by decide +kernel, by decide +kernel⟩
abbrev s_Ledger_balance : Stmt := inClass (topS 44) 2
abbrev N_Ledger_balance : List Str := ["self"]
theorem sc_Ledger_balance : FnScope N_Ledger_balance ["self"] (defScope s_Ledger_balance) := ⟨rfl, rfl, rfl, by decide +kernel, rfl, by decide +kernel, by decide +kernel⟩
abbrev s_Ledger_mark_now : Stmt := inClass (topS 44) 3
abbrev N_Ledger_mark_now : List Str := ["self"]
theorem sc_Ledger_mark_now : FnScope N_Ledger_mark_now ["self"] (defScope s_Ledger_mark_now) := ⟨rfl, rfl, rfl, by decide +kernel, rfl, by decide +kernel, by decide +kernel⟩
abbrev s_Ledger_history : Stmt := inClass (topS 44) 4
abbrev N_Ledger_history : List Str := ["self"]
theorem sc_Ledger_history : FnScope N_Ledger_history ["self"] (defScope s_Ledger_history) := ⟨rfl, rfl, rfl, by decide +kernel, rfl, by decide +kernel, by decide +kernel⟩
abbrev s_Ledger_lay : Stmt := inClass (topS 44) 5
abbrev N_Ledger_lay : List Str := ["self", "seat", "amount", "seats"]
theorem sc_Ledger_lay : FnScope N_Ledger_lay ["self", "seat", "amount", "seats"] (defScope s_Ledger_lay) := ⟨rfl, rfl, rfl, by decide +kernel, rfl, by decide +kernel, by decide +kernel⟩
abbrev s_Ledger_hand : Stmt := inClass (topS 44) 6
abbrev N_Ledger_hand : List Str := ["self", "giver", "taker", "cents"]
theorem sc_Ledger_hand : FnScope N_Ledger_hand ["self", "giver", "taker", "cents"] (defScope s_Ledger_hand) := ⟨rfl, rfl, rfl, by decide +kernel, rfl, by decide +kernel, by decide +kernel⟩
abbrev s_Ledger_move : Stmt := inClass (topS 44) 7
abbrev N_Ledger_move : List Str := ["self", "seat"]
theorem sc_Ledger_move : FnScope N_Ledger_move ["self", "seat"] (defScope s_Ledger_move) := ⟨rfl, rfl, rfl, by decide +kernel, rfl, by decide +kernel, by decide +kernel⟩
abbrev s_Ledger_settle : Stmt := inClass (topS 44) 8
abbrev N_Ledger_settle : List Str := ["self", "given"]
theorem sc_Ledger_settle : FnScope N_Ledger_settle ["self"] (defScope s_Ledger_settle) := ⟨rfl, rfl, rfl, by decide +kernel, rfl, by decide +kernel, by decide +kernel⟩
abbrev s_Ledger_undo : Stmt := inClass (topS 44) 9
abbrev N_Ledger_undo : List Str := ["self"]
theorem sc_Ledger_undo : FnScope N_Ledger_undo ["self"] (defScope s_Ledger_undo) := ⟨rfl, rfl, rfl, by decide +kernel, rfl, by decide +kernel, by decide +kernel⟩
abbrev s_Ledger_redo : Stmt := inClass (topS 44) 10
abbrev N_Ledger_redo : List Str := ["self"]
theorem sc_Ledger_redo : FnScope N_Ledger_redo ["self"] (defScope s_Ledger_redo) := ⟨rfl, rfl, rfl, by decide +kernel, rfl, by decide +kernel, by decide +kernel⟩
abbrev s_Ledger_apply_all : Stmt := inClass (topS 44) 11
abbrev N_Ledger_apply_all : List Str := ["self", "operations"]
theorem sc_Ledger_apply_all : FnScope N_Ledger_apply_all ["self", "operations"] (defScope s_Ledger_apply_all) := ⟨rfl, rfl, rfl, by decide +kernel, rfl, by decide +kernel, by decide +kernel⟩
abbrev s_Ledger_execute : Stmt := inClass (topS 44) 12
abbrev N_Ledger_execute : List Str := ["self", "operation"]
theorem sc_Ledger_execute : FnScope N_Ledger_execute ["self", "operation"] (defScope s_Ledger_execute) := ⟨rfl, rfl, rfl, by decide +kernel, rfl, by decide +kernel, by decide +kernel⟩
abbrev s_Ledger_write : Stmt := inClass (topS 44) 13
abbrev N_Ledger_write : List Str := ["self", "operation", "due", "mark"]
theorem sc_Ledger_write : FnScope N_Ledger_write ["self", "operation", "due", "mark"] (defScope s_Ledger_write) := ⟨rfl, rfl, rfl, by decide +kernel, rfl, by decide +kernel, by decide +kernel⟩
abbrev s__law_random : Stmt := topS 46
abbrev N__law_random : List Str := ["_law_script", "_law_salt", "_law_seed", "_law_cell"]
theorem sc__law_random : FnScope N__law_random ["_law_script", "_law_salt"] (defScope s__law_random) := ⟨rfl, rfl, rfl, by decide +kernel, rfl, by decide +kernel, by decide +kernel⟩
abbrev s__law_below : Stmt := topS 47
abbrev N__law_below : List Str := ["_law_d", "_law_limit", "_law_result"]
theorem sc__law_below : FnScope N__law_below ["_law_d", "_law_limit"] (defScope s__law_below) := ⟨rfl, rfl, rfl, by decide +kernel, rfl, by decide +kernel, by decide +kernel⟩
abbrev s__law_shuffled : Stmt := topS 48
abbrev N__law_shuffled : List Str := ["_law_d", "_law_items", "_law_pool", "_law_result"]
theorem sc__law_shuffled : FnScope N__law_shuffled ["_law_d", "_law_items"] (defScope s__law_shuffled) := ⟨rfl, rfl, rfl, by decide +kernel, rfl, by decide +kernel, by decide +kernel⟩
abbrev s__law_balance : Stmt := topS 49
abbrev N__law_balance : List Str := ["_law_d", "_law_count", "_law_found", "_law_top", "_law_k"]
theorem sc__law_balance : FnScope N__law_balance ["_law_d"] (defScope s__law_balance) := ⟨rfl, rfl, rfl, by decide +kernel, rfl, by decide +kernel, by decide +kernel⟩
abbrev s__law_shares : Stmt := topS 50
abbrev N__law_shares : List Str := ["_law_cents", "_law_last", "_law_given", "_law_seat"]
theorem sc__law_shares : FnScope N__law_shares ["_law_cents"] (defScope s__law_shares) := ⟨rfl, rfl, rfl, by decide +kernel, rfl, by decide +kernel, by decide +kernel⟩
abbrev s__law_equal : Stmt := topS 51
abbrev N__law_equal : List Str := ["_law_actual", "_law_expected", "_law_k"]
theorem sc__law_equal : FnScope N__law_equal ["_law_actual", "_law_expected"] (defScope s__law_equal) := ⟨rfl, rfl, rfl, by decide +kernel, rfl, by decide +kernel, by decide +kernel⟩
abbrev s__law_error_of : Stmt := topS 52
abbrev N__law_error_of : List Str := ["_law_call", "e", "_law_kinds", "_law_names", "_law_name"]
theorem sc__law_error_of : FnScope N__law_error_of ["_law_call"] (defScope s__law_error_of) := ⟨rfl, rfl, rfl, by decide +kernel, rfl, by decide +kernel, by decide +kernel⟩
abbrev s__law_all_raise : Stmt := topS 53
abbrev N__law_all_raise : List Str := ["_law_calls", "_law_expected", "_law_call"]
theorem sc__law_all_raise : FnScope N__law_all_raise ["_law_calls", "_law_expected"] (defScope s__law_all_raise) := ⟨rfl, rfl, rfl, by decide +kernel, rfl, by decide +kernel, by decide +kernel⟩
abbrev s_law : Stmt := topS 54
abbrev N_law : List Str := ["_law_script", "_law_d", "_law_cents", "_law_balance_here", "_law_count", "_law_given", "_law_k", "_law_giver", "_law_due", "_law_taker", "_law_number", "_law_far", "_law_seat", "_law_wrong", "_law_calls", "_law_more", "_law_same", "_law_nine", "_law_odd"]
theorem sc_law : FnScope N_law ["_law_script"] (defScope s_law) := ⟨rfl, rfl, rfl, by decide +kernel, rfl, by decide +kernel, by decide +kernel⟩
/-- where the top has laid what the text names -/
structure Ad where
  f__wall : Addr
  f_is_between : Addr
  f_check_seat : Addr
  f_seats_of : Addr
  f_check_payment : Addr
  f_balance_after : Addr
  f_check_balance : Addr
  f_sums_of_sets : Addr
  f_number_of_groups : Addr
  f_parted : Addr
  f_payments_within : Addr
  f_payments : Addr
  f_fewest_payments : Addr
  f_check_amount : Addr
  f_check_seats : Addr
  f_check_seat_count : Addr
  f_check_mark : Addr
  f_no_shares : Addr
  f__law_random : Addr
  f__law_below : Addr
  f__law_shuffled : Addr
  f__law_balance : Addr
  f__law_shares : Addr
  f__law_equal : Addr
  f__law_error_of : Addr
  f__law_all_raise : Addr
  f_law : Addr
  k_law : Addr
  t_law : Addr
  c_CentError : Addr
  c_InvalidBill : Addr
  c_InvalidEvening : Addr
  c_InvalidMark : Addr
  c_UnknownSeat : Addr
  c_OtherTable : Addr
  c_InvalidNumber : Addr
  c_NotBalanced : Addr
  c_EmptyGroup : Addr
  c_InvalidOperation : Addr
  c_InvalidText : Addr
  c_InvalidReceipt : Addr
  c_DecodeError : Addr
  c_Shares : Addr
  f_Shares__init_ : Addr
  f_Shares_cents : Addr
  p_Shares_cents : Addr
  f_Shares_whole : Addr
  p_Shares_whole : Addr
  f_Shares__getitem_ : Addr
  f_Shares__iter_ : Addr
  f_Shares__len_ : Addr
  f_Shares__eq_ : Addr
  f_Shares__add_ : Addr
  f_Shares__sub_ : Addr
  f_Shares__mul_ : Addr
  f_Shares__neg_ : Addr
  f_Shares__abs_ : Addr
  c_Bill : Addr
  f_Bill__init_ : Addr
  f_Bill_amount : Addr
  p_Bill_amount : Addr
  f_Bill_seats : Addr
  p_Bill_seats : Addr
  f_Bill_odd_cents : Addr
  p_Bill_odd_cents : Addr
  f_Bill__contains_ : Addr
  c_Page : Addr
  f_Page__init_ : Addr
  c_Ledger : Addr
  f_Ledger__init_ : Addr
  f_Ledger_replay : Addr
  p_Ledger_replay : Addr
  f_Ledger_balance : Addr
  p_Ledger_balance : Addr
  f_Ledger_mark_now : Addr
  p_Ledger_mark_now : Addr
  f_Ledger_history : Addr
  p_Ledger_history : Addr
  f_Ledger_lay : Addr
  f_Ledger_hand : Addr
  f_Ledger_move : Addr
  f_Ledger_settle : Addr
  f_Ledger_undo : Addr
  f_Ledger_redo : Addr
  f_Ledger_apply_all : Addr
  f_Ledger_execute : Addr
  f_Ledger_write : Addr
/-- an error of the class C, the j-th of those asked for -/
structure ErrK (K : PySem.W.Frag) (a : Ad) (C : Addr) (j : Nat) : Prop where
  ec : L2.ExcC K C
  ve : PySem.W.kitOne K (.ref C) (.type "ValueError") = some true
  ce : PySem.W.exmOne K (.ref C) (.ref a.c_CentError) = some true
  k0 : PySem.W.kitOne K (.ref C) (.ref a.c_InvalidBill) = some (decide (0 = j))
  k1 : PySem.W.kitOne K (.ref C) (.ref a.c_InvalidEvening) = some (decide (1 = j))
  k2 : PySem.W.kitOne K (.ref C) (.ref a.c_InvalidOperation) = some (decide (2 = j))
  k3 : PySem.W.kitOne K (.ref C) (.ref a.c_InvalidMark) = some (decide (3 = j))
  k4 : PySem.W.kitOne K (.ref C) (.ref a.c_UnknownSeat) = some (decide (4 = j))
  k5 : PySem.W.kitOne K (.ref C) (.ref a.c_InvalidNumber) = some (decide (5 = j))
  k6 : PySem.W.kitOne K (.ref C) (.ref a.c_NotBalanced) = some (decide (6 = j))
  k7 : PySem.W.kitOne K (.ref C) (.ref a.c_EmptyGroup) = some (decide (7 = j))
  k8 : PySem.W.kitOne K (.ref C) (.ref a.c_InvalidText) = some (decide (8 = j))
  k9 : PySem.W.kitOne K (.ref C) (.ref a.c_InvalidReceipt) = some (decide (9 = j))
  k10 : PySem.W.kitOne K (.ref C) (.ref a.c_DecodeError) = some (decide (10 = j))
/-- what is true of them -/
structure Facts (K : PySem.W.Frag) (mg : Str → Option Value) (a : Ad) : Prop where
  z_TypeError : mg "TypeError" = none
  z_ValueError : mg "ValueError" = none
  z_abs : mg "abs" = none
  z_all : mg "all" = none
  z_bool : mg "bool" = none
  z_classmethod : mg "classmethod" = none
  z_enumerate : mg "enumerate" = none
  z_int : mg "int" = none
  z_isinstance : mg "isinstance" = none
  z_len : mg "len" = none
  z_list : mg "list" = none
  z_max : mg "max" = none
  z_min : mg "min" = none
  z_property : mg "property" = none
  z_range : mg "range" = none
  z_sorted : mg "sorted" = none
  z_str : mg "str" = none
  z_sum : mg "sum" = none
  z_super : mg "super" = none
  z_tuple : mg "tuple" = none
  z_zip : mg "zip" = none
  i_MAX_PAYMENT : ∃ u, mg "MAX_PAYMENT" = some (.int 1000000000000000 u)
  i_MAX_SETTLED_SEATS : ∃ u, mg "MAX_SETTLED_SEATS" = some (.int 8 u)
  i_MAX_AMOUNT : ∃ u, mg "MAX_AMOUNT" = some (.int 1000000000000 u)
  i_MIN_SEAT_COUNT : ∃ u, mg "MIN_SEAT_COUNT" = some (.int 2 u)
  u__wall : ∃ fd, Fun K "_wall" "_wall" s__wall a.f__wall fd
  g__wall : mg "_wall" = some (.ref a.f__wall)
  u_is_between : ∃ fd, Fun K "is_between" "is_between" s_is_between a.f_is_between fd
  g_is_between : mg "is_between" = some (.ref a.f_is_between)
  u_check_seat : ∃ fd, Fun K "check_seat" "check_seat" s_check_seat a.f_check_seat fd
  g_check_seat : mg "check_seat" = some (.ref a.f_check_seat)
  u_seats_of : ∃ fd, Fun K "seats_of" "seats_of" s_seats_of a.f_seats_of fd
  g_seats_of : mg "seats_of" = some (.ref a.f_seats_of)
  u_check_payment : ∃ fd, Fun K "check_payment" "check_payment" s_check_payment a.f_check_payment fd
  g_check_payment : mg "check_payment" = some (.ref a.f_check_payment)
  u_balance_after : ∃ fd, Fun K "balance_after" "balance_after" s_balance_after a.f_balance_after fd
  g_balance_after : mg "balance_after" = some (.ref a.f_balance_after)
  u_check_balance : ∃ fd, Fun K "check_balance" "check_balance" s_check_balance a.f_check_balance fd
  g_check_balance : mg "check_balance" = some (.ref a.f_check_balance)
  u_sums_of_sets : ∃ fd, Fun K "sums_of_sets" "sums_of_sets" s_sums_of_sets a.f_sums_of_sets fd
  g_sums_of_sets : mg "sums_of_sets" = some (.ref a.f_sums_of_sets)
  u_number_of_groups : ∃ fd, Fun K "number_of_groups" "number_of_groups" s_number_of_groups a.f_number_of_groups fd
  g_number_of_groups : mg "number_of_groups" = some (.ref a.f_number_of_groups)
  u_parted : ∃ fd, Fun K "parted" "parted" s_parted a.f_parted fd
  g_parted : mg "parted" = some (.ref a.f_parted)
  u_payments_within : ∃ fd, Fun K "payments_within" "payments_within" s_payments_within a.f_payments_within fd
  g_payments_within : mg "payments_within" = some (.ref a.f_payments_within)
  u_payments : ∃ fd, Fun K "payments" "payments" s_payments a.f_payments fd
  g_payments : mg "payments" = some (.ref a.f_payments)
  u_fewest_payments : ∃ fd, Fun K "fewest_payments" "fewest_payments" s_fewest_payments a.f_fewest_payments fd
  g_fewest_payments : mg "fewest_payments" = some (.ref a.f_fewest_payments)
  u_check_amount : ∃ fd, Fun K "check_amount" "check_amount" s_check_amount a.f_check_amount fd
  g_check_amount : mg "check_amount" = some (.ref a.f_check_amount)
  u_check_seats : ∃ fd, Fun K "check_seats" "check_seats" s_check_seats a.f_check_seats fd
  g_check_seats : mg "check_seats" = some (.ref a.f_check_seats)
  u_check_seat_count : ∃ fd, Fun K "check_seat_count" "check_seat_count" s_check_seat_count a.f_check_seat_count fd
  g_check_seat_count : mg "check_seat_count" = some (.ref a.f_check_seat_count)
  u_check_mark : ∃ fd, Fun K "check_mark" "check_mark" s_check_mark a.f_check_mark fd
  g_check_mark : mg "check_mark" = some (.ref a.f_check_mark)
  u_no_shares : ∃ fd, Fun K "no_shares" "no_shares" s_no_shares a.f_no_shares fd
  g_no_shares : mg "no_shares" = some (.ref a.f_no_shares)
  u__law_random : ∃ fd, Fun K "_law_random" "_law_random" s__law_random a.f__law_random fd
  g__law_random : mg "_law_random" = some (.ref a.f__law_random)
  u__law_below : ∃ fd, Fun K "_law_below" "_law_below" s__law_below a.f__law_below fd
  g__law_below : mg "_law_below" = some (.ref a.f__law_below)
  u__law_shuffled : ∃ fd, Fun K "_law_shuffled" "_law_shuffled" s__law_shuffled a.f__law_shuffled fd
  g__law_shuffled : mg "_law_shuffled" = some (.ref a.f__law_shuffled)
  u__law_balance : ∃ fd, Fun K "_law_balance" "_law_balance" s__law_balance a.f__law_balance fd
  g__law_balance : mg "_law_balance" = some (.ref a.f__law_balance)
  u__law_shares : ∃ fd, Fun K "_law_shares" "_law_shares" s__law_shares a.f__law_shares fd
  g__law_shares : mg "_law_shares" = some (.ref a.f__law_shares)
  u__law_equal : ∃ fd, Fun K "_law_equal" "_law_equal" s__law_equal a.f__law_equal fd
  g__law_equal : mg "_law_equal" = some (.ref a.f__law_equal)
  u__law_error_of : ∃ fd, Fun K "_law_error_of" "_law_error_of" s__law_error_of a.f__law_error_of fd
  g__law_error_of : mg "_law_error_of" = some (.ref a.f__law_error_of)
  u__law_all_raise : ∃ fd, Fun K "_law_all_raise" "_law_all_raise" s__law_all_raise a.f__law_all_raise fd
  g__law_all_raise : mg "_law_all_raise" = some (.ref a.f__law_all_raise)
  u_law : ∃ fd, Fun K "law" "law" s_law a.f_law fd
  uc_law : ∃ fd, Fun K "law" "law" s_law a.f_law fd ∧ fd.code = .ref a.k_law
  hd_law : PySem.W.codeHdIn K a.k_law a.t_law = true
  nt_law : K.lookup a.t_law = none
  g_law : mg "law" = some (.ref a.f_law)
  x_CentError : ExcC K mg "CentError" a.c_CentError
  x_InvalidMark : ExcC K mg "InvalidMark" a.c_InvalidMark
  x_UnknownSeat : ExcC K mg "UnknownSeat" a.c_UnknownSeat
  x_OtherTable : ExcC K mg "OtherTable" a.c_OtherTable
  x_InvalidNumber : ExcC K mg "InvalidNumber" a.c_InvalidNumber
  x_NotBalanced : ExcC K mg "NotBalanced" a.c_NotBalanced
  x_EmptyGroup : ExcC K mg "EmptyGroup" a.c_EmptyGroup
  g_Shares : mg "Shares" = some (.ref a.c_Shares)
  cl_Shares : Cls K a.c_Shares
  si_Shares : SlX.SIsi K a.c_Shares
  ob_Shares : PySem.W.subIn K (.ref a.c_Shares) (.type "object") = some true
  sf_Shares : PySem.W.selfFirst K a.c_Shares = true
  kit_Shares_tuple : PySem.W.kitOne K (.type "tuple") (.ref a.c_Shares) = some false
  kit_Shares_list : PySem.W.kitOne K (.type "list") (.ref a.c_Shares) = some false
  kit_Shares_int : PySem.W.kitOne K (.type "int") (.ref a.c_Shares) = some false
  na_Shares_cents : NoAttr K a.c_Shares "_cents"
  u_Shares__init_ : ∃ fd, Fun K "__init__" "Shares.__init__" s_Shares__init_ a.f_Shares__init_ fd
  m_Shares__init_ : Meth K a.c_Shares "__init__" a.f_Shares__init_
  mk_Shares : Mk K a.c_Shares a.f_Shares__init_
  u_Shares_cents : ∃ fd, Fun K "cents" "Shares.cents" s_Shares_cents a.f_Shares_cents fd
  pr_Shares_cents : PropOf K a.c_Shares "cents" a.p_Shares_cents a.f_Shares_cents
  u_Shares_whole : ∃ fd, Fun K "whole" "Shares.whole" s_Shares_whole a.f_Shares_whole fd
  pr_Shares_whole : PropOf K a.c_Shares "whole" a.p_Shares_whole a.f_Shares_whole
  u_Shares__getitem_ : ∃ fd, Fun K "__getitem__" "Shares.__getitem__" s_Shares__getitem_ a.f_Shares__getitem_ fd
  m_Shares__getitem_ : Meth K a.c_Shares "__getitem__" a.f_Shares__getitem_
  u_Shares__iter_ : ∃ fd, Fun K "__iter__" "Shares.__iter__" s_Shares__iter_ a.f_Shares__iter_ fd
  m_Shares__iter_ : Meth K a.c_Shares "__iter__" a.f_Shares__iter_
  u_Shares__len_ : ∃ fd, Fun K "__len__" "Shares.__len__" s_Shares__len_ a.f_Shares__len_ fd
  m_Shares__len_ : Meth K a.c_Shares "__len__" a.f_Shares__len_
  u_Shares__eq_ : ∃ fd, Fun K "__eq__" "Shares.__eq__" s_Shares__eq_ a.f_Shares__eq_ fd
  m_Shares__eq_ : Meth K a.c_Shares "__eq__" a.f_Shares__eq_
  ne_Shares__eq_ : OwnNe K a.c_Shares
  u_Shares__add_ : ∃ fd, Fun K "__add__" "Shares.__add__" s_Shares__add_ a.f_Shares__add_ fd
  m_Shares__add_ : Meth K a.c_Shares "__add__" a.f_Shares__add_
  u_Shares__sub_ : ∃ fd, Fun K "__sub__" "Shares.__sub__" s_Shares__sub_ a.f_Shares__sub_ fd
  m_Shares__sub_ : Meth K a.c_Shares "__sub__" a.f_Shares__sub_
  u_Shares__mul_ : ∃ fd, Fun K "__mul__" "Shares.__mul__" s_Shares__mul_ a.f_Shares__mul_ fd
  m_Shares__mul_ : Meth K a.c_Shares "__mul__" a.f_Shares__mul_
  oi_Shares__mul_ : OpInt K a.c_Shares "__mul__" "__rmul__"
  u_Shares__neg_ : ∃ fd, Fun K "__neg__" "Shares.__neg__" s_Shares__neg_ a.f_Shares__neg_ fd
  m_Shares__neg_ : Meth K a.c_Shares "__neg__" a.f_Shares__neg_
  u_Shares__abs_ : ∃ fd, Fun K "__abs__" "Shares.__abs__" s_Shares__abs_ a.f_Shares__abs_ fd
  m_Shares__abs_ : Meth K a.c_Shares "__abs__" a.f_Shares__abs_
  g_Bill : mg "Bill" = some (.ref a.c_Bill)
  cl_Bill : Cls K a.c_Bill
  si_Bill : SlX.SIsi K a.c_Bill
  ob_Bill : PySem.W.subIn K (.ref a.c_Bill) (.type "object") = some true
  sf_Bill : PySem.W.selfFirst K a.c_Bill = true
  kit_Bill_tuple : PySem.W.kitOne K (.type "tuple") (.ref a.c_Bill) = some false
  kit_Bill_list : PySem.W.kitOne K (.type "list") (.ref a.c_Bill) = some false
  kit_Bill_int : PySem.W.kitOne K (.type "int") (.ref a.c_Bill) = some false
  na_Bill_amount : NoAttr K a.c_Bill "_amount"
  na_Bill_seats : NoAttr K a.c_Bill "_seats"
  cr_Bill : ClX.CRead K a.c_Bill (.type "type")
  cv_Bill_MAX_SEATS : ∃ u, ClX.CVal K a.c_Bill (.type "type") "MAX_SEATS" (.int 8) u
  u_Bill__init_ : ∃ fd, Fun K "__init__" "Bill.__init__" s_Bill__init_ a.f_Bill__init_ fd
  m_Bill__init_ : Meth K a.c_Bill "__init__" a.f_Bill__init_
  mk_Bill : Mk K a.c_Bill a.f_Bill__init_
  u_Bill_amount : ∃ fd, Fun K "amount" "Bill.amount" s_Bill_amount a.f_Bill_amount fd
  pr_Bill_amount : PropOf K a.c_Bill "amount" a.p_Bill_amount a.f_Bill_amount
  u_Bill_seats : ∃ fd, Fun K "seats" "Bill.seats" s_Bill_seats a.f_Bill_seats fd
  pr_Bill_seats : PropOf K a.c_Bill "seats" a.p_Bill_seats a.f_Bill_seats
  u_Bill_odd_cents : ∃ fd, Fun K "odd_cents" "Bill.odd_cents" s_Bill_odd_cents a.f_Bill_odd_cents fd
  pr_Bill_odd_cents : PropOf K a.c_Bill "odd_cents" a.p_Bill_odd_cents a.f_Bill_odd_cents
  u_Bill__contains_ : ∃ fd, Fun K "__contains__" "Bill.__contains__" s_Bill__contains_ a.f_Bill__contains_ fd
  m_Bill__contains_ : Meth K a.c_Bill "__contains__" a.f_Bill__contains_
  g_Page : mg "Page" = some (.ref a.c_Page)
  cl_Page : Cls K a.c_Page
  si_Page : SlX.SIsi K a.c_Page
  ob_Page : PySem.W.subIn K (.ref a.c_Page) (.type "object") = some true
  sf_Page : PySem.W.selfFirst K a.c_Page = true
  kit_Page_tuple : PySem.W.kitOne K (.type "tuple") (.ref a.c_Page) = some false
  kit_Page_list : PySem.W.kitOne K (.type "list") (.ref a.c_Page) = some false
  kit_Page_int : PySem.W.kitOne K (.type "int") (.ref a.c_Page) = some false
  na_Page_operation : NoAttr K a.c_Page "operation"
  na_Page_due : NoAttr K a.c_Page "due"
  na_Page_mark : NoAttr K a.c_Page "mark"
  u_Page__init_ : ∃ fd, Fun K "__init__" "Page.__init__" s_Page__init_ a.f_Page__init_ fd
  m_Page__init_ : Meth K a.c_Page "__init__" a.f_Page__init_
  mk_Page : Mk K a.c_Page a.f_Page__init_
  g_Ledger : mg "Ledger" = some (.ref a.c_Ledger)
  cl_Ledger : Cls K a.c_Ledger
  si_Ledger : SlX.SIsi K a.c_Ledger
  ob_Ledger : PySem.W.subIn K (.ref a.c_Ledger) (.type "object") = some true
  sf_Ledger : PySem.W.selfFirst K a.c_Ledger = true
  kit_Ledger_tuple : PySem.W.kitOne K (.type "tuple") (.ref a.c_Ledger) = some false
  kit_Ledger_list : PySem.W.kitOne K (.type "list") (.ref a.c_Ledger) = some false
  kit_Ledger_int : PySem.W.kitOne K (.type "int") (.ref a.c_Ledger) = some false
  na_Ledger_seat_count : NoAttr K a.c_Ledger "_seat_count"
  na_Ledger_pages : NoAttr K a.c_Ledger "_pages"
  na_Ledger_at : NoAttr K a.c_Ledger "_at"
  cr_Ledger : ClX.CRead K a.c_Ledger (.type "type")
  u_Ledger__init_ : ∃ fd, Fun K "__init__" "Ledger.__init__" s_Ledger__init_ a.f_Ledger__init_ fd
  ud_Ledger__init_ : ∃ fd, Fun K "__init__" "Ledger.__init__" s_Ledger__init_ a.f_Ledger__init_ fd ∧ FunD K "__init__" "Ledger.__init__" (defArgs s_Ledger__init_) (defBody s_Ledger__init_) (defScope s_Ledger__init_) [] [("mark", .int 0)] a.f_Ledger__init_ fd
  m_Ledger__init_ : Meth K a.c_Ledger "__init__" a.f_Ledger__init_
  mk_Ledger : Mk K a.c_Ledger a.f_Ledger__init_
  u_Ledger_replay : ∃ fd, Fun K "replay" "Ledger.replay" s_Ledger_replay a.f_Ledger_replay fd
  cm_Ledger_replay : ClX.CMet K a.c_Ledger (.type "type") "replay" a.p_Ledger_replay a.f_Ledger_replay
  u_Ledger_balance : ∃ fd, Fun K "balance" "Ledger.balance" s_Ledger_balance a.f_Ledger_balance fd
  pr_Ledger_balance : PropOf K a.c_Ledger "balance" a.p_Ledger_balance a.f_Ledger_balance
  u_Ledger_mark_now : ∃ fd, Fun K "mark_now" "Ledger.mark_now" s_Ledger_mark_now a.f_Ledger_mark_now fd
  pr_Ledger_mark_now : PropOf K a.c_Ledger "mark_now" a.p_Ledger_mark_now a.f_Ledger_mark_now
  u_Ledger_history : ∃ fd, Fun K "history" "Ledger.history" s_Ledger_history a.f_Ledger_history fd
  pr_Ledger_history : PropOf K a.c_Ledger "history" a.p_Ledger_history a.f_Ledger_history
  u_Ledger_lay : ∃ fd, Fun K "lay" "Ledger.lay" s_Ledger_lay a.f_Ledger_lay fd
  m_Ledger_lay : Meth K a.c_Ledger "lay" a.f_Ledger_lay
  u_Ledger_hand : ∃ fd, Fun K "hand" "Ledger.hand" s_Ledger_hand a.f_Ledger_hand fd
  m_Ledger_hand : Meth K a.c_Ledger "hand" a.f_Ledger_hand
  u_Ledger_move : ∃ fd, Fun K "move" "Ledger.move" s_Ledger_move a.f_Ledger_move fd
  m_Ledger_move : Meth K a.c_Ledger "move" a.f_Ledger_move
  u_Ledger_settle : ∃ fd, Fun K "settle" "Ledger.settle" s_Ledger_settle a.f_Ledger_settle fd
  m_Ledger_settle : Meth K a.c_Ledger "settle" a.f_Ledger_settle
  u_Ledger_undo : ∃ fd, Fun K "undo" "Ledger.undo" s_Ledger_undo a.f_Ledger_undo fd
  m_Ledger_undo : Meth K a.c_Ledger "undo" a.f_Ledger_undo
  u_Ledger_redo : ∃ fd, Fun K "redo" "Ledger.redo" s_Ledger_redo a.f_Ledger_redo fd
  m_Ledger_redo : Meth K a.c_Ledger "redo" a.f_Ledger_redo
  u_Ledger_apply_all : ∃ fd, Fun K "apply_all" "Ledger.apply_all" s_Ledger_apply_all a.f_Ledger_apply_all fd
  m_Ledger_apply_all : Meth K a.c_Ledger "apply_all" a.f_Ledger_apply_all
  u_Ledger_execute : ∃ fd, Fun K "_execute" "Ledger._execute" s_Ledger_execute a.f_Ledger_execute fd
  m_Ledger_execute : Meth K a.c_Ledger "_execute" a.f_Ledger_execute
  u_Ledger_write : ∃ fd, Fun K "_write" "Ledger._write" s_Ledger_write a.f_Ledger_write fd
  m_Ledger_write : Meth K a.c_Ledger "_write" a.f_Ledger_write
  ex_CentError_CentError : PySem.W.exmOne K (.ref a.c_CentError) (.ref a.c_CentError) = some true
  ex_InvalidMark_CentError : PySem.W.exmOne K (.ref a.c_InvalidMark) (.ref a.c_CentError) = some true
  ex_UnknownSeat_CentError : PySem.W.exmOne K (.ref a.c_UnknownSeat) (.ref a.c_CentError) = some true
  ex_OtherTable_CentError : PySem.W.exmOne K (.ref a.c_OtherTable) (.ref a.c_CentError) = some true
  ex_InvalidNumber_CentError : PySem.W.exmOne K (.ref a.c_InvalidNumber) (.ref a.c_CentError) = some true
  ex_NotBalanced_CentError : PySem.W.exmOne K (.ref a.c_NotBalanced) (.ref a.c_CentError) = some true
  ex_EmptyGroup_CentError : PySem.W.exmOne K (.ref a.c_EmptyGroup) (.ref a.c_CentError) = some true
  eg_InvalidBill : mg "InvalidBill" = some (.ref a.c_InvalidBill)
  eg_InvalidEvening : mg "InvalidEvening" = some (.ref a.c_InvalidEvening)
  eg_InvalidOperation : mg "InvalidOperation" = some (.ref a.c_InvalidOperation)
  eg_InvalidMark : mg "InvalidMark" = some (.ref a.c_InvalidMark)
  eg_UnknownSeat : mg "UnknownSeat" = some (.ref a.c_UnknownSeat)
  eg_InvalidNumber : mg "InvalidNumber" = some (.ref a.c_InvalidNumber)
  eg_NotBalanced : mg "NotBalanced" = some (.ref a.c_NotBalanced)
  eg_EmptyGroup : mg "EmptyGroup" = some (.ref a.c_EmptyGroup)
  eg_InvalidText : mg "InvalidText" = some (.ref a.c_InvalidText)
  eg_InvalidReceipt : mg "InvalidReceipt" = some (.ref a.c_InvalidReceipt)
  eg_DecodeError : mg "DecodeError" = some (.ref a.c_DecodeError)
  ek_InvalidMark : ErrK K a a.c_InvalidMark 3
  ek_UnknownSeat : ErrK K a a.c_UnknownSeat 4
  ek_InvalidNumber : ErrK K a a.c_InvalidNumber 5
  ek_NotBalanced : ErrK K a a.c_NotBalanced 6
  ek_EmptyGroup : ErrK K a a.c_EmptyGroup 7
theorem all_mk {K : PySem.W.Frag} {h : Heap} {mg : Str → Option Value} {f__wall f_is_between f_check_seat f_seats_of f_check_payment f_balance_after f_check_balance f_sums_of_sets f_number_of_groups f_parted f_payments_within f_payments f_fewest_payments f_check_amount f_check_seats f_check_seat_count f_check_mark f_no_shares f__law_random f__law_below f__law_shuffled f__law_balance f__law_shares f__law_equal f__law_error_of f__law_all_raise f_law k_law t_law c_CentError c_InvalidBill c_InvalidEvening c_InvalidMark c_UnknownSeat c_OtherTable c_InvalidNumber c_NotBalanced c_EmptyGroup c_InvalidOperation c_InvalidText c_InvalidReceipt c_DecodeError c_Shares f_Shares__init_ f_Shares_cents p_Shares_cents f_Shares_whole p_Shares_whole f_Shares__getitem_ f_Shares__iter_ f_Shares__len_ f_Shares__eq_ f_Shares__add_ f_Shares__sub_ f_Shares__mul_ f_Shares__neg_ f_Shares__abs_ c_Bill f_Bill__init_ f_Bill_amount p_Bill_amount f_Bill_seats p_Bill_seats f_Bill_odd_cents p_Bill_odd_cents f_Bill__contains_ c_Page f_Page__init_ c_Ledger f_Ledger__init_ f_Ledger_replay p_Ledger_replay f_Ledger_balance p_Ledger_balance f_Ledger_mark_now p_Ledger_mark_now f_Ledger_history p_Ledger_history f_Ledger_lay f_Ledger_hand f_Ledger_move f_Ledger_settle f_Ledger_undo f_Ledger_redo f_Ledger_apply_all f_Ledger_execute f_Ledger_write : Addr} (X : K.In h) (G : h.Ns mainGlobals mg)
    {tk_MAX_PAYMENT : Tok}
    {tk_MAX_SETTLED_SEATS : Tok}
    {tk_MAX_AMOUNT : Tok}
    {tk_MIN_SEAT_COUNT : Tok}
    {od1 an1 : Option Addr} {sl1 : Array (Option Value)} {oc1 kV1 dc1 pm1 cd1 ct1 : Value}
    {od2 an2 : Option Addr} {sl2 : Array (Option Value)} {oc2 kV2 dc2 pm2 cd2 ct2 : Value}
    {od3 an3 : Option Addr} {sl3 : Array (Option Value)} {oc3 kV3 dc3 pm3 cd3 ct3 : Value}
    {od4 an4 : Option Addr} {sl4 : Array (Option Value)} {oc4 kV4 dc4 pm4 cd4 ct4 : Value}
    {od5 an5 : Option Addr} {sl5 : Array (Option Value)} {oc5 kV5 dc5 pm5 cd5 ct5 : Value}
    {od6 an6 : Option Addr} {sl6 : Array (Option Value)} {oc6 kV6 dc6 pm6 cd6 ct6 : Value}
    {od7 an7 : Option Addr} {sl7 : Array (Option Value)} {oc7 kV7 dc7 pm7 cd7 ct7 : Value}
    {od8 an8 : Option Addr} {sl8 : Array (Option Value)} {oc8 kV8 dc8 pm8 cd8 ct8 : Value}
    {od9 an9 : Option Addr} {sl9 : Array (Option Value)} {oc9 kV9 dc9 pm9 cd9 ct9 : Value}
    {od10 an10 : Option Addr} {sl10 : Array (Option Value)} {oc10 kV10 dc10 pm10 cd10 ct10 : Value}
    {od11 an11 : Option Addr} {sl11 : Array (Option Value)} {oc11 kV11 dc11 pm11 cd11 ct11 : Value}
    {od12 an12 : Option Addr} {sl12 : Array (Option Value)} {oc12 kV12 dc12 pm12 cd12 ct12 : Value}
    {od13 an13 : Option Addr} {sl13 : Array (Option Value)} {oc13 kV13 dc13 pm13 cd13 ct13 : Value}
    {od14 an14 : Option Addr} {sl14 : Array (Option Value)} {oc14 kV14 dc14 pm14 cd14 ct14 : Value}
    {od15 an15 : Option Addr} {sl15 : Array (Option Value)} {oc15 kV15 dc15 pm15 cd15 ct15 : Value}
    {od16 an16 : Option Addr} {sl16 : Array (Option Value)} {oc16 kV16 dc16 pm16 cd16 ct16 : Value}
    {od17 an17 : Option Addr} {sl17 : Array (Option Value)} {oc17 kV17 dc17 pm17 cd17 ct17 : Value}
    {od18 an18 : Option Addr} {sl18 : Array (Option Value)} {oc18 kV18 dc18 pm18 cd18 ct18 : Value}
    {od19 an19 : Option Addr} {sl19 : Array (Option Value)} {oc19 kV19 dc19 pm19 cd19 ct19 : Value}
    {od20 an20 : Option Addr} {sl20 : Array (Option Value)} {oc20 kV20 dc20 pm20 cd20 ct20 : Value}
    {od21 an21 : Option Addr} {sl21 : Array (Option Value)} {oc21 kV21 dc21 pm21 cd21 ct21 : Value}
    {od22 an22 : Option Addr} {sl22 : Array (Option Value)} {oc22 kV22 dc22 pm22 cd22 ct22 : Value}
    {od23 an23 : Option Addr} {sl23 : Array (Option Value)} {oc23 kV23 dc23 pm23 cd23 ct23 : Value}
    {od24 an24 : Option Addr} {sl24 : Array (Option Value)} {oc24 kV24 dc24 pm24 cd24 ct24 : Value}
    {od25 an25 : Option Addr} {sl25 : Array (Option Value)} {oc25 kV25 dc25 pm25 cd25 ct25 : Value}
    {od26 an26 : Option Addr} {sl26 : Array (Option Value)} {oc26 kV26 dc26 pm26 cd26 ct26 : Value}
    {od27 an27 : Option Addr} {sl27 : Array (Option Value)} {oc27 kV27 dc27 pm27 ct27 : Value} {cod27 : Option Addr} {cvs27 : Array Value} {csl27 : Array (Option Value)}
    {od28 an28 : Option Addr} {sl28 : Array (Option Value)} {oc28 kV28 dc28 pm28 cd28 ct28 : Value}
    {rs_Shares_cents : List Value}
    {od29 an29 : Option Addr} {sl29 : Array (Option Value)} {oc29 kV29 dc29 pm29 cd29 ct29 : Value}
    {rs_Shares_whole : List Value}
    {od30 an30 : Option Addr} {sl30 : Array (Option Value)} {oc30 kV30 dc30 pm30 cd30 ct30 : Value}
    {od31 an31 : Option Addr} {sl31 : Array (Option Value)} {oc31 kV31 dc31 pm31 cd31 ct31 : Value}
    {od32 an32 : Option Addr} {sl32 : Array (Option Value)} {oc32 kV32 dc32 pm32 cd32 ct32 : Value}
    {od33 an33 : Option Addr} {sl33 : Array (Option Value)} {oc33 kV33 dc33 pm33 cd33 ct33 : Value}
    {od34 an34 : Option Addr} {sl34 : Array (Option Value)} {oc34 kV34 dc34 pm34 cd34 ct34 : Value}
    {od35 an35 : Option Addr} {sl35 : Array (Option Value)} {oc35 kV35 dc35 pm35 cd35 ct35 : Value}
    {od36 an36 : Option Addr} {sl36 : Array (Option Value)} {oc36 kV36 dc36 pm36 cd36 ct36 : Value}
    {od37 an37 : Option Addr} {sl37 : Array (Option Value)} {oc37 kV37 dc37 pm37 cd37 ct37 : Value}
    {fo_Shares__mul_ ro_Shares__mul_ : Option Value}
    {od38 an38 : Option Addr} {sl38 : Array (Option Value)} {oc38 kV38 dc38 pm38 cd38 ct38 : Value}
    {od39 an39 : Option Addr} {sl39 : Array (Option Value)} {oc39 kV39 dc39 pm39 cd39 ct39 : Value}
    {tk_Bill_MAX_SEATS : Tok}
    {od40 an40 : Option Addr} {sl40 : Array (Option Value)} {oc40 kV40 dc40 pm40 cd40 ct40 : Value}
    {rs_Bill_amount : List Value}
    {od41 an41 : Option Addr} {sl41 : Array (Option Value)} {oc41 kV41 dc41 pm41 cd41 ct41 : Value}
    {rs_Bill_seats : List Value}
    {od42 an42 : Option Addr} {sl42 : Array (Option Value)} {oc42 kV42 dc42 pm42 cd42 ct42 : Value}
    {rs_Bill_odd_cents : List Value}
    {od43 an43 : Option Addr} {sl43 : Array (Option Value)} {oc43 kV43 dc43 pm43 cd43 ct43 : Value}
    {od44 an44 : Option Addr} {sl44 : Array (Option Value)} {oc44 kV44 dc44 pm44 cd44 ct44 : Value}
    {od45 an45 : Option Addr} {sl45 : Array (Option Value)} {oc45 kV45 dc45 pm45 cd45 ct45 : Value}
    {od46 an46 : Option Addr} {sl46 : Array (Option Value)} {oc46 dc46 pm46 cd46 ct46 : Value} {kd46 : Addr} {kt46 : Tok}
    {rs_Ledger_replay : List Value}
    {od47 an47 : Option Addr} {sl47 : Array (Option Value)} {oc47 kV47 dc47 pm47 cd47 ct47 : Value}
    {rs_Ledger_balance : List Value}
    {od48 an48 : Option Addr} {sl48 : Array (Option Value)} {oc48 kV48 dc48 pm48 cd48 ct48 : Value}
    {rs_Ledger_mark_now : List Value}
    {od49 an49 : Option Addr} {sl49 : Array (Option Value)} {oc49 kV49 dc49 pm49 cd49 ct49 : Value}
    {rs_Ledger_history : List Value}
    {od50 an50 : Option Addr} {sl50 : Array (Option Value)} {oc50 kV50 dc50 pm50 cd50 ct50 : Value}
    {od51 an51 : Option Addr} {sl51 : Array (Option Value)} {oc51 kV51 dc51 pm51 cd51 ct51 : Value}
    {od52 an52 : Option Addr} {sl52 : Array (Option Value)} {oc52 kV52 dc52 pm52 cd52 ct52 : Value}
    {od53 an53 : Option Addr} {sl53 : Array (Option Value)} {oc53 kV53 dc53 pm53 cd53 ct53 : Value}
    {od54 an54 : Option Addr} {sl54 : Array (Option Value)} {oc54 kV54 dc54 pm54 cd54 ct54 : Value}
    {od55 an55 : Option Addr} {sl55 : Array (Option Value)} {oc55 kV55 dc55 pm55 cd55 ct55 : Value}
    {od56 an56 : Option Addr} {sl56 : Array (Option Value)} {oc56 kV56 dc56 pm56 cd56 ct56 : Value}
    {od57 an57 : Option Addr} {sl57 : Array (Option Value)} {oc57 kV57 dc57 pm57 cd57 ct57 : Value}
    {od58 an58 : Option Addr} {sl58 : Array (Option Value)} {oc58 kV58 dc58 pm58 cd58 ct58 : Value}
    {od59 an59 : Option Addr} {sl59 : Array (Option Value)} {oc59 kV59 dc59 pm59 cd59 ct59 : Value}
    (z_TypeError : PySem.W.nsIn K mainGlobals "TypeError" = some none)
    (z_ValueError : PySem.W.nsIn K mainGlobals "ValueError" = some none)
    (z_abs : PySem.W.nsIn K mainGlobals "abs" = some none)
    (z_all : PySem.W.nsIn K mainGlobals "all" = some none)
    (z_bool : PySem.W.nsIn K mainGlobals "bool" = some none)
    (z_classmethod : PySem.W.nsIn K mainGlobals "classmethod" = some none)
    (z_enumerate : PySem.W.nsIn K mainGlobals "enumerate" = some none)
    (z_int : PySem.W.nsIn K mainGlobals "int" = some none)
    (z_isinstance : PySem.W.nsIn K mainGlobals "isinstance" = some none)
    (z_len : PySem.W.nsIn K mainGlobals "len" = some none)
    (z_list : PySem.W.nsIn K mainGlobals "list" = some none)
    (z_max : PySem.W.nsIn K mainGlobals "max" = some none)
    (z_min : PySem.W.nsIn K mainGlobals "min" = some none)
    (z_property : PySem.W.nsIn K mainGlobals "property" = some none)
    (z_range : PySem.W.nsIn K mainGlobals "range" = some none)
    (z_sorted : PySem.W.nsIn K mainGlobals "sorted" = some none)
    (z_str : PySem.W.nsIn K mainGlobals "str" = some none)
    (z_sum : PySem.W.nsIn K mainGlobals "sum" = some none)
    (z_super : PySem.W.nsIn K mainGlobals "super" = some none)
    (z_tuple : PySem.W.nsIn K mainGlobals "tuple" = some none)
    (z_zip : PySem.W.nsIn K mainGlobals "zip" = some none)
    (g_MAX_PAYMENT : PySem.W.nsIn K mainGlobals "MAX_PAYMENT" = some (some (.int 1000000000000000 tk_MAX_PAYMENT)))
    (g_MAX_SETTLED_SEATS : PySem.W.nsIn K mainGlobals "MAX_SETTLED_SEATS" = some (some (.int 8 tk_MAX_SETTLED_SEATS)))
    (g_MAX_AMOUNT : PySem.W.nsIn K mainGlobals "MAX_AMOUNT" = some (some (.int 1000000000000 tk_MAX_AMOUNT)))
    (g_MIN_SEAT_COUNT : PySem.W.nsIn K mainGlobals "MIN_SEAT_COUNT" = some (some (.int 2 tk_MIN_SEAT_COUNT)))
    (g__wall : PySem.W.nsIn K mainGlobals "_wall" = some (some (.ref f__wall)))
    (l1 : K.lookup f__wall = some ⟨oc1, od1, .func (PySem.W.fnOf "_wall" "_wall" (defArgs s__wall) (defBody s__wall) (defScope s__wall) .none kV1 dc1 pm1 an1 cd1 ct1), sl1⟩)
    (c1 : PySem.W.codeIn K cd1 "_wall" = true)
    (k1 : PySem.W.keepIn K (.ref f__wall) = true)
    (g_is_between : PySem.W.nsIn K mainGlobals "is_between" = some (some (.ref f_is_between)))
    (l2 : K.lookup f_is_between = some ⟨oc2, od2, .func (PySem.W.fnOf "is_between" "is_between" (defArgs s_is_between) (defBody s_is_between) (defScope s_is_between) .none kV2 dc2 pm2 an2 cd2 ct2), sl2⟩)
    (c2 : PySem.W.codeIn K cd2 "is_between" = true)
    (k2 : PySem.W.keepIn K (.ref f_is_between) = true)
    (g_check_seat : PySem.W.nsIn K mainGlobals "check_seat" = some (some (.ref f_check_seat)))
    (l3 : K.lookup f_check_seat = some ⟨oc3, od3, .func (PySem.W.fnOf "check_seat" "check_seat" (defArgs s_check_seat) (defBody s_check_seat) (defScope s_check_seat) .none kV3 dc3 pm3 an3 cd3 ct3), sl3⟩)
    (c3 : PySem.W.codeIn K cd3 "check_seat" = true)
    (k3 : PySem.W.keepIn K (.ref f_check_seat) = true)
    (g_seats_of : PySem.W.nsIn K mainGlobals "seats_of" = some (some (.ref f_seats_of)))
    (l4 : K.lookup f_seats_of = some ⟨oc4, od4, .func (PySem.W.fnOf "seats_of" "seats_of" (defArgs s_seats_of) (defBody s_seats_of) (defScope s_seats_of) .none kV4 dc4 pm4 an4 cd4 ct4), sl4⟩)
    (c4 : PySem.W.codeIn K cd4 "seats_of" = true)
    (k4 : PySem.W.keepIn K (.ref f_seats_of) = true)
    (g_check_payment : PySem.W.nsIn K mainGlobals "check_payment" = some (some (.ref f_check_payment)))
    (l5 : K.lookup f_check_payment = some ⟨oc5, od5, .func (PySem.W.fnOf "check_payment" "check_payment" (defArgs s_check_payment) (defBody s_check_payment) (defScope s_check_payment) .none kV5 dc5 pm5 an5 cd5 ct5), sl5⟩)
    (c5 : PySem.W.codeIn K cd5 "check_payment" = true)
    (k5 : PySem.W.keepIn K (.ref f_check_payment) = true)
    (g_balance_after : PySem.W.nsIn K mainGlobals "balance_after" = some (some (.ref f_balance_after)))
    (l6 : K.lookup f_balance_after = some ⟨oc6, od6, .func (PySem.W.fnOf "balance_after" "balance_after" (defArgs s_balance_after) (defBody s_balance_after) (defScope s_balance_after) .none kV6 dc6 pm6 an6 cd6 ct6), sl6⟩)
    (c6 : PySem.W.codeIn K cd6 "balance_after" = true)
    (k6 : PySem.W.keepIn K (.ref f_balance_after) = true)
    (g_check_balance : PySem.W.nsIn K mainGlobals "check_balance" = some (some (.ref f_check_balance)))
    (l7 : K.lookup f_check_balance = some ⟨oc7, od7, .func (PySem.W.fnOf "check_balance" "check_balance" (defArgs s_check_balance) (defBody s_check_balance) (defScope s_check_balance) .none kV7 dc7 pm7 an7 cd7 ct7), sl7⟩)
    (c7 : PySem.W.codeIn K cd7 "check_balance" = true)
    (k7 : PySem.W.keepIn K (.ref f_check_balance) = true)
    (g_sums_of_sets : PySem.W.nsIn K mainGlobals "sums_of_sets" = some (some (.ref f_sums_of_sets)))
    (l8 : K.lookup f_sums_of_sets = some ⟨oc8, od8, .func (PySem.W.fnOf "sums_of_sets" "sums_of_sets" (defArgs s_sums_of_sets) (defBody s_sums_of_sets) (defScope s_sums_of_sets) .none kV8 dc8 pm8 an8 cd8 ct8), sl8⟩)
    (c8 : PySem.W.codeIn K cd8 "sums_of_sets" = true)
    (k8 : PySem.W.keepIn K (.ref f_sums_of_sets) = true)
    (g_number_of_groups : PySem.W.nsIn K mainGlobals "number_of_groups" = some (some (.ref f_number_of_groups)))
    (l9 : K.lookup f_number_of_groups = some ⟨oc9, od9, .func (PySem.W.fnOf "number_of_groups" "number_of_groups" (defArgs s_number_of_groups) (defBody s_number_of_groups) (defScope s_number_of_groups) .none kV9 dc9 pm9 an9 cd9 ct9), sl9⟩)
    (c9 : PySem.W.codeIn K cd9 "number_of_groups" = true)
    (k9 : PySem.W.keepIn K (.ref f_number_of_groups) = true)
    (g_parted : PySem.W.nsIn K mainGlobals "parted" = some (some (.ref f_parted)))
    (l10 : K.lookup f_parted = some ⟨oc10, od10, .func (PySem.W.fnOf "parted" "parted" (defArgs s_parted) (defBody s_parted) (defScope s_parted) .none kV10 dc10 pm10 an10 cd10 ct10), sl10⟩)
    (c10 : PySem.W.codeIn K cd10 "parted" = true)
    (k10 : PySem.W.keepIn K (.ref f_parted) = true)
    (g_payments_within : PySem.W.nsIn K mainGlobals "payments_within" = some (some (.ref f_payments_within)))
    (l11 : K.lookup f_payments_within = some ⟨oc11, od11, .func (PySem.W.fnOf "payments_within" "payments_within" (defArgs s_payments_within) (defBody s_payments_within) (defScope s_payments_within) .none kV11 dc11 pm11 an11 cd11 ct11), sl11⟩)
    (c11 : PySem.W.codeIn K cd11 "payments_within" = true)
    (k11 : PySem.W.keepIn K (.ref f_payments_within) = true)
    (g_payments : PySem.W.nsIn K mainGlobals "payments" = some (some (.ref f_payments)))
    (l12 : K.lookup f_payments = some ⟨oc12, od12, .func (PySem.W.fnOf "payments" "payments" (defArgs s_payments) (defBody s_payments) (defScope s_payments) .none kV12 dc12 pm12 an12 cd12 ct12), sl12⟩)
    (c12 : PySem.W.codeIn K cd12 "payments" = true)
    (k12 : PySem.W.keepIn K (.ref f_payments) = true)
    (g_fewest_payments : PySem.W.nsIn K mainGlobals "fewest_payments" = some (some (.ref f_fewest_payments)))
    (l13 : K.lookup f_fewest_payments = some ⟨oc13, od13, .func (PySem.W.fnOf "fewest_payments" "fewest_payments" (defArgs s_fewest_payments) (defBody s_fewest_payments) (defScope s_fewest_payments) .none kV13 dc13 pm13 an13 cd13 ct13), sl13⟩)
    (c13 : PySem.W.codeIn K cd13 "fewest_payments" = true)
    (k13 : PySem.W.keepIn K (.ref f_fewest_payments) = true)
    (g_check_amount : PySem.W.nsIn K mainGlobals "check_amount" = some (some (.ref f_check_amount)))
    (l14 : K.lookup f_check_amount = some ⟨oc14, od14, .func (PySem.W.fnOf "check_amount" "check_amount" (defArgs s_check_amount) (defBody s_check_amount) (defScope s_check_amount) .none kV14 dc14 pm14 an14 cd14 ct14), sl14⟩)
    (c14 : PySem.W.codeIn K cd14 "check_amount" = true)
    (k14 : PySem.W.keepIn K (.ref f_check_amount) = true)
    (g_check_seats : PySem.W.nsIn K mainGlobals "check_seats" = some (some (.ref f_check_seats)))
    (l15 : K.lookup f_check_seats = some ⟨oc15, od15, .func (PySem.W.fnOf "check_seats" "check_seats" (defArgs s_check_seats) (defBody s_check_seats) (defScope s_check_seats) .none kV15 dc15 pm15 an15 cd15 ct15), sl15⟩)
    (c15 : PySem.W.codeIn K cd15 "check_seats" = true)
    (k15 : PySem.W.keepIn K (.ref f_check_seats) = true)
    (g_check_seat_count : PySem.W.nsIn K mainGlobals "check_seat_count" = some (some (.ref f_check_seat_count)))
    (l16 : K.lookup f_check_seat_count = some ⟨oc16, od16, .func (PySem.W.fnOf "check_seat_count" "check_seat_count" (defArgs s_check_seat_count) (defBody s_check_seat_count) (defScope s_check_seat_count) .none kV16 dc16 pm16 an16 cd16 ct16), sl16⟩)
    (c16 : PySem.W.codeIn K cd16 "check_seat_count" = true)
    (k16 : PySem.W.keepIn K (.ref f_check_seat_count) = true)
    (g_check_mark : PySem.W.nsIn K mainGlobals "check_mark" = some (some (.ref f_check_mark)))
    (l17 : K.lookup f_check_mark = some ⟨oc17, od17, .func (PySem.W.fnOf "check_mark" "check_mark" (defArgs s_check_mark) (defBody s_check_mark) (defScope s_check_mark) .none kV17 dc17 pm17 an17 cd17 ct17), sl17⟩)
    (c17 : PySem.W.codeIn K cd17 "check_mark" = true)
    (k17 : PySem.W.keepIn K (.ref f_check_mark) = true)
    (g_no_shares : PySem.W.nsIn K mainGlobals "no_shares" = some (some (.ref f_no_shares)))
    (l18 : K.lookup f_no_shares = some ⟨oc18, od18, .func (PySem.W.fnOf "no_shares" "no_shares" (defArgs s_no_shares) (defBody s_no_shares) (defScope s_no_shares) .none kV18 dc18 pm18 an18 cd18 ct18), sl18⟩)
    (c18 : PySem.W.codeIn K cd18 "no_shares" = true)
    (k18 : PySem.W.keepIn K (.ref f_no_shares) = true)
    (g__law_random : PySem.W.nsIn K mainGlobals "_law_random" = some (some (.ref f__law_random)))
    (l19 : K.lookup f__law_random = some ⟨oc19, od19, .func (PySem.W.fnOf "_law_random" "_law_random" (defArgs s__law_random) (defBody s__law_random) (defScope s__law_random) .none kV19 dc19 pm19 an19 cd19 ct19), sl19⟩)
    (c19 : PySem.W.codeIn K cd19 "_law_random" = true)
    (k19 : PySem.W.keepIn K (.ref f__law_random) = true)
    (g__law_below : PySem.W.nsIn K mainGlobals "_law_below" = some (some (.ref f__law_below)))
    (l20 : K.lookup f__law_below = some ⟨oc20, od20, .func (PySem.W.fnOf "_law_below" "_law_below" (defArgs s__law_below) (defBody s__law_below) (defScope s__law_below) .none kV20 dc20 pm20 an20 cd20 ct20), sl20⟩)
    (c20 : PySem.W.codeIn K cd20 "_law_below" = true)
    (k20 : PySem.W.keepIn K (.ref f__law_below) = true)
    (g__law_shuffled : PySem.W.nsIn K mainGlobals "_law_shuffled" = some (some (.ref f__law_shuffled)))
    (l21 : K.lookup f__law_shuffled = some ⟨oc21, od21, .func (PySem.W.fnOf "_law_shuffled" "_law_shuffled" (defArgs s__law_shuffled) (defBody s__law_shuffled) (defScope s__law_shuffled) .none kV21 dc21 pm21 an21 cd21 ct21), sl21⟩)
    (c21 : PySem.W.codeIn K cd21 "_law_shuffled" = true)
    (k21 : PySem.W.keepIn K (.ref f__law_shuffled) = true)
    (g__law_balance : PySem.W.nsIn K mainGlobals "_law_balance" = some (some (.ref f__law_balance)))
    (l22 : K.lookup f__law_balance = some ⟨oc22, od22, .func (PySem.W.fnOf "_law_balance" "_law_balance" (defArgs s__law_balance) (defBody s__law_balance) (defScope s__law_balance) .none kV22 dc22 pm22 an22 cd22 ct22), sl22⟩)
    (c22 : PySem.W.codeIn K cd22 "_law_balance" = true)
    (k22 : PySem.W.keepIn K (.ref f__law_balance) = true)
    (g__law_shares : PySem.W.nsIn K mainGlobals "_law_shares" = some (some (.ref f__law_shares)))
    (l23 : K.lookup f__law_shares = some ⟨oc23, od23, .func (PySem.W.fnOf "_law_shares" "_law_shares" (defArgs s__law_shares) (defBody s__law_shares) (defScope s__law_shares) .none kV23 dc23 pm23 an23 cd23 ct23), sl23⟩)
    (c23 : PySem.W.codeIn K cd23 "_law_shares" = true)
    (k23 : PySem.W.keepIn K (.ref f__law_shares) = true)
    (g__law_equal : PySem.W.nsIn K mainGlobals "_law_equal" = some (some (.ref f__law_equal)))
    (l24 : K.lookup f__law_equal = some ⟨oc24, od24, .func (PySem.W.fnOf "_law_equal" "_law_equal" (defArgs s__law_equal) (defBody s__law_equal) (defScope s__law_equal) .none kV24 dc24 pm24 an24 cd24 ct24), sl24⟩)
    (c24 : PySem.W.codeIn K cd24 "_law_equal" = true)
    (k24 : PySem.W.keepIn K (.ref f__law_equal) = true)
    (g__law_error_of : PySem.W.nsIn K mainGlobals "_law_error_of" = some (some (.ref f__law_error_of)))
    (l25 : K.lookup f__law_error_of = some ⟨oc25, od25, .func (PySem.W.fnOf "_law_error_of" "_law_error_of" (defArgs s__law_error_of) (defBody s__law_error_of) (defScope s__law_error_of) .none kV25 dc25 pm25 an25 cd25 ct25), sl25⟩)
    (c25 : PySem.W.codeIn K cd25 "_law_error_of" = true)
    (k25 : PySem.W.keepIn K (.ref f__law_error_of) = true)
    (g__law_all_raise : PySem.W.nsIn K mainGlobals "_law_all_raise" = some (some (.ref f__law_all_raise)))
    (l26 : K.lookup f__law_all_raise = some ⟨oc26, od26, .func (PySem.W.fnOf "_law_all_raise" "_law_all_raise" (defArgs s__law_all_raise) (defBody s__law_all_raise) (defScope s__law_all_raise) .none kV26 dc26 pm26 an26 cd26 ct26), sl26⟩)
    (c26 : PySem.W.codeIn K cd26 "_law_all_raise" = true)
    (k26 : PySem.W.keepIn K (.ref f__law_all_raise) = true)
    (g_law : PySem.W.nsIn K mainGlobals "law" = some (some (.ref f_law)))
    (l27 : K.lookup f_law = some ⟨oc27, od27, .func (PySem.W.fnOf "law" "law" (defArgs s_law) (defBody s_law) (defScope s_law) .none kV27 dc27 pm27 an27 (.ref k_law) ct27), sl27⟩)
    (c27 : PySem.W.codeIn K (.ref k_law) "law" = true)
    (k27 : PySem.W.keepIn K (.ref f_law) = true)
    (lc27 : K.lookup k_law = some ⟨.type "code", cod27, .fields cvs27, csl27⟩)
    (rt27 : cvs27[11]? = some (.ref t_law))
    (rh27 : hdOk cvs27 k_law t_law = true)
    (rn27 : K.lookup t_law = none)
    (g_CentError : PySem.W.nsIn K mainGlobals "CentError" = some (some (.ref c_CentError)))
    (x_CentError : PySem.W.excIn K c_CentError [.type "ValueError", .type "Exception", .type "BaseException", .type "object"] "ValueError.__new__" = true)
    (xk_CentError : PySem.W.keepIn K (.ref c_CentError) = true)
    (xs_CentError : PySem.W.subIn K (.ref c_CentError) (.type "BaseException") = some true)
    (xt_CentError : PySem.W.typeIn K (.ref c_CentError) = some (.type "type"))
    (g_InvalidBill : PySem.W.nsIn K mainGlobals "InvalidBill" = some (some (.ref c_InvalidBill)))
    (g_InvalidEvening : PySem.W.nsIn K mainGlobals "InvalidEvening" = some (some (.ref c_InvalidEvening)))
    (g_InvalidMark : PySem.W.nsIn K mainGlobals "InvalidMark" = some (some (.ref c_InvalidMark)))
    (x_InvalidMark : PySem.W.excIn K c_InvalidMark [.type "ValueError", .type "Exception", .type "BaseException", .type "object"] "ValueError.__new__" = true)
    (xk_InvalidMark : PySem.W.keepIn K (.ref c_InvalidMark) = true)
    (xs_InvalidMark : PySem.W.subIn K (.ref c_InvalidMark) (.type "BaseException") = some true)
    (xt_InvalidMark : PySem.W.typeIn K (.ref c_InvalidMark) = some (.type "type"))
    (g_UnknownSeat : PySem.W.nsIn K mainGlobals "UnknownSeat" = some (some (.ref c_UnknownSeat)))
    (x_UnknownSeat : PySem.W.excIn K c_UnknownSeat [.type "ValueError", .type "Exception", .type "BaseException", .type "object"] "ValueError.__new__" = true)
    (xk_UnknownSeat : PySem.W.keepIn K (.ref c_UnknownSeat) = true)
    (xs_UnknownSeat : PySem.W.subIn K (.ref c_UnknownSeat) (.type "BaseException") = some true)
    (xt_UnknownSeat : PySem.W.typeIn K (.ref c_UnknownSeat) = some (.type "type"))
    (g_OtherTable : PySem.W.nsIn K mainGlobals "OtherTable" = some (some (.ref c_OtherTable)))
    (x_OtherTable : PySem.W.excIn K c_OtherTable [.type "ValueError", .type "Exception", .type "BaseException", .type "object"] "ValueError.__new__" = true)
    (xk_OtherTable : PySem.W.keepIn K (.ref c_OtherTable) = true)
    (xs_OtherTable : PySem.W.subIn K (.ref c_OtherTable) (.type "BaseException") = some true)
    (xt_OtherTable : PySem.W.typeIn K (.ref c_OtherTable) = some (.type "type"))
    (g_InvalidNumber : PySem.W.nsIn K mainGlobals "InvalidNumber" = some (some (.ref c_InvalidNumber)))
    (x_InvalidNumber : PySem.W.excIn K c_InvalidNumber [.type "ValueError", .type "Exception", .type "BaseException", .type "object"] "ValueError.__new__" = true)
    (xk_InvalidNumber : PySem.W.keepIn K (.ref c_InvalidNumber) = true)
    (xs_InvalidNumber : PySem.W.subIn K (.ref c_InvalidNumber) (.type "BaseException") = some true)
    (xt_InvalidNumber : PySem.W.typeIn K (.ref c_InvalidNumber) = some (.type "type"))
    (g_NotBalanced : PySem.W.nsIn K mainGlobals "NotBalanced" = some (some (.ref c_NotBalanced)))
    (x_NotBalanced : PySem.W.excIn K c_NotBalanced [.type "ValueError", .type "Exception", .type "BaseException", .type "object"] "ValueError.__new__" = true)
    (xk_NotBalanced : PySem.W.keepIn K (.ref c_NotBalanced) = true)
    (xs_NotBalanced : PySem.W.subIn K (.ref c_NotBalanced) (.type "BaseException") = some true)
    (xt_NotBalanced : PySem.W.typeIn K (.ref c_NotBalanced) = some (.type "type"))
    (g_EmptyGroup : PySem.W.nsIn K mainGlobals "EmptyGroup" = some (some (.ref c_EmptyGroup)))
    (x_EmptyGroup : PySem.W.excIn K c_EmptyGroup [.type "ValueError", .type "Exception", .type "BaseException", .type "object"] "ValueError.__new__" = true)
    (xk_EmptyGroup : PySem.W.keepIn K (.ref c_EmptyGroup) = true)
    (xs_EmptyGroup : PySem.W.subIn K (.ref c_EmptyGroup) (.type "BaseException") = some true)
    (xt_EmptyGroup : PySem.W.typeIn K (.ref c_EmptyGroup) = some (.type "type"))
    (g_InvalidOperation : PySem.W.nsIn K mainGlobals "InvalidOperation" = some (some (.ref c_InvalidOperation)))
    (g_InvalidText : PySem.W.nsIn K mainGlobals "InvalidText" = some (some (.ref c_InvalidText)))
    (g_InvalidReceipt : PySem.W.nsIn K mainGlobals "InvalidReceipt" = some (some (.ref c_InvalidReceipt)))
    (g_DecodeError : PySem.W.nsIn K mainGlobals "DecodeError" = some (some (.ref c_DecodeError)))
    (g_Shares : PySem.W.nsIn K mainGlobals "Shares" = some (some (.ref c_Shares)))
    (pg_Shares : PySem.W.plainGet K c_Shares Str.empty = true)
    (hd_Shares : PySem.W.hasDictIn K c_Shares = true)
    (po_Shares : PySem.W.plainOver K c_Shares = true)
    (sa_Shares : PySem.W.findIn K (.ref c_Shares) "__setattr__" = some (some (.builtin "object.__setattr__")))
    (ia_Shares : PySem.W.findIn K (.ref c_Shares) "__class__" = some (some (.builtin "object.__class__")))
    (ib_Shares : PySem.W.specialIn K (.builtin "object.__class__") "__get__" = some (some (.builtin "getset_descriptor.__get__")))
    (ic_Shares : PySem.W.takesIn K (.builtin "object.__class__") = some true)
    (id_Shares : PySem.W.mroIn K c_Shares (.type "object") = some true)
    (ob_Shares : PySem.W.subIn K (.ref c_Shares) (.type "object") = some true)
    (sf_Shares : PySem.W.selfFirst K c_Shares = true)
    (tyc_Shares : PySem.W.typeIn K (.ref c_Shares) = some (.type "type"))
    (kit_Shares_tuple : PySem.W.subIn K (.type "tuple") (.ref c_Shares) = some false)
    (kit_Shares_list : PySem.W.subIn K (.type "list") (.ref c_Shares) = some false)
    (kit_Shares_int : PySem.W.subIn K (.type "int") (.ref c_Shares) = some false)
    (na_Shares_cents : PySem.W.findIn K (.ref c_Shares) "_cents" = some none)
    (ma_Shares__init_ : PySem.W.findIn K (.ref c_Shares) "__init__" = some (some (.ref f_Shares__init_)))
    (mb_Shares__init_ : PySem.W.isFn K (.ref f_Shares__init_) = true)
    (l28 : K.lookup f_Shares__init_ = some ⟨oc28, od28, .func (PySem.W.fnOf "__init__" "Shares.__init__" (defArgs s_Shares__init_) (defBody s_Shares__init_) (defScope s_Shares__init_) .none kV28 dc28 pm28 an28 cd28 ct28), sl28⟩)
    (c28 : PySem.W.codeIn K cd28 "Shares.__init__" = true)
    (k28 : PySem.W.keepIn K (.ref f_Shares__init_) = true)
    (mk_Shares : PySem.W.makesIn K c_Shares = true)
    (kc_Shares : PySem.W.keepIn K (.ref c_Shares) = true)
    (pa_Shares_cents : PySem.W.findIn K (.ref c_Shares) "cents" = some (some (.ref p_Shares_cents)))
    (pb_Shares_cents : PySem.W.specialIn K (.ref p_Shares_cents) "__get__" = some (some (.builtin "property.__get__")))
    (pc_Shares_cents : PySem.W.takesIn K (.ref p_Shares_cents) = some true)
    (pd_Shares_cents : PySem.W.recIn K p_Shares_cents "property" = some (.ref f_Shares_cents :: rs_Shares_cents))
    (l29 : K.lookup f_Shares_cents = some ⟨oc29, od29, .func (PySem.W.fnOf "cents" "Shares.cents" (defArgs s_Shares_cents) (defBody s_Shares_cents) (defScope s_Shares_cents) .none kV29 dc29 pm29 an29 cd29 ct29), sl29⟩)
    (c29 : PySem.W.codeIn K cd29 "Shares.cents" = true)
    (k29 : PySem.W.keepIn K (.ref f_Shares_cents) = true)
    (pa_Shares_whole : PySem.W.findIn K (.ref c_Shares) "whole" = some (some (.ref p_Shares_whole)))
    (pb_Shares_whole : PySem.W.specialIn K (.ref p_Shares_whole) "__get__" = some (some (.builtin "property.__get__")))
    (pc_Shares_whole : PySem.W.takesIn K (.ref p_Shares_whole) = some true)
    (pd_Shares_whole : PySem.W.recIn K p_Shares_whole "property" = some (.ref f_Shares_whole :: rs_Shares_whole))
    (l30 : K.lookup f_Shares_whole = some ⟨oc30, od30, .func (PySem.W.fnOf "whole" "Shares.whole" (defArgs s_Shares_whole) (defBody s_Shares_whole) (defScope s_Shares_whole) .none kV30 dc30 pm30 an30 cd30 ct30), sl30⟩)
    (c30 : PySem.W.codeIn K cd30 "Shares.whole" = true)
    (k30 : PySem.W.keepIn K (.ref f_Shares_whole) = true)
    (ma_Shares__getitem_ : PySem.W.findIn K (.ref c_Shares) "__getitem__" = some (some (.ref f_Shares__getitem_)))
    (mb_Shares__getitem_ : PySem.W.isFn K (.ref f_Shares__getitem_) = true)
    (l31 : K.lookup f_Shares__getitem_ = some ⟨oc31, od31, .func (PySem.W.fnOf "__getitem__" "Shares.__getitem__" (defArgs s_Shares__getitem_) (defBody s_Shares__getitem_) (defScope s_Shares__getitem_) .none kV31 dc31 pm31 an31 cd31 ct31), sl31⟩)
    (c31 : PySem.W.codeIn K cd31 "Shares.__getitem__" = true)
    (k31 : PySem.W.keepIn K (.ref f_Shares__getitem_) = true)
    (ma_Shares__iter_ : PySem.W.findIn K (.ref c_Shares) "__iter__" = some (some (.ref f_Shares__iter_)))
    (mb_Shares__iter_ : PySem.W.isFn K (.ref f_Shares__iter_) = true)
    (l32 : K.lookup f_Shares__iter_ = some ⟨oc32, od32, .func (PySem.W.fnOf "__iter__" "Shares.__iter__" (defArgs s_Shares__iter_) (defBody s_Shares__iter_) (defScope s_Shares__iter_) .none kV32 dc32 pm32 an32 cd32 ct32), sl32⟩)
    (c32 : PySem.W.codeIn K cd32 "Shares.__iter__" = true)
    (k32 : PySem.W.keepIn K (.ref f_Shares__iter_) = true)
    (ma_Shares__len_ : PySem.W.findIn K (.ref c_Shares) "__len__" = some (some (.ref f_Shares__len_)))
    (mb_Shares__len_ : PySem.W.isFn K (.ref f_Shares__len_) = true)
    (l33 : K.lookup f_Shares__len_ = some ⟨oc33, od33, .func (PySem.W.fnOf "__len__" "Shares.__len__" (defArgs s_Shares__len_) (defBody s_Shares__len_) (defScope s_Shares__len_) .none kV33 dc33 pm33 an33 cd33 ct33), sl33⟩)
    (c33 : PySem.W.codeIn K cd33 "Shares.__len__" = true)
    (k33 : PySem.W.keepIn K (.ref f_Shares__len_) = true)
    (ma_Shares__eq_ : PySem.W.findIn K (.ref c_Shares) "__eq__" = some (some (.ref f_Shares__eq_)))
    (mb_Shares__eq_ : PySem.W.isFn K (.ref f_Shares__eq_) = true)
    (l34 : K.lookup f_Shares__eq_ = some ⟨oc34, od34, .func (PySem.W.fnOf "__eq__" "Shares.__eq__" (defArgs s_Shares__eq_) (defBody s_Shares__eq_) (defScope s_Shares__eq_) .none kV34 dc34 pm34 an34 cd34 ct34), sl34⟩)
    (c34 : PySem.W.codeIn K cd34 "Shares.__eq__" = true)
    (k34 : PySem.W.keepIn K (.ref f_Shares__eq_) = true)
    (na_Shares__eq_ : PySem.W.findIn K (.ref c_Shares) "__ne__" = some (some (.builtin "object.__ne__")))
    (nf_Shares__eq_ : PySem.W.notFirst K c_Shares (.ref c_Shares) = true)
    (nt_Shares__eq_ : PySem.W.notFirst K c_Shares (.type "tuple") = true)
    (ma_Shares__add_ : PySem.W.findIn K (.ref c_Shares) "__add__" = some (some (.ref f_Shares__add_)))
    (mb_Shares__add_ : PySem.W.isFn K (.ref f_Shares__add_) = true)
    (l35 : K.lookup f_Shares__add_ = some ⟨oc35, od35, .func (PySem.W.fnOf "__add__" "Shares.__add__" (defArgs s_Shares__add_) (defBody s_Shares__add_) (defScope s_Shares__add_) .none kV35 dc35 pm35 an35 cd35 ct35), sl35⟩)
    (c35 : PySem.W.codeIn K cd35 "Shares.__add__" = true)
    (k35 : PySem.W.keepIn K (.ref f_Shares__add_) = true)
    (ma_Shares__sub_ : PySem.W.findIn K (.ref c_Shares) "__sub__" = some (some (.ref f_Shares__sub_)))
    (mb_Shares__sub_ : PySem.W.isFn K (.ref f_Shares__sub_) = true)
    (l36 : K.lookup f_Shares__sub_ = some ⟨oc36, od36, .func (PySem.W.fnOf "__sub__" "Shares.__sub__" (defArgs s_Shares__sub_) (defBody s_Shares__sub_) (defScope s_Shares__sub_) .none kV36 dc36 pm36 an36 cd36 ct36), sl36⟩)
    (c36 : PySem.W.codeIn K cd36 "Shares.__sub__" = true)
    (k36 : PySem.W.keepIn K (.ref f_Shares__sub_) = true)
    (ma_Shares__mul_ : PySem.W.findIn K (.ref c_Shares) "__mul__" = some (some (.ref f_Shares__mul_)))
    (mb_Shares__mul_ : PySem.W.isFn K (.ref f_Shares__mul_) = true)
    (l37 : K.lookup f_Shares__mul_ = some ⟨oc37, od37, .func (PySem.W.fnOf "__mul__" "Shares.__mul__" (defArgs s_Shares__mul_) (defBody s_Shares__mul_) (defScope s_Shares__mul_) .none kV37 dc37 pm37 an37 cd37 ct37), sl37⟩)
    (c37 : PySem.W.codeIn K cd37 "Shares.__mul__" = true)
    (k37 : PySem.W.keepIn K (.ref f_Shares__mul_) = true)
    (oa_Shares__mul_ : PySem.W.findIn K (.ref c_Shares) "__rmul__" = some none)
    (ob_Shares__mul_ : PySem.W.findIn K (.type "int") "__mul__" = some fo_Shares__mul_)
    (oc_Shares__mul_ : PySem.W.findIn K (.type "int") "__rmul__" = some ro_Shares__mul_)
    (od_Shares__mul_ : PySem.W.subIn K (.type "int") (.ref c_Shares) = some false)
    (ma_Shares__neg_ : PySem.W.findIn K (.ref c_Shares) "__neg__" = some (some (.ref f_Shares__neg_)))
    (mb_Shares__neg_ : PySem.W.isFn K (.ref f_Shares__neg_) = true)
    (l38 : K.lookup f_Shares__neg_ = some ⟨oc38, od38, .func (PySem.W.fnOf "__neg__" "Shares.__neg__" (defArgs s_Shares__neg_) (defBody s_Shares__neg_) (defScope s_Shares__neg_) .none kV38 dc38 pm38 an38 cd38 ct38), sl38⟩)
    (c38 : PySem.W.codeIn K cd38 "Shares.__neg__" = true)
    (k38 : PySem.W.keepIn K (.ref f_Shares__neg_) = true)
    (ma_Shares__abs_ : PySem.W.findIn K (.ref c_Shares) "__abs__" = some (some (.ref f_Shares__abs_)))
    (mb_Shares__abs_ : PySem.W.isFn K (.ref f_Shares__abs_) = true)
    (l39 : K.lookup f_Shares__abs_ = some ⟨oc39, od39, .func (PySem.W.fnOf "__abs__" "Shares.__abs__" (defArgs s_Shares__abs_) (defBody s_Shares__abs_) (defScope s_Shares__abs_) .none kV39 dc39 pm39 an39 cd39 ct39), sl39⟩)
    (c39 : PySem.W.codeIn K cd39 "Shares.__abs__" = true)
    (k39 : PySem.W.keepIn K (.ref f_Shares__abs_) = true)
    (g_Bill : PySem.W.nsIn K mainGlobals "Bill" = some (some (.ref c_Bill)))
    (pg_Bill : PySem.W.plainGet K c_Bill Str.empty = true)
    (hd_Bill : PySem.W.hasDictIn K c_Bill = true)
    (po_Bill : PySem.W.plainOver K c_Bill = true)
    (sa_Bill : PySem.W.findIn K (.ref c_Bill) "__setattr__" = some (some (.builtin "object.__setattr__")))
    (ia_Bill : PySem.W.findIn K (.ref c_Bill) "__class__" = some (some (.builtin "object.__class__")))
    (ib_Bill : PySem.W.specialIn K (.builtin "object.__class__") "__get__" = some (some (.builtin "getset_descriptor.__get__")))
    (ic_Bill : PySem.W.takesIn K (.builtin "object.__class__") = some true)
    (id_Bill : PySem.W.mroIn K c_Bill (.type "object") = some true)
    (ob_Bill : PySem.W.subIn K (.ref c_Bill) (.type "object") = some true)
    (sf_Bill : PySem.W.selfFirst K c_Bill = true)
    (tyc_Bill : PySem.W.typeIn K (.ref c_Bill) = some (.type "type"))
    (kit_Bill_tuple : PySem.W.subIn K (.type "tuple") (.ref c_Bill) = some false)
    (kit_Bill_list : PySem.W.subIn K (.type "list") (.ref c_Bill) = some false)
    (kit_Bill_int : PySem.W.subIn K (.type "int") (.ref c_Bill) = some false)
    (na_Bill_amount : PySem.W.findIn K (.ref c_Bill) "_amount" = some none)
    (na_Bill_seats : PySem.W.findIn K (.ref c_Bill) "_seats" = some none)
    (cra_Bill : PySem.W.readsIn K c_Bill (.type "type") = true)
    (crb_Bill : PySem.W.specialIn K (.ref c_Bill) "__getattribute__" = some (some (.builtin "type.__getattribute__")))
    (cva_Bill_MAX_SEATS : PySem.W.findCls K (.ref c_Bill) (.type "type") "MAX_SEATS" = some (.val (.int 8 tk_Bill_MAX_SEATS)))
    (ma_Bill__init_ : PySem.W.findIn K (.ref c_Bill) "__init__" = some (some (.ref f_Bill__init_)))
    (mb_Bill__init_ : PySem.W.isFn K (.ref f_Bill__init_) = true)
    (l40 : K.lookup f_Bill__init_ = some ⟨oc40, od40, .func (PySem.W.fnOf "__init__" "Bill.__init__" (defArgs s_Bill__init_) (defBody s_Bill__init_) (defScope s_Bill__init_) .none kV40 dc40 pm40 an40 cd40 ct40), sl40⟩)
    (c40 : PySem.W.codeIn K cd40 "Bill.__init__" = true)
    (k40 : PySem.W.keepIn K (.ref f_Bill__init_) = true)
    (mk_Bill : PySem.W.makesIn K c_Bill = true)
    (kc_Bill : PySem.W.keepIn K (.ref c_Bill) = true)
    (pa_Bill_amount : PySem.W.findIn K (.ref c_Bill) "amount" = some (some (.ref p_Bill_amount)))
    (pb_Bill_amount : PySem.W.specialIn K (.ref p_Bill_amount) "__get__" = some (some (.builtin "property.__get__")))
    (pc_Bill_amount : PySem.W.takesIn K (.ref p_Bill_amount) = some true)
    (pd_Bill_amount : PySem.W.recIn K p_Bill_amount "property" = some (.ref f_Bill_amount :: rs_Bill_amount))
    (l41 : K.lookup f_Bill_amount = some ⟨oc41, od41, .func (PySem.W.fnOf "amount" "Bill.amount" (defArgs s_Bill_amount) (defBody s_Bill_amount) (defScope s_Bill_amount) .none kV41 dc41 pm41 an41 cd41 ct41), sl41⟩)
    (c41 : PySem.W.codeIn K cd41 "Bill.amount" = true)
    (k41 : PySem.W.keepIn K (.ref f_Bill_amount) = true)
    (pa_Bill_seats : PySem.W.findIn K (.ref c_Bill) "seats" = some (some (.ref p_Bill_seats)))
    (pb_Bill_seats : PySem.W.specialIn K (.ref p_Bill_seats) "__get__" = some (some (.builtin "property.__get__")))
    (pc_Bill_seats : PySem.W.takesIn K (.ref p_Bill_seats) = some true)
    (pd_Bill_seats : PySem.W.recIn K p_Bill_seats "property" = some (.ref f_Bill_seats :: rs_Bill_seats))
    (l42 : K.lookup f_Bill_seats = some ⟨oc42, od42, .func (PySem.W.fnOf "seats" "Bill.seats" (defArgs s_Bill_seats) (defBody s_Bill_seats) (defScope s_Bill_seats) .none kV42 dc42 pm42 an42 cd42 ct42), sl42⟩)
    (c42 : PySem.W.codeIn K cd42 "Bill.seats" = true)
    (k42 : PySem.W.keepIn K (.ref f_Bill_seats) = true)
    (pa_Bill_odd_cents : PySem.W.findIn K (.ref c_Bill) "odd_cents" = some (some (.ref p_Bill_odd_cents)))
    (pb_Bill_odd_cents : PySem.W.specialIn K (.ref p_Bill_odd_cents) "__get__" = some (some (.builtin "property.__get__")))
    (pc_Bill_odd_cents : PySem.W.takesIn K (.ref p_Bill_odd_cents) = some true)
    (pd_Bill_odd_cents : PySem.W.recIn K p_Bill_odd_cents "property" = some (.ref f_Bill_odd_cents :: rs_Bill_odd_cents))
    (l43 : K.lookup f_Bill_odd_cents = some ⟨oc43, od43, .func (PySem.W.fnOf "odd_cents" "Bill.odd_cents" (defArgs s_Bill_odd_cents) (defBody s_Bill_odd_cents) (defScope s_Bill_odd_cents) .none kV43 dc43 pm43 an43 cd43 ct43), sl43⟩)
    (c43 : PySem.W.codeIn K cd43 "Bill.odd_cents" = true)
    (k43 : PySem.W.keepIn K (.ref f_Bill_odd_cents) = true)
    (ma_Bill__contains_ : PySem.W.findIn K (.ref c_Bill) "__contains__" = some (some (.ref f_Bill__contains_)))
    (mb_Bill__contains_ : PySem.W.isFn K (.ref f_Bill__contains_) = true)
    (l44 : K.lookup f_Bill__contains_ = some ⟨oc44, od44, .func (PySem.W.fnOf "__contains__" "Bill.__contains__" (defArgs s_Bill__contains_) (defBody s_Bill__contains_) (defScope s_Bill__contains_) .none kV44 dc44 pm44 an44 cd44 ct44), sl44⟩)
    (c44 : PySem.W.codeIn K cd44 "Bill.__contains__" = true)
    (k44 : PySem.W.keepIn K (.ref f_Bill__contains_) = true)
    (g_Page : PySem.W.nsIn K mainGlobals "Page" = some (some (.ref c_Page)))
    (pg_Page : PySem.W.plainGet K c_Page Str.empty = true)
    (hd_Page : PySem.W.hasDictIn K c_Page = true)
    (po_Page : PySem.W.plainOver K c_Page = true)
    (sa_Page : PySem.W.findIn K (.ref c_Page) "__setattr__" = some (some (.builtin "object.__setattr__")))
    (ia_Page : PySem.W.findIn K (.ref c_Page) "__class__" = some (some (.builtin "object.__class__")))
    (ib_Page : PySem.W.specialIn K (.builtin "object.__class__") "__get__" = some (some (.builtin "getset_descriptor.__get__")))
    (ic_Page : PySem.W.takesIn K (.builtin "object.__class__") = some true)
    (id_Page : PySem.W.mroIn K c_Page (.type "object") = some true)
    (ob_Page : PySem.W.subIn K (.ref c_Page) (.type "object") = some true)
    (sf_Page : PySem.W.selfFirst K c_Page = true)
    (tyc_Page : PySem.W.typeIn K (.ref c_Page) = some (.type "type"))
    (kit_Page_tuple : PySem.W.subIn K (.type "tuple") (.ref c_Page) = some false)
    (kit_Page_list : PySem.W.subIn K (.type "list") (.ref c_Page) = some false)
    (kit_Page_int : PySem.W.subIn K (.type "int") (.ref c_Page) = some false)
    (na_Page_operation : PySem.W.findIn K (.ref c_Page) "operation" = some none)
    (na_Page_due : PySem.W.findIn K (.ref c_Page) "due" = some none)
    (na_Page_mark : PySem.W.findIn K (.ref c_Page) "mark" = some none)
    (ma_Page__init_ : PySem.W.findIn K (.ref c_Page) "__init__" = some (some (.ref f_Page__init_)))
    (mb_Page__init_ : PySem.W.isFn K (.ref f_Page__init_) = true)
    (l45 : K.lookup f_Page__init_ = some ⟨oc45, od45, .func (PySem.W.fnOf "__init__" "Page.__init__" (defArgs s_Page__init_) (defBody s_Page__init_) (defScope s_Page__init_) .none kV45 dc45 pm45 an45 cd45 ct45), sl45⟩)
    (c45 : PySem.W.codeIn K cd45 "Page.__init__" = true)
    (k45 : PySem.W.keepIn K (.ref f_Page__init_) = true)
    (mk_Page : PySem.W.makesIn K c_Page = true)
    (kc_Page : PySem.W.keepIn K (.ref c_Page) = true)
    (g_Ledger : PySem.W.nsIn K mainGlobals "Ledger" = some (some (.ref c_Ledger)))
    (pg_Ledger : PySem.W.plainGet K c_Ledger Str.empty = true)
    (hd_Ledger : PySem.W.hasDictIn K c_Ledger = true)
    (po_Ledger : PySem.W.plainOver K c_Ledger = true)
    (sa_Ledger : PySem.W.findIn K (.ref c_Ledger) "__setattr__" = some (some (.builtin "object.__setattr__")))
    (ia_Ledger : PySem.W.findIn K (.ref c_Ledger) "__class__" = some (some (.builtin "object.__class__")))
    (ib_Ledger : PySem.W.specialIn K (.builtin "object.__class__") "__get__" = some (some (.builtin "getset_descriptor.__get__")))
    (ic_Ledger : PySem.W.takesIn K (.builtin "object.__class__") = some true)
    (id_Ledger : PySem.W.mroIn K c_Ledger (.type "object") = some true)
    (ob_Ledger : PySem.W.subIn K (.ref c_Ledger) (.type "object") = some true)
    (sf_Ledger : PySem.W.selfFirst K c_Ledger = true)
    (tyc_Ledger : PySem.W.typeIn K (.ref c_Ledger) = some (.type "type"))
    (kit_Ledger_tuple : PySem.W.subIn K (.type "tuple") (.ref c_Ledger) = some false)
    (kit_Ledger_list : PySem.W.subIn K (.type "list") (.ref c_Ledger) = some false)
    (kit_Ledger_int : PySem.W.subIn K (.type "int") (.ref c_Ledger) = some false)
    (na_Ledger_seat_count : PySem.W.findIn K (.ref c_Ledger) "_seat_count" = some none)
    (na_Ledger_pages : PySem.W.findIn K (.ref c_Ledger) "_pages" = some none)
    (na_Ledger_at : PySem.W.findIn K (.ref c_Ledger) "_at" = some none)
    (cra_Ledger : PySem.W.readsIn K c_Ledger (.type "type") = true)
    (crb_Ledger : PySem.W.specialIn K (.ref c_Ledger) "__getattribute__" = some (some (.builtin "type.__getattribute__")))
    (ma_Ledger__init_ : PySem.W.findIn K (.ref c_Ledger) "__init__" = some (some (.ref f_Ledger__init_)))
    (mb_Ledger__init_ : PySem.W.isFn K (.ref f_Ledger__init_) = true)
    (l46 : K.lookup f_Ledger__init_ = some ⟨oc46, od46, .func (PySem.W.fnOf "__init__" "Ledger.__init__" (defArgs s_Ledger__init_) (defBody s_Ledger__init_) (defScope s_Ledger__init_) .none (.ref kd46) dc46 pm46 an46 cd46 ct46), sl46⟩)
    (c46 : PySem.W.codeIn K cd46 "Ledger.__init__" = true)
    (k46 : PySem.W.keepIn K (.ref f_Ledger__init_) = true)
    (kw46 : PySem.W.nsIn K kd46 "mark" = some (some (.int 0 kt46)))
    (mk_Ledger : PySem.W.makesIn K c_Ledger = true)
    (kc_Ledger : PySem.W.keepIn K (.ref c_Ledger) = true)
    (cma_Ledger_replay : PySem.W.findCls K (.ref c_Ledger) (.type "type") "replay" = some (.get (.builtin "classmethod.__get__") (.ref p_Ledger_replay) .none (.ref c_Ledger)))
    (cmb_Ledger_replay : PySem.W.recIn K p_Ledger_replay "classmethod" = some (.ref f_Ledger_replay :: rs_Ledger_replay))
    (cmc_Ledger_replay : PySem.W.fnIn K f_Ledger_replay = true)
    (l47 : K.lookup f_Ledger_replay = some ⟨oc47, od47, .func (PySem.W.fnOf "replay" "Ledger.replay" (defArgs s_Ledger_replay) (defBody s_Ledger_replay) (defScope s_Ledger_replay) .none kV47 dc47 pm47 an47 cd47 ct47), sl47⟩)
    (c47 : PySem.W.codeIn K cd47 "Ledger.replay" = true)
    (k47 : PySem.W.keepIn K (.ref f_Ledger_replay) = true)
    (pa_Ledger_balance : PySem.W.findIn K (.ref c_Ledger) "balance" = some (some (.ref p_Ledger_balance)))
    (pb_Ledger_balance : PySem.W.specialIn K (.ref p_Ledger_balance) "__get__" = some (some (.builtin "property.__get__")))
    (pc_Ledger_balance : PySem.W.takesIn K (.ref p_Ledger_balance) = some true)
    (pd_Ledger_balance : PySem.W.recIn K p_Ledger_balance "property" = some (.ref f_Ledger_balance :: rs_Ledger_balance))
    (l48 : K.lookup f_Ledger_balance = some ⟨oc48, od48, .func (PySem.W.fnOf "balance" "Ledger.balance" (defArgs s_Ledger_balance) (defBody s_Ledger_balance) (defScope s_Ledger_balance) .none kV48 dc48 pm48 an48 cd48 ct48), sl48⟩)
    (c48 : PySem.W.codeIn K cd48 "Ledger.balance" = true)
    (k48 : PySem.W.keepIn K (.ref f_Ledger_balance) = true)
    (pa_Ledger_mark_now : PySem.W.findIn K (.ref c_Ledger) "mark_now" = some (some (.ref p_Ledger_mark_now)))
    (pb_Ledger_mark_now : PySem.W.specialIn K (.ref p_Ledger_mark_now) "__get__" = some (some (.builtin "property.__get__")))
    (pc_Ledger_mark_now : PySem.W.takesIn K (.ref p_Ledger_mark_now) = some true)
    (pd_Ledger_mark_now : PySem.W.recIn K p_Ledger_mark_now "property" = some (.ref f_Ledger_mark_now :: rs_Ledger_mark_now))
    (l49 : K.lookup f_Ledger_mark_now = some ⟨oc49, od49, .func (PySem.W.fnOf "mark_now" "Ledger.mark_now" (defArgs s_Ledger_mark_now) (defBody s_Ledger_mark_now) (defScope s_Ledger_mark_now) .none kV49 dc49 pm49 an49 cd49 ct49), sl49⟩)
    (c49 : PySem.W.codeIn K cd49 "Ledger.mark_now" = true)
    (k49 : PySem.W.keepIn K (.ref f_Ledger_mark_now) = true)
    (pa_Ledger_history : PySem.W.findIn K (.ref c_Ledger) "history" = some (some (.ref p_Ledger_history)))
    (pb_Ledger_history : PySem.W.specialIn K (.ref p_Ledger_history) "__get__" = some (some (.builtin "property.__get__")))
    (pc_Ledger_history : PySem.W.takesIn K (.ref p_Ledger_history) = some true)
    (pd_Ledger_history : PySem.W.recIn K p_Ledger_history "property" = some (.ref f_Ledger_history :: rs_Ledger_history))
    (l50 : K.lookup f_Ledger_history = some ⟨oc50, od50, .func (PySem.W.fnOf "history" "Ledger.history" (defArgs s_Ledger_history) (defBody s_Ledger_history) (defScope s_Ledger_history) .none kV50 dc50 pm50 an50 cd50 ct50), sl50⟩)
    (c50 : PySem.W.codeIn K cd50 "Ledger.history" = true)
    (k50 : PySem.W.keepIn K (.ref f_Ledger_history) = true)
    (ma_Ledger_lay : PySem.W.findIn K (.ref c_Ledger) "lay" = some (some (.ref f_Ledger_lay)))
    (mb_Ledger_lay : PySem.W.isFn K (.ref f_Ledger_lay) = true)
    (l51 : K.lookup f_Ledger_lay = some ⟨oc51, od51, .func (PySem.W.fnOf "lay" "Ledger.lay" (defArgs s_Ledger_lay) (defBody s_Ledger_lay) (defScope s_Ledger_lay) .none kV51 dc51 pm51 an51 cd51 ct51), sl51⟩)
    (c51 : PySem.W.codeIn K cd51 "Ledger.lay" = true)
    (k51 : PySem.W.keepIn K (.ref f_Ledger_lay) = true)
    (ma_Ledger_hand : PySem.W.findIn K (.ref c_Ledger) "hand" = some (some (.ref f_Ledger_hand)))
    (mb_Ledger_hand : PySem.W.isFn K (.ref f_Ledger_hand) = true)
    (l52 : K.lookup f_Ledger_hand = some ⟨oc52, od52, .func (PySem.W.fnOf "hand" "Ledger.hand" (defArgs s_Ledger_hand) (defBody s_Ledger_hand) (defScope s_Ledger_hand) .none kV52 dc52 pm52 an52 cd52 ct52), sl52⟩)
    (c52 : PySem.W.codeIn K cd52 "Ledger.hand" = true)
    (k52 : PySem.W.keepIn K (.ref f_Ledger_hand) = true)
    (ma_Ledger_move : PySem.W.findIn K (.ref c_Ledger) "move" = some (some (.ref f_Ledger_move)))
    (mb_Ledger_move : PySem.W.isFn K (.ref f_Ledger_move) = true)
    (l53 : K.lookup f_Ledger_move = some ⟨oc53, od53, .func (PySem.W.fnOf "move" "Ledger.move" (defArgs s_Ledger_move) (defBody s_Ledger_move) (defScope s_Ledger_move) .none kV53 dc53 pm53 an53 cd53 ct53), sl53⟩)
    (c53 : PySem.W.codeIn K cd53 "Ledger.move" = true)
    (k53 : PySem.W.keepIn K (.ref f_Ledger_move) = true)
    (ma_Ledger_settle : PySem.W.findIn K (.ref c_Ledger) "settle" = some (some (.ref f_Ledger_settle)))
    (mb_Ledger_settle : PySem.W.isFn K (.ref f_Ledger_settle) = true)
    (l54 : K.lookup f_Ledger_settle = some ⟨oc54, od54, .func (PySem.W.fnOf "settle" "Ledger.settle" (defArgs s_Ledger_settle) (defBody s_Ledger_settle) (defScope s_Ledger_settle) .none kV54 dc54 pm54 an54 cd54 ct54), sl54⟩)
    (c54 : PySem.W.codeIn K cd54 "Ledger.settle" = true)
    (k54 : PySem.W.keepIn K (.ref f_Ledger_settle) = true)
    (ma_Ledger_undo : PySem.W.findIn K (.ref c_Ledger) "undo" = some (some (.ref f_Ledger_undo)))
    (mb_Ledger_undo : PySem.W.isFn K (.ref f_Ledger_undo) = true)
    (l55 : K.lookup f_Ledger_undo = some ⟨oc55, od55, .func (PySem.W.fnOf "undo" "Ledger.undo" (defArgs s_Ledger_undo) (defBody s_Ledger_undo) (defScope s_Ledger_undo) .none kV55 dc55 pm55 an55 cd55 ct55), sl55⟩)
    (c55 : PySem.W.codeIn K cd55 "Ledger.undo" = true)
    (k55 : PySem.W.keepIn K (.ref f_Ledger_undo) = true)
    (ma_Ledger_redo : PySem.W.findIn K (.ref c_Ledger) "redo" = some (some (.ref f_Ledger_redo)))
    (mb_Ledger_redo : PySem.W.isFn K (.ref f_Ledger_redo) = true)
    (l56 : K.lookup f_Ledger_redo = some ⟨oc56, od56, .func (PySem.W.fnOf "redo" "Ledger.redo" (defArgs s_Ledger_redo) (defBody s_Ledger_redo) (defScope s_Ledger_redo) .none kV56 dc56 pm56 an56 cd56 ct56), sl56⟩)
    (c56 : PySem.W.codeIn K cd56 "Ledger.redo" = true)
    (k56 : PySem.W.keepIn K (.ref f_Ledger_redo) = true)
    (ma_Ledger_apply_all : PySem.W.findIn K (.ref c_Ledger) "apply_all" = some (some (.ref f_Ledger_apply_all)))
    (mb_Ledger_apply_all : PySem.W.isFn K (.ref f_Ledger_apply_all) = true)
    (l57 : K.lookup f_Ledger_apply_all = some ⟨oc57, od57, .func (PySem.W.fnOf "apply_all" "Ledger.apply_all" (defArgs s_Ledger_apply_all) (defBody s_Ledger_apply_all) (defScope s_Ledger_apply_all) .none kV57 dc57 pm57 an57 cd57 ct57), sl57⟩)
    (c57 : PySem.W.codeIn K cd57 "Ledger.apply_all" = true)
    (k57 : PySem.W.keepIn K (.ref f_Ledger_apply_all) = true)
    (ma_Ledger_execute : PySem.W.findIn K (.ref c_Ledger) "_execute" = some (some (.ref f_Ledger_execute)))
    (mb_Ledger_execute : PySem.W.isFn K (.ref f_Ledger_execute) = true)
    (l58 : K.lookup f_Ledger_execute = some ⟨oc58, od58, .func (PySem.W.fnOf "_execute" "Ledger._execute" (defArgs s_Ledger_execute) (defBody s_Ledger_execute) (defScope s_Ledger_execute) .none kV58 dc58 pm58 an58 cd58 ct58), sl58⟩)
    (c58 : PySem.W.codeIn K cd58 "Ledger._execute" = true)
    (k58 : PySem.W.keepIn K (.ref f_Ledger_execute) = true)
    (ma_Ledger_write : PySem.W.findIn K (.ref c_Ledger) "_write" = some (some (.ref f_Ledger_write)))
    (mb_Ledger_write : PySem.W.isFn K (.ref f_Ledger_write) = true)
    (l59 : K.lookup f_Ledger_write = some ⟨oc59, od59, .func (PySem.W.fnOf "_write" "Ledger._write" (defArgs s_Ledger_write) (defBody s_Ledger_write) (defScope s_Ledger_write) .none kV59 dc59 pm59 an59 cd59 ct59), sl59⟩)
    (c59 : PySem.W.codeIn K cd59 "Ledger._write" = true)
    (k59 : PySem.W.keepIn K (.ref f_Ledger_write) = true)
    (ic_CentError : PySem.W.isClsIn K c_CentError = true)
    (se_CentError_CentError : PySem.W.subIn K (.ref c_CentError) (.ref c_CentError) = some true)
    (se_InvalidMark_CentError : PySem.W.subIn K (.ref c_InvalidMark) (.ref c_CentError) = some true)
    (se_UnknownSeat_CentError : PySem.W.subIn K (.ref c_UnknownSeat) (.ref c_CentError) = some true)
    (se_OtherTable_CentError : PySem.W.subIn K (.ref c_OtherTable) (.ref c_CentError) = some true)
    (se_InvalidNumber_CentError : PySem.W.subIn K (.ref c_InvalidNumber) (.ref c_CentError) = some true)
    (se_NotBalanced_CentError : PySem.W.subIn K (.ref c_NotBalanced) (.ref c_CentError) = some true)
    (se_EmptyGroup_CentError : PySem.W.subIn K (.ref c_EmptyGroup) (.ref c_CentError) = some true)
    (ehd_InvalidBill : PySem.W.hasDictIn K c_InvalidBill = true)
    (ety_InvalidBill : PySem.W.typeIn K (.ref c_InvalidBill) = some (.type "type"))
    (ess_InvalidBill : PySem.W.subIn K (.ref c_InvalidBill) (.ref c_InvalidBill) = some true)
    (ehd_InvalidEvening : PySem.W.hasDictIn K c_InvalidEvening = true)
    (ety_InvalidEvening : PySem.W.typeIn K (.ref c_InvalidEvening) = some (.type "type"))
    (ess_InvalidEvening : PySem.W.subIn K (.ref c_InvalidEvening) (.ref c_InvalidEvening) = some true)
    (ehd_InvalidOperation : PySem.W.hasDictIn K c_InvalidOperation = true)
    (ety_InvalidOperation : PySem.W.typeIn K (.ref c_InvalidOperation) = some (.type "type"))
    (ess_InvalidOperation : PySem.W.subIn K (.ref c_InvalidOperation) (.ref c_InvalidOperation) = some true)
    (ehd_InvalidMark : PySem.W.hasDictIn K c_InvalidMark = true)
    (ety_InvalidMark : PySem.W.typeIn K (.ref c_InvalidMark) = some (.type "type"))
    (ess_InvalidMark : PySem.W.subIn K (.ref c_InvalidMark) (.ref c_InvalidMark) = some true)
    (ehd_UnknownSeat : PySem.W.hasDictIn K c_UnknownSeat = true)
    (ety_UnknownSeat : PySem.W.typeIn K (.ref c_UnknownSeat) = some (.type "type"))
    (ess_UnknownSeat : PySem.W.subIn K (.ref c_UnknownSeat) (.ref c_UnknownSeat) = some true)
    (ehd_InvalidNumber : PySem.W.hasDictIn K c_InvalidNumber = true)
    (ety_InvalidNumber : PySem.W.typeIn K (.ref c_InvalidNumber) = some (.type "type"))
    (ess_InvalidNumber : PySem.W.subIn K (.ref c_InvalidNumber) (.ref c_InvalidNumber) = some true)
    (ehd_NotBalanced : PySem.W.hasDictIn K c_NotBalanced = true)
    (ety_NotBalanced : PySem.W.typeIn K (.ref c_NotBalanced) = some (.type "type"))
    (ess_NotBalanced : PySem.W.subIn K (.ref c_NotBalanced) (.ref c_NotBalanced) = some true)
    (ehd_EmptyGroup : PySem.W.hasDictIn K c_EmptyGroup = true)
    (ety_EmptyGroup : PySem.W.typeIn K (.ref c_EmptyGroup) = some (.type "type"))
    (ess_EmptyGroup : PySem.W.subIn K (.ref c_EmptyGroup) (.ref c_EmptyGroup) = some true)
    (ehd_InvalidText : PySem.W.hasDictIn K c_InvalidText = true)
    (ety_InvalidText : PySem.W.typeIn K (.ref c_InvalidText) = some (.type "type"))
    (ess_InvalidText : PySem.W.subIn K (.ref c_InvalidText) (.ref c_InvalidText) = some true)
    (ehd_InvalidReceipt : PySem.W.hasDictIn K c_InvalidReceipt = true)
    (ety_InvalidReceipt : PySem.W.typeIn K (.ref c_InvalidReceipt) = some (.type "type"))
    (ess_InvalidReceipt : PySem.W.subIn K (.ref c_InvalidReceipt) (.ref c_InvalidReceipt) = some true)
    (ehd_DecodeError : PySem.W.hasDictIn K c_DecodeError = true)
    (ety_DecodeError : PySem.W.typeIn K (.ref c_DecodeError) = some (.type "type"))
    (ess_DecodeError : PySem.W.subIn K (.ref c_DecodeError) (.ref c_DecodeError) = some true)
    (en_ : PySem.W.specialIn K (.builtin "object.__class__") "__get__" = some (some (.builtin "getset_descriptor.__get__")))
    (et_ : PySem.W.takesIn K (.builtin "object.__class__") = some true)
    (exg_InvalidMark : PySem.W.findIn K (.ref c_InvalidMark) "__getattribute__" = some (some (.builtin "BaseException.__getattribute__")))
    (exk_InvalidMark : PySem.W.findIn K (.ref c_InvalidMark) "__getattr__" = some none)
    (exa_InvalidMark : PySem.W.findIn K (.ref c_InvalidMark) "__class__" = some (some (.builtin "object.__class__")))
    (exm_InvalidMark : PySem.W.mroIn K c_InvalidMark (.type "object") = some true)
    (exv_InvalidMark : PySem.W.subIn K (.ref c_InvalidMark) (.type "ValueError") = some true)
    (exs_InvalidMark_InvalidBill : PySem.W.subIn K (.ref c_InvalidMark) (.ref c_InvalidBill) = some false)
    (exs_InvalidMark_InvalidEvening : PySem.W.subIn K (.ref c_InvalidMark) (.ref c_InvalidEvening) = some false)
    (exs_InvalidMark_InvalidOperation : PySem.W.subIn K (.ref c_InvalidMark) (.ref c_InvalidOperation) = some false)
    (exs_InvalidMark_UnknownSeat : PySem.W.subIn K (.ref c_InvalidMark) (.ref c_UnknownSeat) = some false)
    (exs_InvalidMark_InvalidNumber : PySem.W.subIn K (.ref c_InvalidMark) (.ref c_InvalidNumber) = some false)
    (exs_InvalidMark_NotBalanced : PySem.W.subIn K (.ref c_InvalidMark) (.ref c_NotBalanced) = some false)
    (exs_InvalidMark_EmptyGroup : PySem.W.subIn K (.ref c_InvalidMark) (.ref c_EmptyGroup) = some false)
    (exs_InvalidMark_InvalidText : PySem.W.subIn K (.ref c_InvalidMark) (.ref c_InvalidText) = some false)
    (exs_InvalidMark_InvalidReceipt : PySem.W.subIn K (.ref c_InvalidMark) (.ref c_InvalidReceipt) = some false)
    (exs_InvalidMark_DecodeError : PySem.W.subIn K (.ref c_InvalidMark) (.ref c_DecodeError) = some false)
    (exg_UnknownSeat : PySem.W.findIn K (.ref c_UnknownSeat) "__getattribute__" = some (some (.builtin "BaseException.__getattribute__")))
    (exk_UnknownSeat : PySem.W.findIn K (.ref c_UnknownSeat) "__getattr__" = some none)
    (exa_UnknownSeat : PySem.W.findIn K (.ref c_UnknownSeat) "__class__" = some (some (.builtin "object.__class__")))
    (exm_UnknownSeat : PySem.W.mroIn K c_UnknownSeat (.type "object") = some true)
    (exv_UnknownSeat : PySem.W.subIn K (.ref c_UnknownSeat) (.type "ValueError") = some true)
    (exs_UnknownSeat_InvalidBill : PySem.W.subIn K (.ref c_UnknownSeat) (.ref c_InvalidBill) = some false)
    (exs_UnknownSeat_InvalidEvening : PySem.W.subIn K (.ref c_UnknownSeat) (.ref c_InvalidEvening) = some false)
    (exs_UnknownSeat_InvalidOperation : PySem.W.subIn K (.ref c_UnknownSeat) (.ref c_InvalidOperation) = some false)
    (exs_UnknownSeat_InvalidMark : PySem.W.subIn K (.ref c_UnknownSeat) (.ref c_InvalidMark) = some false)
    (exs_UnknownSeat_InvalidNumber : PySem.W.subIn K (.ref c_UnknownSeat) (.ref c_InvalidNumber) = some false)
    (exs_UnknownSeat_NotBalanced : PySem.W.subIn K (.ref c_UnknownSeat) (.ref c_NotBalanced) = some false)
    (exs_UnknownSeat_EmptyGroup : PySem.W.subIn K (.ref c_UnknownSeat) (.ref c_EmptyGroup) = some false)
    (exs_UnknownSeat_InvalidText : PySem.W.subIn K (.ref c_UnknownSeat) (.ref c_InvalidText) = some false)
    (exs_UnknownSeat_InvalidReceipt : PySem.W.subIn K (.ref c_UnknownSeat) (.ref c_InvalidReceipt) = some false)
    (exs_UnknownSeat_DecodeError : PySem.W.subIn K (.ref c_UnknownSeat) (.ref c_DecodeError) = some false)
    (exg_InvalidNumber : PySem.W.findIn K (.ref c_InvalidNumber) "__getattribute__" = some (some (.builtin "BaseException.__getattribute__")))
    (exk_InvalidNumber : PySem.W.findIn K (.ref c_InvalidNumber) "__getattr__" = some none)
    (exa_InvalidNumber : PySem.W.findIn K (.ref c_InvalidNumber) "__class__" = some (some (.builtin "object.__class__")))
    (exm_InvalidNumber : PySem.W.mroIn K c_InvalidNumber (.type "object") = some true)
    (exv_InvalidNumber : PySem.W.subIn K (.ref c_InvalidNumber) (.type "ValueError") = some true)
    (exs_InvalidNumber_InvalidBill : PySem.W.subIn K (.ref c_InvalidNumber) (.ref c_InvalidBill) = some false)
    (exs_InvalidNumber_InvalidEvening : PySem.W.subIn K (.ref c_InvalidNumber) (.ref c_InvalidEvening) = some false)
    (exs_InvalidNumber_InvalidOperation : PySem.W.subIn K (.ref c_InvalidNumber) (.ref c_InvalidOperation) = some false)
    (exs_InvalidNumber_InvalidMark : PySem.W.subIn K (.ref c_InvalidNumber) (.ref c_InvalidMark) = some false)
    (exs_InvalidNumber_UnknownSeat : PySem.W.subIn K (.ref c_InvalidNumber) (.ref c_UnknownSeat) = some false)
    (exs_InvalidNumber_NotBalanced : PySem.W.subIn K (.ref c_InvalidNumber) (.ref c_NotBalanced) = some false)
    (exs_InvalidNumber_EmptyGroup : PySem.W.subIn K (.ref c_InvalidNumber) (.ref c_EmptyGroup) = some false)
    (exs_InvalidNumber_InvalidText : PySem.W.subIn K (.ref c_InvalidNumber) (.ref c_InvalidText) = some false)
    (exs_InvalidNumber_InvalidReceipt : PySem.W.subIn K (.ref c_InvalidNumber) (.ref c_InvalidReceipt) = some false)
    (exs_InvalidNumber_DecodeError : PySem.W.subIn K (.ref c_InvalidNumber) (.ref c_DecodeError) = some false)
    (exg_NotBalanced : PySem.W.findIn K (.ref c_NotBalanced) "__getattribute__" = some (some (.builtin "BaseException.__getattribute__")))
    (exk_NotBalanced : PySem.W.findIn K (.ref c_NotBalanced) "__getattr__" = some none)
    (exa_NotBalanced : PySem.W.findIn K (.ref c_NotBalanced) "__class__" = some (some (.builtin "object.__class__")))
    (exm_NotBalanced : PySem.W.mroIn K c_NotBalanced (.type "object") = some true)
    (exv_NotBalanced : PySem.W.subIn K (.ref c_NotBalanced) (.type "ValueError") = some true)
    (exs_NotBalanced_InvalidBill : PySem.W.subIn K (.ref c_NotBalanced) (.ref c_InvalidBill) = some false)
    (exs_NotBalanced_InvalidEvening : PySem.W.subIn K (.ref c_NotBalanced) (.ref c_InvalidEvening) = some false)
    (exs_NotBalanced_InvalidOperation : PySem.W.subIn K (.ref c_NotBalanced) (.ref c_InvalidOperation) = some false)
    (exs_NotBalanced_InvalidMark : PySem.W.subIn K (.ref c_NotBalanced) (.ref c_InvalidMark) = some false)
    (exs_NotBalanced_UnknownSeat : PySem.W.subIn K (.ref c_NotBalanced) (.ref c_UnknownSeat) = some false)
    (exs_NotBalanced_InvalidNumber : PySem.W.subIn K (.ref c_NotBalanced) (.ref c_InvalidNumber) = some false)
    (exs_NotBalanced_EmptyGroup : PySem.W.subIn K (.ref c_NotBalanced) (.ref c_EmptyGroup) = some false)
    (exs_NotBalanced_InvalidText : PySem.W.subIn K (.ref c_NotBalanced) (.ref c_InvalidText) = some false)
    (exs_NotBalanced_InvalidReceipt : PySem.W.subIn K (.ref c_NotBalanced) (.ref c_InvalidReceipt) = some false)
    (exs_NotBalanced_DecodeError : PySem.W.subIn K (.ref c_NotBalanced) (.ref c_DecodeError) = some false)
    (exg_EmptyGroup : PySem.W.findIn K (.ref c_EmptyGroup) "__getattribute__" = some (some (.builtin "BaseException.__getattribute__")))
    (exk_EmptyGroup : PySem.W.findIn K (.ref c_EmptyGroup) "__getattr__" = some none)
    (exa_EmptyGroup : PySem.W.findIn K (.ref c_EmptyGroup) "__class__" = some (some (.builtin "object.__class__")))
    (exm_EmptyGroup : PySem.W.mroIn K c_EmptyGroup (.type "object") = some true)
    (exv_EmptyGroup : PySem.W.subIn K (.ref c_EmptyGroup) (.type "ValueError") = some true)
    (exs_EmptyGroup_InvalidBill : PySem.W.subIn K (.ref c_EmptyGroup) (.ref c_InvalidBill) = some false)
    (exs_EmptyGroup_InvalidEvening : PySem.W.subIn K (.ref c_EmptyGroup) (.ref c_InvalidEvening) = some false)
    (exs_EmptyGroup_InvalidOperation : PySem.W.subIn K (.ref c_EmptyGroup) (.ref c_InvalidOperation) = some false)
    (exs_EmptyGroup_InvalidMark : PySem.W.subIn K (.ref c_EmptyGroup) (.ref c_InvalidMark) = some false)
    (exs_EmptyGroup_UnknownSeat : PySem.W.subIn K (.ref c_EmptyGroup) (.ref c_UnknownSeat) = some false)
    (exs_EmptyGroup_InvalidNumber : PySem.W.subIn K (.ref c_EmptyGroup) (.ref c_InvalidNumber) = some false)
    (exs_EmptyGroup_NotBalanced : PySem.W.subIn K (.ref c_EmptyGroup) (.ref c_NotBalanced) = some false)
    (exs_EmptyGroup_InvalidText : PySem.W.subIn K (.ref c_EmptyGroup) (.ref c_InvalidText) = some false)
    (exs_EmptyGroup_InvalidReceipt : PySem.W.subIn K (.ref c_EmptyGroup) (.ref c_InvalidReceipt) = some false)
    (exs_EmptyGroup_DecodeError : PySem.W.subIn K (.ref c_EmptyGroup) (.ref c_DecodeError) = some false) :
    Facts K mg ⟨f__wall, f_is_between, f_check_seat, f_seats_of, f_check_payment, f_balance_after, f_check_balance, f_sums_of_sets, f_number_of_groups, f_parted, f_payments_within, f_payments, f_fewest_payments, f_check_amount, f_check_seats, f_check_seat_count, f_check_mark, f_no_shares, f__law_random, f__law_below, f__law_shuffled, f__law_balance, f__law_shares, f__law_equal, f__law_error_of, f__law_all_raise, f_law, k_law, t_law, c_CentError, c_InvalidBill, c_InvalidEvening, c_InvalidMark, c_UnknownSeat, c_OtherTable, c_InvalidNumber, c_NotBalanced, c_EmptyGroup, c_InvalidOperation, c_InvalidText, c_InvalidReceipt, c_DecodeError, c_Shares, f_Shares__init_, f_Shares_cents, p_Shares_cents, f_Shares_whole, p_Shares_whole, f_Shares__getitem_, f_Shares__iter_, f_Shares__len_, f_Shares__eq_, f_Shares__add_, f_Shares__sub_, f_Shares__mul_, f_Shares__neg_, f_Shares__abs_, c_Bill, f_Bill__init_, f_Bill_amount, p_Bill_amount, f_Bill_seats, p_Bill_seats, f_Bill_odd_cents, p_Bill_odd_cents, f_Bill__contains_, c_Page, f_Page__init_, c_Ledger, f_Ledger__init_, f_Ledger_replay, p_Ledger_replay, f_Ledger_balance, p_Ledger_balance, f_Ledger_mark_now, p_Ledger_mark_now, f_Ledger_history, p_Ledger_history, f_Ledger_lay, f_Ledger_hand, f_Ledger_move, f_Ledger_settle, f_Ledger_undo, f_Ledger_redo, f_Ledger_apply_all, f_Ledger_execute, f_Ledger_write⟩ where
  z_TypeError := PySem.W.mg_none_of X G z_TypeError
  z_ValueError := PySem.W.mg_none_of X G z_ValueError
  z_abs := PySem.W.mg_none_of X G z_abs
  z_all := PySem.W.mg_none_of X G z_all
  z_bool := PySem.W.mg_none_of X G z_bool
  z_classmethod := PySem.W.mg_none_of X G z_classmethod
  z_enumerate := PySem.W.mg_none_of X G z_enumerate
  z_int := PySem.W.mg_none_of X G z_int
  z_isinstance := PySem.W.mg_none_of X G z_isinstance
  z_len := PySem.W.mg_none_of X G z_len
  z_list := PySem.W.mg_none_of X G z_list
  z_max := PySem.W.mg_none_of X G z_max
  z_min := PySem.W.mg_none_of X G z_min
  z_property := PySem.W.mg_none_of X G z_property
  z_range := PySem.W.mg_none_of X G z_range
  z_sorted := PySem.W.mg_none_of X G z_sorted
  z_str := PySem.W.mg_none_of X G z_str
  z_sum := PySem.W.mg_none_of X G z_sum
  z_super := PySem.W.mg_none_of X G z_super
  z_tuple := PySem.W.mg_none_of X G z_tuple
  z_zip := PySem.W.mg_none_of X G z_zip
  i_MAX_PAYMENT := ⟨_, PySem.W.mg_of X G g_MAX_PAYMENT⟩
  i_MAX_SETTLED_SEATS := ⟨_, PySem.W.mg_of X G g_MAX_SETTLED_SEATS⟩
  i_MAX_AMOUNT := ⟨_, PySem.W.mg_of X G g_MAX_AMOUNT⟩
  i_MIN_SEAT_COUNT := ⟨_, PySem.W.mg_of X G g_MIN_SEAT_COUNT⟩
  u__wall := ⟨_, fun_mk (st := s__wall) l1 c1 k1⟩
  g__wall := PySem.W.mg_of X G g__wall
  u_is_between := ⟨_, fun_mk (st := s_is_between) l2 c2 k2⟩
  g_is_between := PySem.W.mg_of X G g_is_between
  u_check_seat := ⟨_, fun_mk (st := s_check_seat) l3 c3 k3⟩
  g_check_seat := PySem.W.mg_of X G g_check_seat
  u_seats_of := ⟨_, fun_mk (st := s_seats_of) l4 c4 k4⟩
  g_seats_of := PySem.W.mg_of X G g_seats_of
  u_check_payment := ⟨_, fun_mk (st := s_check_payment) l5 c5 k5⟩
  g_check_payment := PySem.W.mg_of X G g_check_payment
  u_balance_after := ⟨_, fun_mk (st := s_balance_after) l6 c6 k6⟩
  g_balance_after := PySem.W.mg_of X G g_balance_after
  u_check_balance := ⟨_, fun_mk (st := s_check_balance) l7 c7 k7⟩
  g_check_balance := PySem.W.mg_of X G g_check_balance
  u_sums_of_sets := ⟨_, fun_mk (st := s_sums_of_sets) l8 c8 k8⟩
  g_sums_of_sets := PySem.W.mg_of X G g_sums_of_sets
  u_number_of_groups := ⟨_, fun_mk (st := s_number_of_groups) l9 c9 k9⟩
  g_number_of_groups := PySem.W.mg_of X G g_number_of_groups
  u_parted := ⟨_, fun_mk (st := s_parted) l10 c10 k10⟩
  g_parted := PySem.W.mg_of X G g_parted
  u_payments_within := ⟨_, fun_mk (st := s_payments_within) l11 c11 k11⟩
  g_payments_within := PySem.W.mg_of X G g_payments_within
  u_payments := ⟨_, fun_mk (st := s_payments) l12 c12 k12⟩
  g_payments := PySem.W.mg_of X G g_payments
  u_fewest_payments := ⟨_, fun_mk (st := s_fewest_payments) l13 c13 k13⟩
  g_fewest_payments := PySem.W.mg_of X G g_fewest_payments
  u_check_amount := ⟨_, fun_mk (st := s_check_amount) l14 c14 k14⟩
  g_check_amount := PySem.W.mg_of X G g_check_amount
  u_check_seats := ⟨_, fun_mk (st := s_check_seats) l15 c15 k15⟩
  g_check_seats := PySem.W.mg_of X G g_check_seats
  u_check_seat_count := ⟨_, fun_mk (st := s_check_seat_count) l16 c16 k16⟩
  g_check_seat_count := PySem.W.mg_of X G g_check_seat_count
  u_check_mark := ⟨_, fun_mk (st := s_check_mark) l17 c17 k17⟩
  g_check_mark := PySem.W.mg_of X G g_check_mark
  u_no_shares := ⟨_, fun_mk (st := s_no_shares) l18 c18 k18⟩
  g_no_shares := PySem.W.mg_of X G g_no_shares
  u__law_random := ⟨_, fun_mk (st := s__law_random) l19 c19 k19⟩
  g__law_random := PySem.W.mg_of X G g__law_random
  u__law_below := ⟨_, fun_mk (st := s__law_below) l20 c20 k20⟩
  g__law_below := PySem.W.mg_of X G g__law_below
  u__law_shuffled := ⟨_, fun_mk (st := s__law_shuffled) l21 c21 k21⟩
  g__law_shuffled := PySem.W.mg_of X G g__law_shuffled
  u__law_balance := ⟨_, fun_mk (st := s__law_balance) l22 c22 k22⟩
  g__law_balance := PySem.W.mg_of X G g__law_balance
  u__law_shares := ⟨_, fun_mk (st := s__law_shares) l23 c23 k23⟩
  g__law_shares := PySem.W.mg_of X G g__law_shares
  u__law_equal := ⟨_, fun_mk (st := s__law_equal) l24 c24 k24⟩
  g__law_equal := PySem.W.mg_of X G g__law_equal
  u__law_error_of := ⟨_, fun_mk (st := s__law_error_of) l25 c25 k25⟩
  g__law_error_of := PySem.W.mg_of X G g__law_error_of
  u__law_all_raise := ⟨_, fun_mk (st := s__law_all_raise) l26 c26 k26⟩
  g__law_all_raise := PySem.W.mg_of X G g__law_all_raise
  u_law := ⟨_, fun_mk (st := s_law) l27 c27 k27⟩
  uc_law := ⟨_, fun_mk (st := s_law) l27 c27 k27, rfl⟩
  hd_law := hd_of lc27 rh27
  nt_law := rn27
  g_law := PySem.W.mg_of X G g_law
  x_CentError := ⟨PySem.W.mg_of X G g_CentError, x_CentError, xk_CentError, xs_CentError, xt_CentError⟩
  x_InvalidMark := ⟨PySem.W.mg_of X G g_InvalidMark, x_InvalidMark, xk_InvalidMark, xs_InvalidMark, xt_InvalidMark⟩
  x_UnknownSeat := ⟨PySem.W.mg_of X G g_UnknownSeat, x_UnknownSeat, xk_UnknownSeat, xs_UnknownSeat, xt_UnknownSeat⟩
  x_OtherTable := ⟨PySem.W.mg_of X G g_OtherTable, x_OtherTable, xk_OtherTable, xs_OtherTable, xt_OtherTable⟩
  x_InvalidNumber := ⟨PySem.W.mg_of X G g_InvalidNumber, x_InvalidNumber, xk_InvalidNumber, xs_InvalidNumber, xt_InvalidNumber⟩
  x_NotBalanced := ⟨PySem.W.mg_of X G g_NotBalanced, x_NotBalanced, xk_NotBalanced, xs_NotBalanced, xt_NotBalanced⟩
  x_EmptyGroup := ⟨PySem.W.mg_of X G g_EmptyGroup, x_EmptyGroup, xk_EmptyGroup, xs_EmptyGroup, xt_EmptyGroup⟩
  g_Shares := PySem.W.mg_of X G g_Shares
  cl_Shares := ⟨pg_Shares, hd_Shares, po_Shares, sa_Shares⟩
  si_Shares := ⟨ia_Shares, ib_Shares, ic_Shares, id_Shares⟩
  ob_Shares := ob_Shares
  sf_Shares := sf_Shares
  kit_Shares_tuple := kit_own hd_Shares tyc_Shares kit_Shares_tuple
  kit_Shares_list := kit_own hd_Shares tyc_Shares kit_Shares_list
  kit_Shares_int := kit_own hd_Shares tyc_Shares kit_Shares_int
  na_Shares_cents := na_Shares_cents
  u_Shares__init_ := ⟨_, fun_mk (st := s_Shares__init_) l28 c28 k28⟩
  m_Shares__init_ := ⟨ma_Shares__init_, mb_Shares__init_, k28⟩
  mk_Shares := ⟨mk_Shares, ma_Shares__init_, mb_Shares__init_, kc_Shares⟩
  u_Shares_cents := ⟨_, fun_mk (st := s_Shares_cents) l29 c29 k29⟩
  pr_Shares_cents := ⟨pa_Shares_cents, pb_Shares_cents, pc_Shares_cents, ⟨_, pd_Shares_cents⟩⟩
  u_Shares_whole := ⟨_, fun_mk (st := s_Shares_whole) l30 c30 k30⟩
  pr_Shares_whole := ⟨pa_Shares_whole, pb_Shares_whole, pc_Shares_whole, ⟨_, pd_Shares_whole⟩⟩
  u_Shares__getitem_ := ⟨_, fun_mk (st := s_Shares__getitem_) l31 c31 k31⟩
  m_Shares__getitem_ := ⟨ma_Shares__getitem_, mb_Shares__getitem_, k31⟩
  u_Shares__iter_ := ⟨_, fun_mk (st := s_Shares__iter_) l32 c32 k32⟩
  m_Shares__iter_ := ⟨ma_Shares__iter_, mb_Shares__iter_, k32⟩
  u_Shares__len_ := ⟨_, fun_mk (st := s_Shares__len_) l33 c33 k33⟩
  m_Shares__len_ := ⟨ma_Shares__len_, mb_Shares__len_, k33⟩
  u_Shares__eq_ := ⟨_, fun_mk (st := s_Shares__eq_) l34 c34 k34⟩
  m_Shares__eq_ := ⟨ma_Shares__eq_, mb_Shares__eq_, k34⟩
  ne_Shares__eq_ := ⟨na_Shares__eq_, nf_Shares__eq_, nt_Shares__eq_⟩
  u_Shares__add_ := ⟨_, fun_mk (st := s_Shares__add_) l35 c35 k35⟩
  m_Shares__add_ := ⟨ma_Shares__add_, mb_Shares__add_, k35⟩
  u_Shares__sub_ := ⟨_, fun_mk (st := s_Shares__sub_) l36 c36 k36⟩
  m_Shares__sub_ := ⟨ma_Shares__sub_, mb_Shares__sub_, k36⟩
  u_Shares__mul_ := ⟨_, fun_mk (st := s_Shares__mul_) l37 c37 k37⟩
  m_Shares__mul_ := ⟨ma_Shares__mul_, mb_Shares__mul_, k37⟩
  oi_Shares__mul_ := ⟨oa_Shares__mul_, ⟨_, ob_Shares__mul_⟩, ⟨_, oc_Shares__mul_⟩, od_Shares__mul_⟩
  u_Shares__neg_ := ⟨_, fun_mk (st := s_Shares__neg_) l38 c38 k38⟩
  m_Shares__neg_ := ⟨ma_Shares__neg_, mb_Shares__neg_, k38⟩
  u_Shares__abs_ := ⟨_, fun_mk (st := s_Shares__abs_) l39 c39 k39⟩
  m_Shares__abs_ := ⟨ma_Shares__abs_, mb_Shares__abs_, k39⟩
  g_Bill := PySem.W.mg_of X G g_Bill
  cl_Bill := ⟨pg_Bill, hd_Bill, po_Bill, sa_Bill⟩
  si_Bill := ⟨ia_Bill, ib_Bill, ic_Bill, id_Bill⟩
  ob_Bill := ob_Bill
  sf_Bill := sf_Bill
  kit_Bill_tuple := kit_own hd_Bill tyc_Bill kit_Bill_tuple
  kit_Bill_list := kit_own hd_Bill tyc_Bill kit_Bill_list
  kit_Bill_int := kit_own hd_Bill tyc_Bill kit_Bill_int
  na_Bill_amount := na_Bill_amount
  na_Bill_seats := na_Bill_seats
  cr_Bill := ⟨cra_Bill, crb_Bill⟩
  cv_Bill_MAX_SEATS := ⟨_, cva_Bill_MAX_SEATS, ⟨_, rfl⟩⟩
  u_Bill__init_ := ⟨_, fun_mk (st := s_Bill__init_) l40 c40 k40⟩
  m_Bill__init_ := ⟨ma_Bill__init_, mb_Bill__init_, k40⟩
  mk_Bill := ⟨mk_Bill, ma_Bill__init_, mb_Bill__init_, kc_Bill⟩
  u_Bill_amount := ⟨_, fun_mk (st := s_Bill_amount) l41 c41 k41⟩
  pr_Bill_amount := ⟨pa_Bill_amount, pb_Bill_amount, pc_Bill_amount, ⟨_, pd_Bill_amount⟩⟩
  u_Bill_seats := ⟨_, fun_mk (st := s_Bill_seats) l42 c42 k42⟩
  pr_Bill_seats := ⟨pa_Bill_seats, pb_Bill_seats, pc_Bill_seats, ⟨_, pd_Bill_seats⟩⟩
  u_Bill_odd_cents := ⟨_, fun_mk (st := s_Bill_odd_cents) l43 c43 k43⟩
  pr_Bill_odd_cents := ⟨pa_Bill_odd_cents, pb_Bill_odd_cents, pc_Bill_odd_cents, ⟨_, pd_Bill_odd_cents⟩⟩
  u_Bill__contains_ := ⟨_, fun_mk (st := s_Bill__contains_) l44 c44 k44⟩
  m_Bill__contains_ := ⟨ma_Bill__contains_, mb_Bill__contains_, k44⟩
  g_Page := PySem.W.mg_of X G g_Page
  cl_Page := ⟨pg_Page, hd_Page, po_Page, sa_Page⟩
  si_Page := ⟨ia_Page, ib_Page, ic_Page, id_Page⟩
  ob_Page := ob_Page
  sf_Page := sf_Page
  kit_Page_tuple := kit_own hd_Page tyc_Page kit_Page_tuple
  kit_Page_list := kit_own hd_Page tyc_Page kit_Page_list
  kit_Page_int := kit_own hd_Page tyc_Page kit_Page_int
  na_Page_operation := na_Page_operation
  na_Page_due := na_Page_due
  na_Page_mark := na_Page_mark
  u_Page__init_ := ⟨_, fun_mk (st := s_Page__init_) l45 c45 k45⟩
  m_Page__init_ := ⟨ma_Page__init_, mb_Page__init_, k45⟩
  mk_Page := ⟨mk_Page, ma_Page__init_, mb_Page__init_, kc_Page⟩
  g_Ledger := PySem.W.mg_of X G g_Ledger
  cl_Ledger := ⟨pg_Ledger, hd_Ledger, po_Ledger, sa_Ledger⟩
  si_Ledger := ⟨ia_Ledger, ib_Ledger, ic_Ledger, id_Ledger⟩
  ob_Ledger := ob_Ledger
  sf_Ledger := sf_Ledger
  kit_Ledger_tuple := kit_own hd_Ledger tyc_Ledger kit_Ledger_tuple
  kit_Ledger_list := kit_own hd_Ledger tyc_Ledger kit_Ledger_list
  kit_Ledger_int := kit_own hd_Ledger tyc_Ledger kit_Ledger_int
  na_Ledger_seat_count := na_Ledger_seat_count
  na_Ledger_pages := na_Ledger_pages
  na_Ledger_at := na_Ledger_at
  cr_Ledger := ⟨cra_Ledger, crb_Ledger⟩
  u_Ledger__init_ := ⟨_, fun_mk (st := s_Ledger__init_) l46 c46 k46⟩
  ud_Ledger__init_ := ⟨_, fun_mk (st := s_Ledger__init_) l46 c46 k46, ⟨⟨_, _, _, _, _, _, _, _, _, _, rfl, l46, c46, .inl ⟨rfl, rfl⟩, .inr ⟨_, rfl, kwd_one kw46⟩⟩, k46⟩⟩
  m_Ledger__init_ := ⟨ma_Ledger__init_, mb_Ledger__init_, k46⟩
  mk_Ledger := ⟨mk_Ledger, ma_Ledger__init_, mb_Ledger__init_, kc_Ledger⟩
  u_Ledger_replay := ⟨_, fun_mk (st := s_Ledger_replay) l47 c47 k47⟩
  cm_Ledger_replay := ⟨cma_Ledger_replay, ⟨_, cmb_Ledger_replay⟩, cmc_Ledger_replay⟩
  u_Ledger_balance := ⟨_, fun_mk (st := s_Ledger_balance) l48 c48 k48⟩
  pr_Ledger_balance := ⟨pa_Ledger_balance, pb_Ledger_balance, pc_Ledger_balance, ⟨_, pd_Ledger_balance⟩⟩
  u_Ledger_mark_now := ⟨_, fun_mk (st := s_Ledger_mark_now) l49 c49 k49⟩
  pr_Ledger_mark_now := ⟨pa_Ledger_mark_now, pb_Ledger_mark_now, pc_Ledger_mark_now, ⟨_, pd_Ledger_mark_now⟩⟩
  u_Ledger_history := ⟨_, fun_mk (st := s_Ledger_history) l50 c50 k50⟩
  pr_Ledger_history := ⟨pa_Ledger_history, pb_Ledger_history, pc_Ledger_history, ⟨_, pd_Ledger_history⟩⟩
  u_Ledger_lay := ⟨_, fun_mk (st := s_Ledger_lay) l51 c51 k51⟩
  m_Ledger_lay := ⟨ma_Ledger_lay, mb_Ledger_lay, k51⟩
  u_Ledger_hand := ⟨_, fun_mk (st := s_Ledger_hand) l52 c52 k52⟩
  m_Ledger_hand := ⟨ma_Ledger_hand, mb_Ledger_hand, k52⟩
  u_Ledger_move := ⟨_, fun_mk (st := s_Ledger_move) l53 c53 k53⟩
  m_Ledger_move := ⟨ma_Ledger_move, mb_Ledger_move, k53⟩
  u_Ledger_settle := ⟨_, fun_mk (st := s_Ledger_settle) l54 c54 k54⟩
  m_Ledger_settle := ⟨ma_Ledger_settle, mb_Ledger_settle, k54⟩
  u_Ledger_undo := ⟨_, fun_mk (st := s_Ledger_undo) l55 c55 k55⟩
  m_Ledger_undo := ⟨ma_Ledger_undo, mb_Ledger_undo, k55⟩
  u_Ledger_redo := ⟨_, fun_mk (st := s_Ledger_redo) l56 c56 k56⟩
  m_Ledger_redo := ⟨ma_Ledger_redo, mb_Ledger_redo, k56⟩
  u_Ledger_apply_all := ⟨_, fun_mk (st := s_Ledger_apply_all) l57 c57 k57⟩
  m_Ledger_apply_all := ⟨ma_Ledger_apply_all, mb_Ledger_apply_all, k57⟩
  u_Ledger_execute := ⟨_, fun_mk (st := s_Ledger_execute) l58 c58 k58⟩
  m_Ledger_execute := ⟨ma_Ledger_execute, mb_Ledger_execute, k58⟩
  u_Ledger_write := ⟨_, fun_mk (st := s_Ledger_write) l59 c59 k59⟩
  m_Ledger_write := ⟨ma_Ledger_write, mb_Ledger_write, k59⟩
  ex_CentError_CentError := exm_of xs_CentError xt_CentError ic_CentError se_CentError_CentError
  ex_InvalidMark_CentError := exm_of xs_CentError xt_CentError ic_CentError se_InvalidMark_CentError
  ex_UnknownSeat_CentError := exm_of xs_CentError xt_CentError ic_CentError se_UnknownSeat_CentError
  ex_OtherTable_CentError := exm_of xs_CentError xt_CentError ic_CentError se_OtherTable_CentError
  ex_InvalidNumber_CentError := exm_of xs_CentError xt_CentError ic_CentError se_InvalidNumber_CentError
  ex_NotBalanced_CentError := exm_of xs_CentError xt_CentError ic_CentError se_NotBalanced_CentError
  ex_EmptyGroup_CentError := exm_of xs_CentError xt_CentError ic_CentError se_EmptyGroup_CentError
  eg_InvalidBill := PySem.W.mg_of X G g_InvalidBill
  eg_InvalidEvening := PySem.W.mg_of X G g_InvalidEvening
  eg_InvalidOperation := PySem.W.mg_of X G g_InvalidOperation
  eg_InvalidMark := PySem.W.mg_of X G g_InvalidMark
  eg_UnknownSeat := PySem.W.mg_of X G g_UnknownSeat
  eg_InvalidNumber := PySem.W.mg_of X G g_InvalidNumber
  eg_NotBalanced := PySem.W.mg_of X G g_NotBalanced
  eg_EmptyGroup := PySem.W.mg_of X G g_EmptyGroup
  eg_InvalidText := PySem.W.mg_of X G g_InvalidText
  eg_InvalidReceipt := PySem.W.mg_of X G g_InvalidReceipt
  eg_DecodeError := PySem.W.mg_of X G g_DecodeError
  ek_InvalidMark := ⟨⟨exg_InvalidMark, exk_InvalidMark, xs_InvalidMark, ehd_InvalidMark, exa_InvalidMark, en_, et_, exm_InvalidMark⟩, kit_val exv_InvalidMark, exm_of xs_CentError xt_CentError ic_CentError se_InvalidMark_CentError, kit_exc ehd_InvalidBill ety_InvalidBill exs_InvalidMark_InvalidBill (.inl (sub_ne ess_InvalidBill exs_InvalidMark_InvalidBill)), kit_exc ehd_InvalidEvening ety_InvalidEvening exs_InvalidMark_InvalidEvening (.inl (sub_ne ess_InvalidEvening exs_InvalidMark_InvalidEvening)), kit_exc ehd_InvalidOperation ety_InvalidOperation exs_InvalidMark_InvalidOperation (.inl (sub_ne ess_InvalidOperation exs_InvalidMark_InvalidOperation)), kit_exc ehd_InvalidMark ety_InvalidMark ess_InvalidMark (.inr rfl), kit_exc ehd_UnknownSeat ety_UnknownSeat exs_InvalidMark_UnknownSeat (.inl (sub_ne ess_UnknownSeat exs_InvalidMark_UnknownSeat)), kit_exc ehd_InvalidNumber ety_InvalidNumber exs_InvalidMark_InvalidNumber (.inl (sub_ne ess_InvalidNumber exs_InvalidMark_InvalidNumber)), kit_exc ehd_NotBalanced ety_NotBalanced exs_InvalidMark_NotBalanced (.inl (sub_ne ess_NotBalanced exs_InvalidMark_NotBalanced)), kit_exc ehd_EmptyGroup ety_EmptyGroup exs_InvalidMark_EmptyGroup (.inl (sub_ne ess_EmptyGroup exs_InvalidMark_EmptyGroup)), kit_exc ehd_InvalidText ety_InvalidText exs_InvalidMark_InvalidText (.inl (sub_ne ess_InvalidText exs_InvalidMark_InvalidText)), kit_exc ehd_InvalidReceipt ety_InvalidReceipt exs_InvalidMark_InvalidReceipt (.inl (sub_ne ess_InvalidReceipt exs_InvalidMark_InvalidReceipt)), kit_exc ehd_DecodeError ety_DecodeError exs_InvalidMark_DecodeError (.inl (sub_ne ess_DecodeError exs_InvalidMark_DecodeError))⟩
  ek_UnknownSeat := ⟨⟨exg_UnknownSeat, exk_UnknownSeat, xs_UnknownSeat, ehd_UnknownSeat, exa_UnknownSeat, en_, et_, exm_UnknownSeat⟩, kit_val exv_UnknownSeat, exm_of xs_CentError xt_CentError ic_CentError se_UnknownSeat_CentError, kit_exc ehd_InvalidBill ety_InvalidBill exs_UnknownSeat_InvalidBill (.inl (sub_ne ess_InvalidBill exs_UnknownSeat_InvalidBill)), kit_exc ehd_InvalidEvening ety_InvalidEvening exs_UnknownSeat_InvalidEvening (.inl (sub_ne ess_InvalidEvening exs_UnknownSeat_InvalidEvening)), kit_exc ehd_InvalidOperation ety_InvalidOperation exs_UnknownSeat_InvalidOperation (.inl (sub_ne ess_InvalidOperation exs_UnknownSeat_InvalidOperation)), kit_exc ehd_InvalidMark ety_InvalidMark exs_UnknownSeat_InvalidMark (.inl (sub_ne ess_InvalidMark exs_UnknownSeat_InvalidMark)), kit_exc ehd_UnknownSeat ety_UnknownSeat ess_UnknownSeat (.inr rfl), kit_exc ehd_InvalidNumber ety_InvalidNumber exs_UnknownSeat_InvalidNumber (.inl (sub_ne ess_InvalidNumber exs_UnknownSeat_InvalidNumber)), kit_exc ehd_NotBalanced ety_NotBalanced exs_UnknownSeat_NotBalanced (.inl (sub_ne ess_NotBalanced exs_UnknownSeat_NotBalanced)), kit_exc ehd_EmptyGroup ety_EmptyGroup exs_UnknownSeat_EmptyGroup (.inl (sub_ne ess_EmptyGroup exs_UnknownSeat_EmptyGroup)), kit_exc ehd_InvalidText ety_InvalidText exs_UnknownSeat_InvalidText (.inl (sub_ne ess_InvalidText exs_UnknownSeat_InvalidText)), kit_exc ehd_InvalidReceipt ety_InvalidReceipt exs_UnknownSeat_InvalidReceipt (.inl (sub_ne ess_InvalidReceipt exs_UnknownSeat_InvalidReceipt)), kit_exc ehd_DecodeError ety_DecodeError exs_UnknownSeat_DecodeError (.inl (sub_ne ess_DecodeError exs_UnknownSeat_DecodeError))⟩
  ek_InvalidNumber := ⟨⟨exg_InvalidNumber, exk_InvalidNumber, xs_InvalidNumber, ehd_InvalidNumber, exa_InvalidNumber, en_, et_, exm_InvalidNumber⟩, kit_val exv_InvalidNumber, exm_of xs_CentError xt_CentError ic_CentError se_InvalidNumber_CentError, kit_exc ehd_InvalidBill ety_InvalidBill exs_InvalidNumber_InvalidBill (.inl (sub_ne ess_InvalidBill exs_InvalidNumber_InvalidBill)), kit_exc ehd_InvalidEvening ety_InvalidEvening exs_InvalidNumber_InvalidEvening (.inl (sub_ne ess_InvalidEvening exs_InvalidNumber_InvalidEvening)), kit_exc ehd_InvalidOperation ety_InvalidOperation exs_InvalidNumber_InvalidOperation (.inl (sub_ne ess_InvalidOperation exs_InvalidNumber_InvalidOperation)), kit_exc ehd_InvalidMark ety_InvalidMark exs_InvalidNumber_InvalidMark (.inl (sub_ne ess_InvalidMark exs_InvalidNumber_InvalidMark)), kit_exc ehd_UnknownSeat ety_UnknownSeat exs_InvalidNumber_UnknownSeat (.inl (sub_ne ess_UnknownSeat exs_InvalidNumber_UnknownSeat)), kit_exc ehd_InvalidNumber ety_InvalidNumber ess_InvalidNumber (.inr rfl), kit_exc ehd_NotBalanced ety_NotBalanced exs_InvalidNumber_NotBalanced (.inl (sub_ne ess_NotBalanced exs_InvalidNumber_NotBalanced)), kit_exc ehd_EmptyGroup ety_EmptyGroup exs_InvalidNumber_EmptyGroup (.inl (sub_ne ess_EmptyGroup exs_InvalidNumber_EmptyGroup)), kit_exc ehd_InvalidText ety_InvalidText exs_InvalidNumber_InvalidText (.inl (sub_ne ess_InvalidText exs_InvalidNumber_InvalidText)), kit_exc ehd_InvalidReceipt ety_InvalidReceipt exs_InvalidNumber_InvalidReceipt (.inl (sub_ne ess_InvalidReceipt exs_InvalidNumber_InvalidReceipt)), kit_exc ehd_DecodeError ety_DecodeError exs_InvalidNumber_DecodeError (.inl (sub_ne ess_DecodeError exs_InvalidNumber_DecodeError))⟩
  ek_NotBalanced := ⟨⟨exg_NotBalanced, exk_NotBalanced, xs_NotBalanced, ehd_NotBalanced, exa_NotBalanced, en_, et_, exm_NotBalanced⟩, kit_val exv_NotBalanced, exm_of xs_CentError xt_CentError ic_CentError se_NotBalanced_CentError, kit_exc ehd_InvalidBill ety_InvalidBill exs_NotBalanced_InvalidBill (.inl (sub_ne ess_InvalidBill exs_NotBalanced_InvalidBill)), kit_exc ehd_InvalidEvening ety_InvalidEvening exs_NotBalanced_InvalidEvening (.inl (sub_ne ess_InvalidEvening exs_NotBalanced_InvalidEvening)), kit_exc ehd_InvalidOperation ety_InvalidOperation exs_NotBalanced_InvalidOperation (.inl (sub_ne ess_InvalidOperation exs_NotBalanced_InvalidOperation)), kit_exc ehd_InvalidMark ety_InvalidMark exs_NotBalanced_InvalidMark (.inl (sub_ne ess_InvalidMark exs_NotBalanced_InvalidMark)), kit_exc ehd_UnknownSeat ety_UnknownSeat exs_NotBalanced_UnknownSeat (.inl (sub_ne ess_UnknownSeat exs_NotBalanced_UnknownSeat)), kit_exc ehd_InvalidNumber ety_InvalidNumber exs_NotBalanced_InvalidNumber (.inl (sub_ne ess_InvalidNumber exs_NotBalanced_InvalidNumber)), kit_exc ehd_NotBalanced ety_NotBalanced ess_NotBalanced (.inr rfl), kit_exc ehd_EmptyGroup ety_EmptyGroup exs_NotBalanced_EmptyGroup (.inl (sub_ne ess_EmptyGroup exs_NotBalanced_EmptyGroup)), kit_exc ehd_InvalidText ety_InvalidText exs_NotBalanced_InvalidText (.inl (sub_ne ess_InvalidText exs_NotBalanced_InvalidText)), kit_exc ehd_InvalidReceipt ety_InvalidReceipt exs_NotBalanced_InvalidReceipt (.inl (sub_ne ess_InvalidReceipt exs_NotBalanced_InvalidReceipt)), kit_exc ehd_DecodeError ety_DecodeError exs_NotBalanced_DecodeError (.inl (sub_ne ess_DecodeError exs_NotBalanced_DecodeError))⟩
  ek_EmptyGroup := ⟨⟨exg_EmptyGroup, exk_EmptyGroup, xs_EmptyGroup, ehd_EmptyGroup, exa_EmptyGroup, en_, et_, exm_EmptyGroup⟩, kit_val exv_EmptyGroup, exm_of xs_CentError xt_CentError ic_CentError se_EmptyGroup_CentError, kit_exc ehd_InvalidBill ety_InvalidBill exs_EmptyGroup_InvalidBill (.inl (sub_ne ess_InvalidBill exs_EmptyGroup_InvalidBill)), kit_exc ehd_InvalidEvening ety_InvalidEvening exs_EmptyGroup_InvalidEvening (.inl (sub_ne ess_InvalidEvening exs_EmptyGroup_InvalidEvening)), kit_exc ehd_InvalidOperation ety_InvalidOperation exs_EmptyGroup_InvalidOperation (.inl (sub_ne ess_InvalidOperation exs_EmptyGroup_InvalidOperation)), kit_exc ehd_InvalidMark ety_InvalidMark exs_EmptyGroup_InvalidMark (.inl (sub_ne ess_InvalidMark exs_EmptyGroup_InvalidMark)), kit_exc ehd_UnknownSeat ety_UnknownSeat exs_EmptyGroup_UnknownSeat (.inl (sub_ne ess_UnknownSeat exs_EmptyGroup_UnknownSeat)), kit_exc ehd_InvalidNumber ety_InvalidNumber exs_EmptyGroup_InvalidNumber (.inl (sub_ne ess_InvalidNumber exs_EmptyGroup_InvalidNumber)), kit_exc ehd_NotBalanced ety_NotBalanced exs_EmptyGroup_NotBalanced (.inl (sub_ne ess_NotBalanced exs_EmptyGroup_NotBalanced)), kit_exc ehd_EmptyGroup ety_EmptyGroup ess_EmptyGroup (.inr rfl), kit_exc ehd_InvalidText ety_InvalidText exs_EmptyGroup_InvalidText (.inl (sub_ne ess_InvalidText exs_EmptyGroup_InvalidText)), kit_exc ehd_InvalidReceipt ety_InvalidReceipt exs_EmptyGroup_InvalidReceipt (.inl (sub_ne ess_InvalidReceipt exs_EmptyGroup_InvalidReceipt)), kit_exc ehd_DecodeError ety_DecodeError exs_EmptyGroup_DecodeError (.inl (sub_ne ess_DecodeError exs_EmptyGroup_DecodeError))⟩
def TL (a : Ad) : List (Addr × Str) := [(a.t_law, "law" ++ ".<locals>." ++ "<lambda>")]
theorem tl_in_law {a : Ad} {q : Str} (h : q = "law" ++ ".<locals>." ++ "<lambda>") : (a.t_law, q) ∈ TL a := by subst h; simp [TL]
theorem tl_one_law {a : Ad} {q : Str} (h : q = "law" ++ ".<locals>." ++ "<lambda>") : ∀ p ∈ TL a, p.1 = a.t_law → p.2 = q := fun p hp _ => by subst h; simp [TL] at hp; rw [hp]
/-! tactics of this text: st one step, go as many as go -/
local macro_rules | `(tactic| walk_at "ar") => `(tactic| first | assumption | omega | (show (_ : Int) < _; omega) | decide)
local macro_rules | `(tactic| walk_at "st") => `(tactic| first
  | with_reducible refine' w_seq ?_
  | with_reducible refine' w_asg ?_
  | with_reducible refine' w_name ?_
  | with_reducible refine' w_c ?_
  | with_reducible refine' w_op ?_
  | with_reducible refine' w_ix ?_
  | with_reducible refine' w_at ?_
  | with_reducible refine' w_cons ?_
  | with_reducible refine' w_nil ?_
  | with_reducible refine' w_ret ?_
  | with_reducible refine' w_if ?_
  | with_reducible refine' w_test ?_
  | with_reducible refine' w_tr ?_
  | with_reducible refine' w_un ?_
  | with_reducible refine' w_andV ?_
  | with_reducible refine' w_orV ?_
  | with_reducible refine' w_notA ?_
  | with_reducible refine' w_ch ?_
  | with_reducible refine' w_and ?_
  | with_reducible refine' w_or ?_
  | with_reducible refine' w_not ?_
  | with_reducible refine' w_ifx ?_
  | with_reducible refine' w_tup ?_
  | with_reducible refine' w_lst ?_
  | with_reducible refine' w_next ?_
  | with_reducible refine' w_drop ?_
  | with_reducible refine' w_retN ?_
  | ((with_reducible refine' w_var ?h ?_); (case h => exact rfl))
  | ((with_reducible refine' w_bi ?h ?_); (case h => walk_at "mg"))
  | ((with_reducible refine' w_bv ?h ?_); (case h => walk_at "mg"))
  | ((with_reducible refine' w_gv ?h ?_); (case h => walk_at "mg"))
  | ((with_reducible refine' w_gl ?h ?k ?_); (case h => walk_at "mg"); (case k => walk_at "kp"))
  | ((with_reducible refine' w_glS ?h ?k ?_); (case h => walk_at "mg"); (case k => walk_at "kp"))
  | with_reducible refine' bl_ex ?_
  | with_reducible refine' iteT ?_
  | with_reducible refine' iteF ?_
  | with_reducible refine' ite_nf ?_
  | with_reducible refine' ite_nt ?_
  | with_reducible refine' s_add ?_
  | with_reducible refine' s_sub ?_
  | with_reducible refine' s_lt ?_
  | with_reducible refine' s_le ?_
  | with_reducible refine' s_gt ?_
  | with_reducible refine' s_ge ?_
  | with_reducible refine' s_eqI ?_
  | with_reducible refine' s_neI ?_
  | with_reducible refine' s_eqB ?_
  | with_reducible refine' s_neB ?_
  | with_reducible refine' s_truB ?_
  | with_reducible refine' s_truI ?_
  | with_reducible refine' s_neg ?_
  | ((with_reducible refine' s_mod ?h ?_); (case h => walk_at "ar")))
local macro_rules | `(tactic| walk_at "go") => `(tactic| repeat walk_at "st")

local macro_rules | `(tactic| walk_at "mg") => `(tactic| first | assumption | exact Facts.z_len (by assumption) | exact Facts.z_isinstance (by assumption) | exact Facts.z_int (by assumption) | exact Facts.z_bool (by assumption) | exact Facts.g_Shares (by assumption) | exact Facts.g_is_between (by assumption))
/-! ### the program: is_between, Shares -/
section
variable {P : Program} {w : World} {K : PySem.W.Frag} {mg : Str → Option Value} {base : Heap} {a : Ad}
/-- shares of cs stand at p -/
def ShAt (C : Addr) (H : Hp) (p : Addr) (cs : List Int) : Prop := ∃ dx t, H p = some (.ins C dx [("_cents", .ref t)]) ∧ H t = some (.tup (cs.map V.int))
theorem ShAt.same {C : Addr} {H H' : Hp} {p : Addr} {cs : List Int} (h : ShAt C H p cs) (s : Same H H') : ShAt C H' p cs := by
  obtain ⟨dx, t, h1, h2⟩ := h
  exact ⟨dx, t, s _ _ h1, s _ _ h2⟩
theorem look_cents {t : Addr} : List.lookup ("_cents" : Str) [(("_cents" : Str), V.ref t)] = some (.ref t) := by simp [List.lookup]

def spBetween : Sp := fun vs H Q _ => ∃ i lo hi : Int, vs = [.int i, .int lo, .int hi] ∧ Q (.bl (decide (lo ≤ i) && decide (i ≤ hi))) H
theorem ok_between (T : Facts K mg a) : FnR P w K mg base (L2.CX P w) 1 a.f_is_between spBetween := by
  obtain ⟨fd, F⟩ := T.u_is_between
  refine fnr_ok F sc_is_between (F.binds fun _ _ _ _ _ _ us hl => match us, hl with | [_, _, _], _ => rfl) (fun vs H Q E h => ?_) (fun cdv A outer s H vs Q E hr h => ?_)
  · obtain ⟨i, lo, hi, rfl, _⟩ := h
    rfl
  · obtain ⟨i, lo, hi, rfl, q⟩ := h
    refine ⟨_, (pss_one (ps_ret (pe_and (pe_biA (id := "isinstance") Like.refl pas_main (by rfl) (by decide +kernel) (pa_cons (pv 0) (pa_cons (pe_bvA (v := .ty "int") Like.refl (by rfl) (by decide +kernel) rfl) pa_nil))) (pe_and (pe_notA Like.refl pas_main (pe_biA (id := "isinstance") Like.refl pas_main (by rfl) (by decide +kernel) (pa_cons (pv 0) (pa_cons (pe_bvA (v := .ty "bool") Like.refl (by rfl) (by decide +kernel) rfl) pa_nil)))) (pe_one (pe_chA Like.refl pas_main (pv 1) (pv 0) (pv 2))))))), ?_⟩
    walk_at "go"
    refine s_isiI (b := true) (by decide +kernel) ?_
    walk_at "go"
    refine s_isiI (b := false) (by decide +kernel) ?_
    walk_at "go"
    refine ite_d (fun h1 => ?_) (fun h1 => ?_)
    · rw [decide_eq_true h1] at q
      walk_at "go"
      exact q
    · rw [decide_eq_false h1] at q
      exact q

def spShInit (C : Addr) : Sp := fun vs H Q _ => ∃ x t dx, vs = [.ref x, .ref t] ∧ H x = some (.ins C dx []) ∧ Q .non (upd H x (.ins C dx [("_cents", .ref t)]))
theorem ok_sh_init (T : Facts K mg a) : FnR P w K mg base (L2.CX P w) 1 a.f_Shares__init_ (fun vs H Q E => ∃ ws rest, vs = ws ++ rest ∧ ws.length = ["self"].length ∧ rest.length ≤ sizeLine ∧ ∀ p, H p = Option.none → spShInit a.c_Shares (ws ++ [V.ref p]) (upd H p (.tup rest)) Q E) := by
  obtain ⟨fd, F⟩ := T.u_Shares__init_
  refine fnr_star1 (p1 := "self") (pv := "cents") F sc_Shares__init_ (fun _ _ _ _ _ _ _ => rfl) (fun _ _ _ _ _ _ _ _ _ => rfl) (fun cdv A outer s H vs Q E hr h => ?_)
  obtain ⟨x, t, dx, rfl, hx, q⟩ := h
  refine ⟨_, (pss_one (ps_fld (pv 0) (pv 1) rfl)), ?_⟩
  refine w_fld ?_
  walk_at "go"
  exact ⟨x, a.c_Shares, dx, [], rfl, hx, T.cl_Shares, T.na_Shares_cents, by decide, q⟩
/-- Shares(*cs) -/
theorem s_shares {X0 : Cx} {E : XK} {H : Hp} {Q : VK} {cs : List Int} (T : Facts X0.K X0.mg a) (F : Fn X0 1 a.f_Shares__init_ (fun vs H Q E => ∃ ws rest, vs = ws ++ rest ∧ ws.length = ["self"].length ∧ rest.length ≤ sizeLine ∧ ∀ p, H p = Option.none → spShInit a.c_Shares (ws ++ [V.ref p]) (upd H p (.tup rest)) Q E)) (hr : Room 2 X0.A) (hl : cs.length ≤ 100000)
    (q : ∀ p H', H p = none → Same H H' → ShAt a.c_Shares H' p cs → Q (.ref p) H') : ∃ r, CaD X0 E (.ref a.c_Shares) r ∧ r (cs.map V.int) H Q := by
  refine s_mk T.mk_Shares F hr fun x dx hx hdx hne => ⟨[.ref x], cs.map V.int, rfl, rfl, by rw [List.length_map]; exact sz5 hl, fun t ht => ⟨x, t, dx, rfl, ?_, ?_⟩⟩
  · rw [upd_ne (fun z => by subst z; rw [upd_same] at ht; cases ht), upd_same]
  · have n1 : t ≠ x := fun z => by subst z; rw [upd_same] at ht; cases ht
    have n2 : t ≠ dx := fun z => by subst z; rw [upd_ne hne, upd_same] at ht; cases ht
    rw [upd_ne n1, upd_ne n2] at ht
    refine ⟨rfl, q x _ hx (fun b o e => ?_) ⟨dx, t, upd_same, ?_⟩⟩
    · rw [upd_ne (ne_of_none e hx), upd_ne (ne_of_none e ht), upd_ne (ne_of_none e hx), upd_ne (ne_of_none e hdx)]
      exact e
    · rw [upd_ne n1, upd_same]

def spShCents (C : Addr) : Sp := fun vs H Q _ => ∃ p dx t, vs = [.ref p] ∧ H p = some (.ins C dx [("_cents", .ref t)]) ∧ Q (.ref t) H
theorem ok_sh_cents (T : Facts K mg a) : FnR P w K mg base (L2.CX P w) 1 a.f_Shares_cents (spShCents a.c_Shares) := by
  obtain ⟨fd, F⟩ := T.u_Shares_cents
  refine fnr_ok F sc_Shares_cents (F.binds fun _ _ _ _ _ _ us hl => match us, hl with | [_], _ => rfl) (fun vs H Q E h => ?_) (fun cdv A outer s H vs Q E hr h => ?_)
  · obtain ⟨p, dx, t, rfl, _⟩ := h
    rfl
  · obtain ⟨p, dx, t, rfl, hp, q⟩ := h
    refine ⟨_, (pss_one (ps_ret (pe_atA Like.refl pas_main (pv 0)))), ?_⟩
    walk_at "go"
    exact s_fld hp T.cl_Shares T.na_Shares_cents look_cents q
def spShWhole (C : Addr) : Sp := fun vs H Q _ => ∃ p cs, vs = [.ref p] ∧ ShAt C H p cs ∧ Q (.int cs.sum) H
theorem ok_sh_whole (T : Facts K mg a) : FnR P w K mg base (L2.CX P w) 1 a.f_Shares_whole (spShWhole a.c_Shares) := by
  obtain ⟨fd, F⟩ := T.u_Shares_whole
  refine fnr_ok F sc_Shares_whole (F.binds fun _ _ _ _ _ _ us hl => match us, hl with | [_], _ => rfl) (fun vs H Q E h => ?_) (fun cdv A outer s H vs Q E hr h => ?_)
  · obtain ⟨p, cs, rfl, _⟩ := h
    rfl
  · obtain ⟨p, cs, rfl, ⟨dx, t, hp, ht⟩, q⟩ := h
    refine ⟨_, (pss_one (ps_ret (pe_biA (id := "sum") Like.refl pas_main (by rfl) (by decide +kernel) (pa_cons (pe_atA Like.refl pas_main (pv 0)) pa_nil)))), ?_⟩
    refine w_ret (w_bi T.z_sum ?_)
    walk_at "go"
    refine s_fld hp T.cl_Shares T.na_Shares_cents look_cents ?_
    walk_at "go"
    exact s_sumT rfl (SqT.of ht) q
def spShLen (C : Addr) : Sp := fun vs H Q _ => ∃ p cs, vs = [.ref p] ∧ ShAt C H p cs ∧ Q (.int (cs.length : Nat)) H
theorem ok_sh_len (T : Facts K mg a) : FnR P w K mg base (L2.CX P w) 1 a.f_Shares__len_ (spShLen a.c_Shares) := by
  obtain ⟨fd, F⟩ := T.u_Shares__len_
  refine fnr_ok F sc_Shares__len_ (F.binds fun _ _ _ _ _ _ us hl => match us, hl with | [_], _ => rfl) (fun vs H Q E h => ?_) (fun cdv A outer s H vs Q E hr h => ?_)
  · obtain ⟨p, cs, rfl, _⟩ := h
    rfl
  · obtain ⟨p, cs, rfl, ⟨dx, t, hp, ht⟩, q⟩ := h
    refine ⟨_, (pss_one (ps_ret (pe_biA (id := "len") Like.refl pas_main (by rfl) (by decide +kernel) (pa_cons (pe_atA Like.refl pas_main (pv 0)) pa_nil)))), ?_⟩
    walk_at "go"
    refine s_fld hp T.cl_Shares T.na_Shares_cents look_cents ?_
    walk_at "go"
    refine s_lenT (SqT.of ht) ?_
    rw [List.length_map]
    exact q
def spShGet (C U : Addr) : Sp := fun vs H Q E => ∃ p cs i, vs = [.ref p, .int i] ∧ ShAt C H p cs ∧ (∀ c, 0 ≤ i → cs[i.toNat]? = some c → Q (.int c) H) ∧ (¬ (0 ≤ i ∧ i < (cs.length : Nat)) → E (.ref U) none H)
theorem ok_sh_get (T : Facts K mg a) : FnR P w K mg base (L2.CX P w) 2 a.f_Shares__getitem_ (spShGet a.c_Shares a.c_UnknownSeat) := by
  obtain ⟨fd, F⟩ := T.u_Shares__getitem_
  have GB : FnR P w K mg base (L2.CX P w) 1 a.f_is_between spBetween := ok_between T
  refine fnr_ok F sc_Shares__getitem_ (F.binds fun _ _ _ _ _ _ us hl => match us, hl with | [_, _], _ => rfl) (fun vs H Q E h => ?_) (fun cdv A outer s H vs Q E hr h => ?_)
  · obtain ⟨p, cs, i, rfl, _⟩ := h
    rfl
  · obtain ⟨p, cs, i, rfl, ⟨dx, t, hp, ht⟩, q, e⟩ := h
    refine ⟨_, (pss_cons (ps_if (pt_not (pt_trA Like.refl pas_main (pe_glA Like.refl pas_main (by rfl) (pa_cons (pv 1) (pa_cons (pe_int) (pa_cons (pe_opA Like.refl pas_main (pe_biA (id := "len") Like.refl pas_main (by rfl) (by decide +kernel) (pa_cons (pe_atA Like.refl pas_main (pv 0)) pa_nil)) (pe_int)) pa_nil)))))) (pss_one (ps_raA rfl tk_main (by rfl))) pss_nil)
    (pss_one (ps_ret (pe_ixA Like.refl pas_main (pe_atA Like.refl pas_main (pv 0)) (pv 1))))), ?_⟩
    refine w_seq (w_if (w_not (w_tr (w_gl T.g_is_between (Fun.kp T.u_is_between.choose_spec) ?_))))
    walk_at "go"
    refine s_fld hp T.cl_Shares T.na_Shares_cents look_cents ?_
    walk_at "go"
    refine s_lenT (SqT.of ht) ?_
    walk_at "go"
    refine s_fn GB hr ⟨i, 0, _, rfl, ?_⟩
    walk_at "go"
    rw [List.length_map]
    by_cases h0 : 0 ≤ i
    · by_cases h1 : i < (cs.length : Nat)
      · rw [decide_eq_true h0, decide_eq_true (show i ≤ (cs.length : Int) - 1 by omega)]
        refine iteF ?_
        walk_at "go"
        refine s_fld hp T.cl_Shares T.na_Shares_cents look_cents ?_
        walk_at "go"
        have hn : i.toNat < cs.length := by omega
        refine s_ixT (SqT.of ht) (at_of (j := i.toNat) (by omega) (by rw [List.getElem?_map, List.getElem?_eq_getElem hn] <;> rfl)) (q _ h0 (List.getElem?_eq_getElem hn))
      · rw [decide_eq_false (show ¬ i ≤ (cs.length : Int) - 1 by omega), Bool.and_false]
        exact iteT ⟨_, T.x_UnknownSeat, e fun z => h1 z.2⟩
    · rw [decide_eq_false h0]
      exact iteT ⟨_, T.x_UnknownSeat, e fun z => h0 z.1⟩
def spShEq (K : PySem.W.Frag) (C : Addr) : Sp := fun vs H Q _ => ∃ p cs y, vs = [.ref p, y] ∧ ShAt C H p cs ∧
  ((∃ q ds, y = .ref q ∧ ShAt C H q ds ∧ Q (.bl (decide (cs = ds))) H) ∨ (∃ t, TyX K H y (.type t) ∧ PySem.W.kitOne K (.type t) (.ref C) = some false ∧ Q (.bl false) H))
theorem ok_sh_eq (T : Facts K mg a) : FnR P w K mg base (L2.CX P w) 1 a.f_Shares__eq_ (spShEq K a.c_Shares) := by
  obtain ⟨fd, F⟩ := T.u_Shares__eq_
  refine fnr_ok F sc_Shares__eq_ (F.binds fun _ _ _ _ _ _ us hl => match us, hl with | [_, _], _ => rfl) (fun vs H Q E h => ?_) (fun cdv A outer s H vs Q E hr h => ?_)
  · obtain ⟨p, cs, y, rfl, _⟩ := h
    rfl
  · obtain ⟨p, cs, y, rfl, ⟨dx, t, hp, ht⟩, h⟩ := h
    have hr' := hr.units
    refine ⟨_, (pss_one (ps_ret (pe_and (pe_biA (id := "isinstance") Like.refl pas_main (by rfl) (by decide +kernel) (pa_cons (pv 1) (pa_cons (pe_gvA Like.refl (by rfl)) pa_nil))) (pe_one (pe_cmpA Like.refl pas_main (pe_atA Like.refl pas_main (pv 0)) (pe_atA Like.refl pas_main (pv 1)) (nomark _)))))), ?_⟩
    walk_at "go"
    rcases h with ⟨q, ds, rfl, ⟨dy, u, hq, hu⟩, k⟩ | ⟨ty, hy, hk, k⟩
    · refine s_isiC (tyx_ins hq T.cl_Shares T.si_Shares) kit_self ?_
      walk_at "go"
      refine s_fld hp T.cl_Shares T.na_Shares_cents look_cents ?_
      walk_at "go"
      refine s_fld hq T.cl_Shares T.na_Shares_cents look_cents ?_
      exact s_eqTups hr' (SqT.of ht) (SqT.of hu) k
    · refine s_isiC hy hk ?_
      walk_at "go"
      exact k
/-- Shares by the class's new object -/
abbrev InitSp (C : Addr) : Sp := fun vs H Q E => ∃ ws rest, vs = ws ++ rest ∧ ws.length = ["self"].length ∧ rest.length ≤ sizeLine ∧ ∀ p, H p = Option.none → spShInit C (ws ++ [V.ref p]) (upd H p (.tup rest)) Q E
def spShMul (C : Addr) : Sp := fun vs H Q _ => ∃ p cs i, vs = [.ref p, .int i] ∧ ShAt C H p cs ∧ cs.length ≤ 1000 ∧ (∀ c ∈ cs, CMul c i) ∧ ∀ r H', H r = none → Same H H' → ShAt C H' r (cs.map (· * i)) → Q (.ref r) H'
theorem ok_sh_mul (T : Facts K mg a) : FnR P w K mg base (L2.CX P w) 3 a.f_Shares__mul_ (spShMul a.c_Shares) := by
  obtain ⟨fd, F⟩ := T.u_Shares__mul_
  have GI : FnR P w K mg base (L2.CX P w) 1 a.f_Shares__init_ (InitSp a.c_Shares) := ok_sh_init T
  refine fnr_ok F sc_Shares__mul_ (F.binds fun _ _ _ _ _ _ us hl => match us, hl with | [_, _], _ => rfl) (fun vs H Q E h => ?_) (fun cdv A outer s H vs Q E hr h => ?_)
  · obtain ⟨p, cs, i, rfl, _⟩ := h
    rfl
  · obtain ⟨p, cs, i, rfl, ⟨dx, t, hp, ht⟩, hl, hm, q⟩ := h
    refine ⟨_, (pss_cons (ps_setLc (i := 2) (own := [("cents", 3)]) (g := gName 3) (tt := tYes) rfl sc_Shares__mul_.nd rfl rfl (sw_true rfl rfl rfl (by decide +kernel)) (pi_seqA Like.refl (pe_atA Like.refl pas_main (pv 0))) (blkOk_by (own := [("cents", 3)]) (N := N_Shares__mul_) (sc := defScope s_Shares__mul_) (by decide +kernel)) (fun _ _ _ _ _ => (pg_name (i := 3) sc_Shares__mul_.nd rfl (by first | exact Or.inl rfl | exact Or.inr rfl))) (fun _ _ _ _ _ => pts_nil) (fun _ _ _ _ _ => (pe_opA ⟨rfl, rfl, rfl, rfl, rfl, rfl, rfl⟩ passL (pv 3) (pv 1))))
    (pss_one (ps_ret (pe_glS Like.refl pas_main (by rfl) (pv 2))))), ?_⟩
    refine w_seq (w_asg ?_)
    refine c_tup (a := t) (xs := cs.map V.int) (fun k => (cs.take k).map fun c => V.int (c * i)) rfl (fun k hk => ?_) (SqT.of ht) (fun _ => rfl) (fun k x H' hx s1 => ?_) (fun r H' hr0 s1 hL => ?_) (fun R k => ?_)
    · rw [List.length_map, List.length_take]
      omega
    · rw [List.getElem?_map] at hx
      cases e : cs[k]? with
      | none => rw [e] at hx; cases hx
      | some c =>
        rw [e] at hx
        cases hx
        have ek : (cs.take (k + 1)).map (fun c => V.int (c * i)) = (cs.take k).map (fun c => V.int (c * i)) ++ [V.int (c * i)] := by
          rw [List.take_add_one, e]
          simp
        show Turn1 _ _ _ _ _ ((cs.take (k + 1)).map fun c => V.int (c * i))
        rw [ek]
        refine turn1_map fun R kk => ?_
        walk_at "go"
        exact s_mul (hm c (List.mem_of_getElem? e)) (kk _ (Same.refl _))
    · rw [List.length_map] at hL
      rw [List.take_of_length_le (Nat.le_refl _)] at hL
      walk_at "go"
      refine w_glS T.g_Shares T.mk_Shares.kp ?_
      walk_at "go"
      refine ⟨r, (cs.map (· * i)).map V.int, rfl, .inr (SqL.of (by rw [hL, List.map_map] <;> rfl)), ?_⟩
      exact s_shares T GI hr (by rw [List.length_map]; omega) fun p' H2 hp' s2 sh => q p' H2 (s1.free hp') (s1.trans s2) sh
    · walk_at "go"
      exact s_fld hp T.cl_Shares T.na_Shares_cents look_cents k
def spShNeg (C : Addr) : Sp := fun vs H Q _ => ∃ p cs, vs = [.ref p] ∧ ShAt C H p cs ∧ cs.length ≤ 1000 ∧ ∀ r H', H r = none → Same H H' → ShAt C H' r (cs.map (· * (-1))) → Q (.ref r) H'
theorem ok_sh_neg (T : Facts K mg a) : FnR P w K mg base (L2.CX P w) 4 a.f_Shares__neg_ (spShNeg a.c_Shares) := by
  obtain ⟨fd, F⟩ := T.u_Shares__neg_
  have GM : FnR P w K mg base (L2.CX P w) 3 a.f_Shares__mul_ (spShMul a.c_Shares) := ok_sh_mul T
  refine fnr_ok F sc_Shares__neg_ (F.binds fun _ _ _ _ _ _ us hl => match us, hl with | [_], _ => rfl) (fun vs H Q E h => ?_) (fun cdv A outer s H vs Q E hr h => ?_)
  · obtain ⟨p, cs, rfl, _⟩ := h
    rfl
  · obtain ⟨p, cs, rfl, sh, hl, q⟩ := h
    obtain ⟨dx, t, hp, ht⟩ := id sh
    refine ⟨_, (pss_one (ps_ret (pe_opA Like.refl pas_main (pv 0) (pe_unA Like.refl pas_main (pe_int))))), ?_⟩
    walk_at "go"
    exact s_opInt T.sf_Shares T.m_Shares__mul_ T.oi_Shares__mul_ (by decide +kernel) (by decide +kernel) GM hr hp ⟨p, cs, -1, rfl, sh, hl, fun c _ => .inr ⟨by decide, by decide⟩, q⟩
def spShAdd (C O : Addr) : Sp := fun vs H Q E => ∃ p q cs ds, vs = [.ref p, .ref q] ∧ ShAt C H p cs ∧ ShAt C H q ds ∧ cs.length ≤ 1000 ∧
  (cs.length = ds.length → ∀ r H', H r = none → Same H H' → ShAt C H' r (List.zipWith (· + ·) cs ds) → Q (.ref r) H') ∧ (cs.length ≠ ds.length → E (.ref O) none H)
theorem ok_sh_add (T : Facts K mg a) : FnR P w K mg base (L2.CX P w) 3 a.f_Shares__add_ (spShAdd a.c_Shares a.c_OtherTable) := by
  obtain ⟨fd, F⟩ := T.u_Shares__add_
  have GI : FnR P w K mg base (L2.CX P w) 1 a.f_Shares__init_ (InitSp a.c_Shares) := ok_sh_init T
  refine fnr_ok F sc_Shares__add_ (F.binds fun _ _ _ _ _ _ us hl => match us, hl with | [_, _], _ => rfl) (fun vs H Q E h => ?_) (fun cdv A outer s H vs Q E hr h => ?_)
  · obtain ⟨p, q, cs, ds, rfl, _⟩ := h
    rfl
  · obtain ⟨p, q, cs, ds, rfl, ⟨dx, t, hp, ht⟩, ⟨dy, u, hq, hu⟩, hl, k, e⟩ := h
    refine ⟨_, (pss_cons (ps_if (pt_cmpA Like.refl pas_main (pe_biA (id := "len") Like.refl pas_main (by rfl) (by decide +kernel) (pa_cons (pe_atA Like.refl pas_main (pv 0)) pa_nil)) (pe_biA (id := "len") Like.refl pas_main (by rfl) (by decide +kernel) (pa_cons (pe_atA Like.refl pas_main (pv 1)) pa_nil)) (nomark _)) (pss_one (ps_raA rfl tk_main (by rfl))) pss_nil)
    (pss_cons (ps_setLc (i := 2) (own := [("mine", 3), ("its", 4)]) (g := gTup K 2 (gCons (gName 3) (gCons (gName 4) gNil))) (tt := tYes) rfl sc_Shares__add_.nd rfl rfl (sw_true rfl rfl rfl (by decide +kernel)) (RZ.pi_zipA (by rfl) T.z_zip (pa_cons (pe_atA Like.refl pas_main (pv 0)) (pa_cons (pe_atA Like.refl pas_main (pv 1)) pa_nil))) (blkOk_by (own := [("mine", 3), ("its", 4)]) (N := N_Shares__add_) (sc := defScope s_Shares__add_) (by decide +kernel)) (fun _ _ _ _ _ => (pg_tup rfl (pgs_cons (pg_name (i := 3) sc_Shares__add_.nd rfl (by first | exact Or.inl rfl | exact Or.inr rfl)) (pgs_cons (pg_name (i := 4) sc_Shares__add_.nd rfl (by first | exact Or.inl rfl | exact Or.inr rfl)) pgs_nil)))) (fun _ _ _ _ _ => pts_nil) (fun _ _ _ _ _ => (pe_opA ⟨rfl, rfl, rfl, rfl, rfl, rfl, rfl⟩ passL (pv 3) (pv 4))))
    (pss_one (ps_ret (pe_glS Like.refl pas_main (by rfl) (pv 2)))))), ?_⟩
    walk_at "go"
    refine s_fld hp T.cl_Shares T.na_Shares_cents look_cents ?_
    walk_at "go"
    refine s_lenT (SqT.of ht) ?_
    walk_at "go"
    refine s_fld hq T.cl_Shares T.na_Shares_cents look_cents ?_
    walk_at "go"
    refine s_lenT (SqT.of hu) ?_
    walk_at "go"
    rw [List.length_map, List.length_map]
    refine ite_n (fun h1 => ?_) (fun h1 => ?_)
    · exact ⟨_, T.x_OtherTable, e fun z => h1 (by rw [z])⟩
    · have hcd : cs.length = ds.length := by omega
      walk_at "go"
      refine c_zipT (a := t) (b := u) (xs := cs.map V.int) (ys := ds.map V.int) (fun k => ((List.zipWith (· + ·) cs ds).take k).map V.int) rfl (fun k hk => ?_) (SqT.of ht) (SqT.of hu) (fun _ _ => rfl) (fun j x y H' hx hy s1 => ?_) (fun r H' hr0 s1 hL => ?_) (fun R k => ?_)
      · rw [List.length_map, List.length_take, List.length_zipWith]
        omega
      · rw [List.getElem?_map] at hx hy
        cases ex : cs[j]? with
        | none => rw [ex] at hx; cases hx
        | some c =>
          cases ey : ds[j]? with
          | none => rw [ey] at hy; cases hy
          | some d =>
            rw [ex] at hx
            rw [ey] at hy
            cases hx
            cases hy
            have ek : ((List.zipWith (· + ·) cs ds).take (j + 1)).map V.int = ((List.zipWith (· + ·) cs ds).take j).map V.int ++ [V.int (c + d)] := by
              rw [List.take_add_one, List.getElem?_zipWith, ex, ey]
              simp
            show Turn1 _ _ _ _ _ (((List.zipWith (· + ·) cs ds).take (j + 1)).map V.int)
            rw [ek]
            refine turn1_map fun R kk => ?_
            walk_at "go"
            exact kk _ (Same.refl _)
      · have e1 : (List.zipWith (· + ·) cs ds).take (min (cs.map V.int).length (ds.map V.int).length) = List.zipWith (· + ·) cs ds := List.take_of_length_le (by rw [List.length_zipWith, List.length_map, List.length_map]; exact Nat.le_refl _)
        rw [e1] at hL
        walk_at "go"
        refine w_glS T.g_Shares T.mk_Shares.kp ?_
        walk_at "go"
        refine ⟨r, (List.zipWith (· + ·) cs ds).map V.int, rfl, .inr (SqL.of hL), ?_⟩
        exact s_shares T GI hr (by rw [List.length_zipWith]; omega) fun p' H2 hp' s2 sh => k hcd p' H2 (s1.free hp') (s1.trans s2) sh
      · walk_at "go"
        refine s_fld hp T.cl_Shares T.na_Shares_cents look_cents ?_
        walk_at "go"
        refine s_fld hq T.cl_Shares T.na_Shares_cents look_cents ?_
        walk_at "go"
        exact k
def spShSub (C O : Addr) : Sp := fun vs H Q E => ∃ p q cs ds, vs = [.ref p, .ref q] ∧ ShAt C H p cs ∧ ShAt C H q ds ∧ cs.length ≤ 1000 ∧ ds.length ≤ 1000 ∧
  (cs.length = ds.length → ∀ r H', H r = none → Same H H' → ShAt C H' r (List.zipWith (· - ·) cs ds) → Q (.ref r) H') ∧ (cs.length ≠ ds.length → ∀ H', Same H H' → E (.ref O) none H')
theorem zip_neg : ∀ cs ds : List Int, List.zipWith (· + ·) cs (ds.map (· * (-1))) = List.zipWith (· - ·) cs ds
  | [], _ => by simp
  | _ :: _, [] => by simp
  | c :: cs, d :: ds => by
    rw [List.map_cons, List.zipWith_cons_cons, List.zipWith_cons_cons, zip_neg cs ds]
    congr 1
    omega
theorem ok_sh_sub (T : Facts K mg a) : FnR P w K mg base (L2.CX P w) 5 a.f_Shares__sub_ (spShSub a.c_Shares a.c_OtherTable) := by
  obtain ⟨fd, F⟩ := T.u_Shares__sub_
  have GN : FnR P w K mg base (L2.CX P w) 4 a.f_Shares__neg_ (spShNeg a.c_Shares) := ok_sh_neg T
  have GA : FnR P w K mg base (L2.CX P w) 3 a.f_Shares__add_ (spShAdd a.c_Shares a.c_OtherTable) := ok_sh_add T
  refine fnr_ok F sc_Shares__sub_ (F.binds fun _ _ _ _ _ _ us hl => match us, hl with | [_, _], _ => rfl) (fun vs H Q E h => ?_) (fun cdv A outer s H vs Q E hr h => ?_)
  · obtain ⟨p, q, cs, ds, rfl, _⟩ := h
    rfl
  · obtain ⟨p, q, cs, ds, rfl, sp, sq, hl, hl2, k, e⟩ := h
    obtain ⟨dx, t, hp, ht⟩ := id sp
    obtain ⟨dy, u, hq, hu⟩ := id sq
    refine ⟨_, (pss_one (ps_ret (pe_opA Like.refl pas_main (pv 0) (pe_unA Like.refl pas_main (pv 1))))), ?_⟩
    walk_at "go"
    refine s_negI T.m_Shares__neg_ GN hr hq ⟨q, ds, rfl, sq, hl2, fun r H' hr0 s1 sr => ?_⟩
    obtain ⟨dz, v, hv, hw⟩ := id sr
    refine s_opSame T.sf_Shares T.m_Shares__add_ (by decide +kernel) GA (hr.mono (by decide)) (s1 _ _ hp) hv ⟨p, r, cs, _, rfl, sp.same s1, sr, hl, fun hh r' H2 hr' s2 sh => ?_, fun hh => ?_⟩
    · rw [List.length_map] at hh
      rw [zip_neg] at sh
      exact k hh r' H2 (s1.free hr') (s1.trans s2) sh
    · rw [List.length_map] at hh
      exact e hh H' s1
def spShAbs (C : Addr) : Sp := fun vs H Q _ => ∃ p cs, vs = [.ref p] ∧ ShAt C H p cs ∧ Q (.int (maxI cs - minI cs)) H
theorem ok_sh_abs (T : Facts K mg a) : FnR P w K mg base (L2.CX P w) 1 a.f_Shares__abs_ (spShAbs a.c_Shares) := by
  obtain ⟨fd, F⟩ := T.u_Shares__abs_
  refine fnr_ok F sc_Shares__abs_ (F.binds fun _ _ _ _ _ _ us hl => match us, hl with | [_], _ => rfl) (fun vs H Q E h => ?_) (fun cdv A outer s H vs Q E hr h => ?_)
  · obtain ⟨p, cs, rfl, _⟩ := h
    rfl
  · obtain ⟨p, cs, rfl, ⟨dx, t, hp, ht⟩, q⟩ := h
    refine ⟨_, (pss_one (ps_ret (pe_ifExp (pt_trA Like.refl pas_main (pe_atA Like.refl pas_main (pv 0))) (pe_opA Like.refl pas_main (pe_biA (id := "max") Like.refl pas_main (by rfl) (by decide +kernel) (pa_cons (pe_atA Like.refl pas_main (pv 0)) pa_nil)) (pe_biA (id := "min") Like.refl pas_main (by rfl) (by decide +kernel) (pa_cons (pe_atA Like.refl pas_main (pv 0)) pa_nil))) (pe_int)))), ?_⟩
    walk_at "go"
    refine s_fld hp T.cl_Shares T.na_Shares_cents look_cents ?_
    refine s_truT (SqT.of ht) ?_
    cases cs with
    | nil =>
      refine iteF ?_
      walk_at "go"
      exact q
    | cons c cs =>
      refine iteT ?_
      refine w_op (w_bi T.z_max ?_)
      walk_at "go"
      refine s_fld hp T.cl_Shares T.na_Shares_cents look_cents ?_
      walk_at "go"
      refine s_maxT rfl (SqT.of ht) (by simp) ?_
      refine w_bi T.z_min ?_
      walk_at "go"
      refine s_fld hp T.cl_Shares T.na_Shares_cents look_cents ?_
      walk_at "go"
      refine s_minT rfl (SqT.of ht) (by simp) ?_
      walk_at "go"
      exact q
end

end Odd

namespace Odd
open PySem PySem.Spec PyProof.Rows L2
/-! tactics of this text: st one step, go as many as go -/
local macro_rules | `(tactic| walk_at "ar") => `(tactic| first | assumption | omega | (show (_ : Int) < _; omega) | decide)
local macro_rules | `(tactic| walk_at "st") => `(tactic| first
  | with_reducible refine' w_seq ?_
  | with_reducible refine' w_asg ?_
  | with_reducible refine' w_name ?_
  | with_reducible refine' w_c ?_
  | with_reducible refine' w_op ?_
  | with_reducible refine' w_ix ?_
  | with_reducible refine' w_at ?_
  | with_reducible refine' w_cons ?_
  | with_reducible refine' w_nil ?_
  | with_reducible refine' w_ret ?_
  | with_reducible refine' w_if ?_
  | with_reducible refine' w_test ?_
  | with_reducible refine' w_tr ?_
  | with_reducible refine' w_un ?_
  | with_reducible refine' w_andV ?_
  | with_reducible refine' w_orV ?_
  | with_reducible refine' w_notA ?_
  | with_reducible refine' w_ch ?_
  | with_reducible refine' w_and ?_
  | with_reducible refine' w_or ?_
  | with_reducible refine' w_not ?_
  | with_reducible refine' w_ifx ?_
  | with_reducible refine' w_tup ?_
  | with_reducible refine' w_lst ?_
  | with_reducible refine' w_next ?_
  | with_reducible refine' w_drop ?_
  | with_reducible refine' w_retN ?_
  | ((with_reducible refine' w_var ?h ?_); (case h => exact rfl))
  | ((with_reducible refine' w_bi ?h ?_); (case h => walk_at "mg"))
  | ((with_reducible refine' w_bv ?h ?_); (case h => walk_at "mg"))
  | ((with_reducible refine' w_gv ?h ?_); (case h => walk_at "mg"))
  | ((with_reducible refine' w_gl ?h ?k ?_); (case h => walk_at "mg"); (case k => walk_at "kp"))
  | ((with_reducible refine' w_glS ?h ?k ?_); (case h => walk_at "mg"); (case k => walk_at "kp"))
  | with_reducible refine' bl_ex ?_
  | with_reducible refine' iteT ?_
  | with_reducible refine' iteF ?_
  | with_reducible refine' ite_nf ?_
  | with_reducible refine' ite_nt ?_
  | with_reducible refine' s_add ?_
  | with_reducible refine' s_sub ?_
  | with_reducible refine' s_lt ?_
  | with_reducible refine' s_le ?_
  | with_reducible refine' s_gt ?_
  | with_reducible refine' s_ge ?_
  | with_reducible refine' s_eqI ?_
  | with_reducible refine' s_neI ?_
  | with_reducible refine' s_eqB ?_
  | with_reducible refine' s_neB ?_
  | with_reducible refine' s_truB ?_
  | with_reducible refine' s_truI ?_
  | with_reducible refine' s_neg ?_
  | ((with_reducible refine' s_mod ?h ?_); (case h => walk_at "ar")))
local macro_rules | `(tactic| walk_at "go") => `(tactic| repeat walk_at "st")

local macro_rules | `(tactic| walk_at "mg") => `(tactic| first | assumption | exact Facts.z_TypeError (by assumption) | exact Facts.z_ValueError (by assumption) | exact Facts.z_abs (by assumption) | exact Facts.z_all (by assumption) | exact Facts.z_bool (by assumption) | exact Facts.z_classmethod (by assumption) | exact Facts.z_enumerate (by assumption) | exact Facts.z_int (by assumption) | exact Facts.z_isinstance (by assumption) | exact Facts.z_len (by assumption) | exact Facts.z_list (by assumption) | exact Facts.z_max (by assumption) | exact Facts.z_min (by assumption) | exact Facts.z_property (by assumption) | exact Facts.z_range (by assumption) | exact Facts.z_sorted (by assumption) | exact Facts.z_str (by assumption) | exact Facts.z_sum (by assumption) | exact Facts.z_super (by assumption) | exact Facts.z_tuple (by assumption) | exact Facts.z_zip (by assumption) | exact Facts.g__wall (by assumption) | exact Facts.g_is_between (by assumption) | exact Facts.g_check_seat (by assumption) | exact Facts.g_seats_of (by assumption) | exact Facts.g_check_payment (by assumption) | exact Facts.g_balance_after (by assumption) | exact Facts.g_check_balance (by assumption) | exact Facts.g_sums_of_sets (by assumption) | exact Facts.g_number_of_groups (by assumption) | exact Facts.g_parted (by assumption) | exact Facts.g_payments_within (by assumption) | exact Facts.g_payments (by assumption) | exact Facts.g_fewest_payments (by assumption) | exact Facts.g_check_amount (by assumption) | exact Facts.g_check_seats (by assumption) | exact Facts.g_check_seat_count (by assumption) | exact Facts.g_check_mark (by assumption) | exact Facts.g_no_shares (by assumption) | exact Facts.g__law_random (by assumption) | exact Facts.g__law_below (by assumption) | exact Facts.g__law_shuffled (by assumption) | exact Facts.g__law_balance (by assumption) | exact Facts.g__law_shares (by assumption) | exact Facts.g__law_equal (by assumption) | exact Facts.g__law_error_of (by assumption) | exact Facts.g__law_all_raise (by assumption) | exact Facts.g_law (by assumption) | exact Facts.g_Shares (by assumption) | exact Facts.g_Bill (by assumption) | exact Facts.g_Page (by assumption) | exact Facts.g_Ledger (by assumption) | exact Facts.eg_InvalidBill (by assumption) | exact Facts.eg_InvalidEvening (by assumption) | exact Facts.eg_InvalidOperation (by assumption) | exact Facts.eg_InvalidMark (by assumption) | exact Facts.eg_UnknownSeat (by assumption) | exact Facts.eg_InvalidNumber (by assumption) | exact Facts.eg_NotBalanced (by assumption) | exact Facts.eg_EmptyGroup (by assumption) | exact Facts.eg_InvalidText (by assumption) | exact Facts.eg_InvalidReceipt (by assumption) | exact Facts.eg_DecodeError (by assumption))
local macro_rules | `(tactic| walk_at "kp") => `(tactic| first | assumption | exact (Facts.mk_Shares (by assumption)).kp | exact (Facts.mk_Bill (by assumption)).kp | exact (Facts.mk_Page (by assumption)).kp | exact (Facts.mk_Ledger (by assumption)).kp | exact Fun.kp (Facts.u__wall (by assumption)).choose_spec | exact Fun.kp (Facts.u_is_between (by assumption)).choose_spec | exact Fun.kp (Facts.u_check_seat (by assumption)).choose_spec | exact Fun.kp (Facts.u_seats_of (by assumption)).choose_spec | exact Fun.kp (Facts.u_check_payment (by assumption)).choose_spec | exact Fun.kp (Facts.u_balance_after (by assumption)).choose_spec | exact Fun.kp (Facts.u_check_balance (by assumption)).choose_spec | exact Fun.kp (Facts.u_sums_of_sets (by assumption)).choose_spec | exact Fun.kp (Facts.u_number_of_groups (by assumption)).choose_spec | exact Fun.kp (Facts.u_parted (by assumption)).choose_spec | exact Fun.kp (Facts.u_payments_within (by assumption)).choose_spec | exact Fun.kp (Facts.u_payments (by assumption)).choose_spec | exact Fun.kp (Facts.u_fewest_payments (by assumption)).choose_spec | exact Fun.kp (Facts.u_check_amount (by assumption)).choose_spec | exact Fun.kp (Facts.u_check_seats (by assumption)).choose_spec | exact Fun.kp (Facts.u_check_seat_count (by assumption)).choose_spec | exact Fun.kp (Facts.u_check_mark (by assumption)).choose_spec | exact Fun.kp (Facts.u_no_shares (by assumption)).choose_spec | exact Fun.kp (Facts.u__law_random (by assumption)).choose_spec | exact Fun.kp (Facts.u__law_below (by assumption)).choose_spec | exact Fun.kp (Facts.u__law_shuffled (by assumption)).choose_spec | exact Fun.kp (Facts.u__law_balance (by assumption)).choose_spec | exact Fun.kp (Facts.u__law_shares (by assumption)).choose_spec | exact Fun.kp (Facts.u__law_equal (by assumption)).choose_spec | exact Fun.kp (Facts.u__law_error_of (by assumption)).choose_spec | exact Fun.kp (Facts.u__law_all_raise (by assumption)).choose_spec | exact Fun.kp (Facts.u_law (by assumption)).choose_spec)
section
variable {P : Program} {w : World} {K : PySem.W.Frag} {mg : Str → Option Value} {base : Heap} {a : Ad}
theorem w_forR {ta : TA} {g : TG} {tb : TS} {D : Ends} {σ : L2.St} {H : Hp} (h : ta σ H fun vs H1 => tFor (iRng1 fun _ H R => R vs H) g tb D σ H1) : tFor (iRng1 ta) g tb D σ H := h
theorem w_forQ {K : PySem.W.Frag} {tl : TE} {g : TG} {tb : TS} {D : Ends} {σ : L2.St} {H : Hp} (h : tl σ H fun x H1 => tFor (iSeq K fun _ H R => R x H) g tb D σ H1) : tFor (iSeq K tl) g tb D σ H := h
theorem w_bm {K : PySem.W.Frag} {T : String} {r : V → List V → Hp → VK → Prop} {to : TE} {t : TA} {σ : L2.St} {H : Hp} {Q : VK} (h : to σ H fun x H1 => tyV K T x H1 ∧ t σ H1 fun xs H2 => r x xs H2 Q) : tBM K T r to t σ H Q := h
theorem s_iadd {X0 : Cx} {E : XK} {H : Hp} {Q : VK} {i j : Int} (q : Q (.int (i + j)) H) : ∃ r, OpD X0 E (inplaceOp .Add) r ∧ r (.int i) (.int j) H Q :=
  ⟨_, fun X _ _ pins s σ H x y v u Q I rx ry h => ip_add pins s σ H x y v u Q I rx ry h, i, j, rfl, rfl, q⟩
theorem ixN_of {n : Nat} {i : Int} (h0 : 0 ≤ i) (h1 : i < (n : Int)) : ixN n i = some i.toNat := by
  unfold ixN
  rw [if_pos h0, if_pos h1]
theorem w_slt {r : V → Option Int → Option Int → Hp → VK → Prop} {te tu : TE} {σ : L2.St} {H : Hp} {Q : VK} (h : te σ H fun x H1 => tu σ H1 fun y H2 => ∃ i, y = .int i ∧ r x none (some i) H2 Q) : tSl r te tNoPart (tPart tu) σ H Q := h
end

section
variable {P : Program} {w : World} {K : PySem.W.Frag} {mg : Str → Option Value} {base : Heap} {a : Ad}
theorem s_btwT {X0 : Cx} {E : XK} {H : Hp} {Q : VK} {i lo hi : Int} (GB : Fn X0 1 a.f_is_between spBetween) (hr : Room 1 X0.A) (h1 : lo ≤ i) (h2 : i ≤ hi) (q : Q (.bl true) H) : ∃ r, CaD X0 E (.ref a.f_is_between) r ∧ r [.int i, .int lo, .int hi] H Q :=
  s_fn GB hr ⟨i, lo, hi, rfl, by rw [decide_eq_true h1, decide_eq_true h2]; exact q⟩
def spCkCount : Sp := fun vs H Q _ => ∃ i : Int, vs = [.int i] ∧ 2 ≤ i ∧ i ≤ 8 ∧ Q .non H
theorem ok_check_seat_count (T : Facts K mg a) : FnR P w K mg base (L2.CX P w) 2 a.f_check_seat_count spCkCount := by
  obtain ⟨fd, F⟩ := T.u_check_seat_count
  have GB : FnR P w K mg base (L2.CX P w) 1 a.f_is_between spBetween := ok_between T
  refine fnr_ok F sc_check_seat_count (F.binds fun _ _ _ _ _ _ us hl => match us, hl with | [_], _ => rfl) (fun vs H Q E h => ?_) (fun cdv A outer s H vs Q E hr h => ?_)
  · obtain ⟨i, rfl, _⟩ := h
    rfl
  · obtain ⟨i, rfl, h0, h1, q⟩ := h
    refine ⟨_, (pss_one (ps_if (pt_not (pt_trA Like.refl pas_main (pe_glA Like.refl pas_main (by rfl) (pa_cons (pv 0) (pa_cons (pe_gvI Like.refl (by rfl)) (pa_cons (pe_atA Like.refl pas_main (pe_gvA Like.refl (by rfl))) pa_nil)))))) (pss_one (ps_never)) pss_nil)), ?_⟩
    walk_at "go"
    refine w_gvI T.i_MIN_SEAT_COUNT.choose_spec ?_
    walk_at "go"
    refine s_cval T.cr_Bill T.cv_Bill_MAX_SEATS.choose_spec ?_
    walk_at "go"
    refine s_btwT GB hr h0 (by omega) ?_
    walk_at "go"
    exact q
def spCkMark : Sp := fun vs H Q _ => ∃ i n : Int, vs = [.int i, .int n] ∧ 0 ≤ i ∧ i < n ∧ Q .non H
theorem ok_check_mark (T : Facts K mg a) : FnR P w K mg base (L2.CX P w) 2 a.f_check_mark spCkMark := by
  obtain ⟨fd, F⟩ := T.u_check_mark
  have GB : FnR P w K mg base (L2.CX P w) 1 a.f_is_between spBetween := ok_between T
  refine fnr_ok F sc_check_mark (F.binds fun _ _ _ _ _ _ us hl => match us, hl with | [_, _], _ => rfl) (fun vs H Q E h => ?_) (fun cdv A outer s H vs Q E hr h => ?_)
  · obtain ⟨i, n, rfl, _⟩ := h
    rfl
  · obtain ⟨i, n, rfl, h0, h1, q⟩ := h
    refine ⟨_, (pss_one (ps_if (pt_not (pt_trA Like.refl pas_main (pe_glA Like.refl pas_main (by rfl) (pa_cons (pv 0) (pa_cons (pe_int) (pa_cons (pe_opA Like.refl pas_main (pv 1) (pe_int)) pa_nil)))))) (pss_one (ps_raA rfl tk_main (by rfl))) pss_nil)), ?_⟩
    walk_at "go"
    refine s_btwT GB hr h0 (by omega) ?_
    walk_at "go"
    exact q
def spNoShares (C : Addr) : Sp := fun vs H Q _ => ∃ n : Nat, vs = [.int n] ∧ n ≤ 1000 ∧ ∀ r H', H r = none → Same H H' → ShAt C H' r (List.replicate n 0) → Q (.ref r) H'
theorem ok_no_shares (T : Facts K mg a) : FnR P w K mg base (L2.CX P w) 3 a.f_no_shares (spNoShares a.c_Shares) := by
  obtain ⟨fd, F⟩ := T.u_no_shares
  have GI : FnR P w K mg base (L2.CX P w) 1 a.f_Shares__init_ (InitSp a.c_Shares) := ok_sh_init T
  refine fnr_ok F sc_no_shares (F.binds fun _ _ _ _ _ _ us hl => match us, hl with | [_], _ => rfl) (fun vs H Q E h => ?_) (fun cdv A outer s H vs Q E hr h => ?_)
  · obtain ⟨n, rfl, _⟩ := h
    rfl
  · obtain ⟨n, rfl, hn, q⟩ := h
    refine ⟨_, (pss_cons (ps_set (i := 1) sc_no_shares.nd rfl (Or.inl rfl) (pe_opA Like.refl pas_main (pe_lst (pa_cons (pe_int) pa_nil)) (pv 0)))
    (pss_one (ps_ret (pe_glS Like.refl pas_main (by rfl) (pv 1))))), ?_⟩
    walk_at "go"
    refine ⟨by show 1 ≤ sizeLine; decide, fun c hc => ?_⟩
    walk_at "go"
    refine s_rep upd_same (by omega) (by omega) (sz5 (by simp; omega)) fun d hd => ?_
    walk_at "go"
    refine ⟨d, (List.replicate n 0).map V.int, rfl, .inr (SqL.of (by rw [upd_same, flat1, List.map_replicate, Int.toNat_natCast])), ?_⟩
    have s1 := same_new (o := .lst [.int 0]) hc
    have s2 := same_new (o := .lst (List.replicate (n : Int).toNat [V.int 0]).flatten) hd
    exact s_shares T GI hr (by rw [List.length_replicate]; omega) fun p' H2 hp' s3 sh => q p' H2 (s1.free (s2.free hp')) ((s1.trans s2).trans s3) sh
end

/-! ### payments at a table -/
section
variable {P : Program} {w : World} {K : PySem.W.Frag} {mg : Str → Option Value} {base : Heap} {a : Ad}
theorem s_iaddG {X0 : Cx} {E : XK} {H : Hp} {Q : VK} {i j : Int} (q : Q (.int (i + j)) H) : ∃ r, OpD X0 E (inplaceOp .Add) r ∧ r (.int i) (.int j) H Q := ⟨_, fun _ _ _ => iop_add, i, j, rfl, rfl, q⟩
theorem s_isubG {X0 : Cx} {E : XK} {H : Hp} {Q : VK} {i j : Int} (q : Q (.int (i - j)) H) : ∃ r, OpD X0 E (inplaceOp .Sub) r ∧ r (.int i) (.int j) H Q := ⟨_, fun _ _ _ => iop_sub, i, j, rfl, rfl, q⟩
theorem ixN_ofG {n : Nat} {i : Int} (h0 : 0 ≤ i) (h1 : i < (n : Int)) : ixN n i = some i.toNat := by
  unfold ixN
  rw [if_pos h0, if_pos h1]
theorem mapGet {l : List Int} {i : Nat} (h : i < l.length) : (l.map V.int)[i]? = some (.int (l.getD i 0)) := by
  rw [List.getElem?_map, List.getD_eq_getElem?_getD, List.getElem?_eq_getElem h]
  rfl
def spCkSeat : Sp := fun vs H Q _ => ∃ (i : Int) (n : Nat), vs = [.int i, .int n] ∧ 0 ≤ i ∧ i < (n : Int) ∧ Q .non H
theorem ok_check_seat (T : Facts K mg a) : FnR P w K mg base (L2.CX P w) 2 a.f_check_seat spCkSeat := by
  obtain ⟨fd, F⟩ := T.u_check_seat
  have GB : FnR P w K mg base (L2.CX P w) 1 a.f_is_between spBetween := ok_between T
  refine fnr_ok F sc_check_seat (F.binds fun _ _ _ _ _ _ us hl => match us, hl with | [_, _], _ => rfl) (fun vs H Q E h => ?_) (fun cdv A outer s H vs Q E hr h => ?_)
  · obtain ⟨i, n, rfl, _⟩ := h
    rfl
  · obtain ⟨i, n, rfl, h0, h1, q⟩ := h
    refine ⟨_, (pss_one (ps_if (pt_not (pt_trA Like.refl pas_main (pe_glA Like.refl pas_main (by rfl) (pa_cons (pv 0) (pa_cons (pe_int) (pa_cons (pe_opA Like.refl pas_main (pv 1) (pe_int)) pa_nil)))))) (pss_one (ps_raA rfl tk_main (by rfl))) pss_nil)), ?_⟩
    walk_at "go"
    refine s_btwT GB hr h0 (by omega) ?_
    walk_at "go"
    exact q
/-- a payment: giver, taker, cents -/
abbrev Pay := Nat × Nat × Int
def PayAt (H : Hp) (p : Addr) (x : Pay) : Prop := H p = some (.tup [.int (x.1 : Nat), .int (x.2.1 : Nat), .int x.2.2])
def PaysL (H : Hp) (ps : List Addr) (xs : List Pay) : Prop := ps.length = xs.length ∧ ∀ (i : Nat) p x, ps[i]? = some p → xs[i]? = some x → PayAt H p x
theorem PaysL.same {H H' : Hp} {ps : List Addr} {xs : List Pay} (h : PaysL H ps xs) (s : ∀ q vs, H q = some (.tup vs) → H' q = some (.tup vs)) : PaysL H' ps xs := ⟨h.1, fun i p x e1 e2 => s _ _ (h.2 i p x e1 e2)⟩
theorem PaysL.app {H : Hp} {ps qs : List Addr} {xs ys : List Pay} (h : PaysL H ps xs) (k : PaysL H qs ys) : PaysL H (ps ++ qs) (xs ++ ys) := by
  refine ⟨by rw [List.length_append, List.length_append, h.1, k.1], fun i p x e1 e2 => ?_⟩
  rcases Nat.lt_or_ge i ps.length with z | z
  · rw [List.getElem?_append_left z] at e1
    rw [List.getElem?_append_left (by rw [← h.1]; exact z)] at e2
    exact h.2 i p x e1 e2
  · rw [List.getElem?_append_right z] at e1
    rw [List.getElem?_append_right (by rw [← h.1]; exact z), ← h.1] at e2
    exact k.2 _ p x e1 e2
theorem PaysL.one {H : Hp} {p : Addr} {x : Pay} (h : PayAt H p x) : PaysL H [p] [x] := ⟨rfl, fun i q y e1 e2 => by
  cases i with
  | zero => cases e1; cases e2; exact h
  | succ i => simp at e1⟩
def PayOk (n : Nat) (x : Pay) : Prop := x.1 < n ∧ x.2.1 < n ∧ x.1 ≠ x.2.1 ∧ 1 ≤ x.2.2 ∧ x.2.2 ≤ 10 ^ 15
def spCkPay : Sp := fun vs H Q _ => ∃ (n : Nat) (x : Pay), vs = [.int n, .int (x.1 : Nat), .int (x.2.1 : Nat), .int x.2.2] ∧ PayOk n x ∧ Q .non H
theorem ok_check_payment (T : Facts K mg a) : FnR P w K mg base (L2.CX P w) 3 a.f_check_payment spCkPay := by
  obtain ⟨fd, F⟩ := T.u_check_payment
  have GB : FnR P w K mg base (L2.CX P w) 1 a.f_is_between spBetween := ok_between T
  have GS : FnR P w K mg base (L2.CX P w) 2 a.f_check_seat spCkSeat := ok_check_seat T
  refine fnr_ok F sc_check_payment (F.binds fun _ _ _ _ _ _ us hl => match us, hl with | [_, _, _, _], _ => rfl) (fun vs H Q E h => ?_) (fun cdv A outer s H vs Q E hr h => ?_)
  · obtain ⟨n, x, rfl, _⟩ := h
    rfl
  · obtain ⟨n, x, rfl, ⟨h1, h2, h3, h4, h5⟩, q⟩ := h
    refine ⟨_, (pss_cons (ps_expr (pe_glA Like.refl pas_main (by rfl) (pa_cons (pv 1) (pa_cons (pv 0) pa_nil))))
    (pss_cons (ps_expr (pe_glA Like.refl pas_main (by rfl) (pa_cons (pv 2) (pa_cons (pv 0) pa_nil))))
    (pss_cons (ps_if (pt_cmpA Like.refl pas_main (pv 1) (pv 2) (nomark _)) (pss_one (ps_raA rfl tk_main (by rfl))) pss_nil)
    (pss_one (ps_if (pt_not (pt_trA Like.refl pas_main (pe_glA Like.refl pas_main (by rfl) (pa_cons (pv 3) (pa_cons (pe_int) (pa_cons (pe_gvI Like.refl (by rfl)) pa_nil)))))) (pss_one (ps_raA rfl tk_main (by rfl))) pss_nil))))), ?_⟩
    walk_at "go"
    refine s_fn GS hr ⟨_, n, rfl, by omega, by omega, ?_⟩
    walk_at "go"
    refine s_fn GS hr ⟨_, n, rfl, by omega, by omega, ?_⟩
    walk_at "go"
    refine ite_d (fun z => absurd z (by omega)) (fun _ => ?_)
    walk_at "go"
    refine w_gvI T.i_MAX_PAYMENT.choose_spec ?_
    walk_at "go"
    refine s_btwT GB (hr.mono (by decide)) h4 h5 ?_
    walk_at "go"
    exact q
/-- a balance after payments -/
def give1 (d : List Int) (x : Pay) : List Int :=
  let d1 := d.set x.1 (d.getD x.1 0 + x.2.2)
  d1.set x.2.1 (d1.getD x.2.1 0 - x.2.2)
def giveAll (d : List Int) (xs : List Pay) : List Int := xs.foldl give1 d
theorem give1_len (d : List Int) (x : Pay) : (give1 d x).length = d.length := by
  unfold give1
  rw [List.length_set, List.length_set]
theorem giveAll_len : ∀ (xs : List Pay) (d : List Int), (giveAll d xs).length = d.length
  | [], _ => rfl
  | x :: xs, d => by
    show (giveAll (give1 d x) xs).length = _
    rw [giveAll_len xs, give1_len]
theorem giveAll_snoc (d : List Int) (xs : List Pay) (x : Pay) : giveAll d (xs ++ [x]) = give1 (giveAll d xs) x := by
  unfold giveAll
  rw [List.foldl_append]
  rfl
theorem giveAll_app (d : List Int) (xs ys : List Pay) : giveAll d (xs ++ ys) = giveAll (giveAll d xs) ys := by
  unfold giveAll
  rw [List.foldl_append]
def spBalAfter (C : Addr) : Sp := fun vs H Q _ => ∃ (p g : Addr) (ds : List Int) (ps : List Addr) (xs : List Pay), vs = [.ref p, .ref g] ∧ ShAt C H p ds ∧ H g = some (.lst (ps.map V.ref)) ∧ PaysL H ps xs ∧ ds.length ≤ 8 ∧ xs.length ≤ 1000 ∧ (∀ x ∈ xs, PayOk ds.length x) ∧
  ∀ r H', H r = none → Same H H' → ShAt C H' r (giveAll ds xs) → Q (.ref r) H'
theorem ok_balance_after (T : Facts K mg a) : FnR P w K mg base (L2.CX P w) 4 a.f_balance_after (spBalAfter a.c_Shares) := by
  obtain ⟨fd, F⟩ := T.u_balance_after
  have GP : FnR P w K mg base (L2.CX P w) 3 a.f_check_payment spCkPay := ok_check_payment T
  have GC : FnR P w K mg base (L2.CX P w) 1 a.f_Shares_cents (spShCents a.c_Shares) := ok_sh_cents T
  have GI : FnR P w K mg base (L2.CX P w) 1 a.f_Shares__init_ (InitSp a.c_Shares) := ok_sh_init T
  refine fnr_ok F sc_balance_after (F.binds fun _ _ _ _ _ _ us hl => match us, hl with | [_, _], _ => rfl) (fun vs H Q E h => ?_) (fun cdv A outer s H vs Q E hr h => ?_)
  · obtain ⟨p, g, ds, ps, xs, rfl, _⟩ := h
    rfl
  · obtain ⟨p, g, ds, ps, xs, rfl, sh, hg, hps, hn8, hxl, hok, q⟩ := h
    obtain ⟨dx, t, e1, e2⟩ := id sh
    refine ⟨_, (pss_cons (ps_set (i := 2) sc_balance_after.nd rfl (Or.inl rfl) (pe_tyA (T := "list") Like.refl pas_main (by rfl) (by decide +kernel) (pa_cons (pe_atA Like.refl pas_main (pv 0)) pa_nil)))
    (pss_cons (ps_for own_main rfl (pi_seqA Like.refl (pv 1)) (pg_tup rfl (pgs_cons (pg_name (i := 3) sc_balance_after.nd rfl (Or.inl rfl)) (pgs_cons (pg_name (i := 4) sc_balance_after.nd rfl (Or.inl rfl)) (pgs_cons (pg_name (i := 5) sc_balance_after.nd rfl (Or.inl rfl)) pgs_nil)))) (pss_cons (ps_expr (pe_glA Like.refl pas_main (by rfl) (pa_cons (pe_biA (id := "len") Like.refl pas_main (by rfl) (by decide +kernel) (pa_cons (pv 2) pa_nil)) (pa_cons (pv 3) (pa_cons (pv 4) (pa_cons (pv 5) pa_nil))))))
    (pss_cons (ps_agS Like.refl pas_main (pv 2) (pv 3) (pv 5))
    (pss_one (ps_agS Like.refl pas_main (pv 2) (pv 4) (pv 5))))))
    (pss_one (ps_ret (pe_glS Like.refl pas_main (by rfl) (pv 2)))))), ?_⟩
    walk_at "go"
    refine s_prop T.cl_Shares T.pr_Shares_cents GC (hr.mono (by decide)) e1 ⟨p, dx, t, rfl, e1, ?_⟩
    walk_at "go"
    refine s_listOf (.inr (SqT.of e2)) fun d hd => ?_
    have s1 := same_new (o := .lst (ds.map V.int)) hd
    walk_at "go"
    refine f_lst (a := g) (xs := ps.map V.ref) (fun k σ H' => Same H H' ∧ ∃ x3 x4 x5, σ = [some (.ref p), some (.ref g), some (.ref d), x3, x4, x5] ∧ H' d = some (.lst ((giveAll ds (xs.take k)).map V.int))) (fun R k => by walk_at "go"; exact k)
      ⟨s1, none, none, none, rfl, upd_same⟩ (fun k σ H' _ pv => SqL.of (pv.1 _ _ hg)) (fun k x σ H' hx pv => ?_) (fun σ H' pv => ?_)
    · obtain ⟨s2, x3, x4, x5, rfl, hD⟩ := pv
      rw [List.getElem?_map] at hx
      cases e : ps[k]? with
      | none => rw [e] at hx; cases hx
      | some r =>
        rw [e] at hx
        cases hx
        obtain ⟨hk, _⟩ := List.getElem?_eq_some_iff.1 e
        obtain ⟨y, ey⟩ : ∃ y, xs[k]? = some y := ⟨_, List.getElem?_eq_getElem (by rw [← hps.1]; exact hk)⟩
        have hy := hok y (List.mem_of_getElem? ey)
        have gl := giveAll_len (xs.take k) ds
        generalize hcur : giveAll ds (xs.take k) = cur at *
        refine g_trip (SqT.of (s2 _ _ (hps.2 k r y e ey))) ?_
        dsimp only [List.set]
        walk_at "go"
        refine s_lenL (SqL.of hD) ?_
        rw [List.length_map, gl]
        walk_at "go"
        refine s_fn GP hr ⟨ds.length, y, rfl, hy, ?_⟩
        walk_at "go"
        have L0 : y.1 < cur.length := by rw [gl]; exact hy.1
        have L1 : y.2.1 < cur.length := by rw [gl]; exact hy.2.1
        refine w_agS (K := K) ?_
        walk_at "go"
        refine s_getL (SqL.of hD) (Int.natCast_nonneg _) (v := .int (cur.getD y.1 0)) (by rw [Int.toNat_natCast]; exact mapGet L0) ?_
        walk_at "go"
        refine s_iaddG ?_
        refine s_setL hD (ixN_ofG (Int.natCast_nonneg _) (by rw [List.length_map]; omega)) ?_
        walk_at "go"
        rw [Int.toNat_natCast, ← List.map_set]
        have s3 := same_mut (o := .lst ((cur.set y.1 (cur.getD y.1 0 + y.2.2)).map V.int)) s2 hd
        have hD3 : (upd H' d (.lst ((cur.set y.1 (cur.getD y.1 0 + y.2.2)).map V.int))) d = some (.lst ((cur.set y.1 (cur.getD y.1 0 + y.2.2)).map V.int)) := upd_same
        generalize upd H' d (.lst ((cur.set y.1 (cur.getD y.1 0 + y.2.2)).map V.int)) = H3 at *
        dsimp only
        refine w_agS (K := K) ?_
        walk_at "go"
        refine s_getL (SqL.of hD3) (Int.natCast_nonneg _) (v := .int ((cur.set y.1 (cur.getD y.1 0 + y.2.2)).getD y.2.1 0)) (by rw [Int.toNat_natCast]; exact mapGet (by rw [List.length_set]; exact L1)) ?_
        walk_at "go"
        refine s_isubG ?_
        refine s_setL hD3 (ixN_ofG (Int.natCast_nonneg _) (by rw [List.length_map, List.length_set]; omega)) ?_
        walk_at "go"
        rw [Int.toNat_natCast, ← List.map_set]
        refine ⟨same_mut s3 hd, _, _, _, rfl, ?_⟩
        rw [upd_same, List.take_add_one, ey]
        show _ = some (HO.lst ((giveAll ds (xs.take k ++ [y])).map V.int))
        rw [giveAll_snoc, hcur]
        rfl
    · obtain ⟨s2, x3, x4, x5, rfl, hD⟩ := pv
      rw [List.length_map, hps.1, List.take_of_length_le (Nat.le_refl _)] at hD
      walk_at "go"
      refine ⟨d, (giveAll ds xs).map V.int, rfl, .inr (SqL.of hD), ?_⟩
      exact s_shares T GI (hr.mono (by decide)) (by rw [giveAll_len]; omega) fun r H5 hr5 s5 sh5 => q r H5 (s2.free hr5) (s2.trans s5) sh5
end

end Odd

namespace Odd
open PySem PySem.Spec PyProof.Rows L2
/-! tactics of this text: st one step, go as many as go -/
local macro_rules | `(tactic| walk_at "ar") => `(tactic| first | assumption | omega | (show (_ : Int) < _; omega) | decide)
local macro_rules | `(tactic| walk_at "st") => `(tactic| first
  | with_reducible refine' w_seq ?_
  | with_reducible refine' w_asg ?_
  | with_reducible refine' w_name ?_
  | with_reducible refine' w_c ?_
  | with_reducible refine' w_op ?_
  | with_reducible refine' w_ix ?_
  | with_reducible refine' w_at ?_
  | with_reducible refine' w_cons ?_
  | with_reducible refine' w_nil ?_
  | with_reducible refine' w_ret ?_
  | with_reducible refine' w_if ?_
  | with_reducible refine' w_test ?_
  | with_reducible refine' w_tr ?_
  | with_reducible refine' w_un ?_
  | with_reducible refine' w_andV ?_
  | with_reducible refine' w_orV ?_
  | with_reducible refine' w_notA ?_
  | with_reducible refine' w_ch ?_
  | with_reducible refine' w_and ?_
  | with_reducible refine' w_or ?_
  | with_reducible refine' w_not ?_
  | with_reducible refine' w_ifx ?_
  | with_reducible refine' w_tup ?_
  | with_reducible refine' w_lst ?_
  | with_reducible refine' w_next ?_
  | with_reducible refine' w_drop ?_
  | with_reducible refine' w_retN ?_
  | ((with_reducible refine' w_var ?h ?_); (case h => exact rfl))
  | ((with_reducible refine' w_bi ?h ?_); (case h => walk_at "mg"))
  | ((with_reducible refine' w_bv ?h ?_); (case h => walk_at "mg"))
  | ((with_reducible refine' w_gv ?h ?_); (case h => walk_at "mg"))
  | ((with_reducible refine' w_gl ?h ?k ?_); (case h => walk_at "mg"); (case k => walk_at "kp"))
  | ((with_reducible refine' w_glS ?h ?k ?_); (case h => walk_at "mg"); (case k => walk_at "kp"))
  | with_reducible refine' bl_ex ?_
  | with_reducible refine' iteT ?_
  | with_reducible refine' iteF ?_
  | with_reducible refine' ite_nf ?_
  | with_reducible refine' ite_nt ?_
  | with_reducible refine' s_add ?_
  | with_reducible refine' s_sub ?_
  | with_reducible refine' s_lt ?_
  | with_reducible refine' s_le ?_
  | with_reducible refine' s_gt ?_
  | with_reducible refine' s_ge ?_
  | with_reducible refine' s_eqI ?_
  | with_reducible refine' s_neI ?_
  | with_reducible refine' s_eqB ?_
  | with_reducible refine' s_neB ?_
  | with_reducible refine' s_truB ?_
  | with_reducible refine' s_truI ?_
  | with_reducible refine' s_neg ?_
  | ((with_reducible refine' s_mod ?h ?_); (case h => walk_at "ar")))
local macro_rules | `(tactic| walk_at "go") => `(tactic| repeat walk_at "st")

local macro_rules | `(tactic| walk_at "mg") => `(tactic| first | assumption | exact Facts.z_TypeError (by assumption) | exact Facts.z_ValueError (by assumption) | exact Facts.z_abs (by assumption) | exact Facts.z_all (by assumption) | exact Facts.z_bool (by assumption) | exact Facts.z_classmethod (by assumption) | exact Facts.z_enumerate (by assumption) | exact Facts.z_int (by assumption) | exact Facts.z_isinstance (by assumption) | exact Facts.z_len (by assumption) | exact Facts.z_list (by assumption) | exact Facts.z_max (by assumption) | exact Facts.z_min (by assumption) | exact Facts.z_property (by assumption) | exact Facts.z_range (by assumption) | exact Facts.z_sorted (by assumption) | exact Facts.z_str (by assumption) | exact Facts.z_sum (by assumption) | exact Facts.z_super (by assumption) | exact Facts.z_tuple (by assumption) | exact Facts.z_zip (by assumption) | exact Facts.g__wall (by assumption) | exact Facts.g_is_between (by assumption) | exact Facts.g_check_seat (by assumption) | exact Facts.g_seats_of (by assumption) | exact Facts.g_check_payment (by assumption) | exact Facts.g_balance_after (by assumption) | exact Facts.g_check_balance (by assumption) | exact Facts.g_sums_of_sets (by assumption) | exact Facts.g_number_of_groups (by assumption) | exact Facts.g_parted (by assumption) | exact Facts.g_payments_within (by assumption) | exact Facts.g_payments (by assumption) | exact Facts.g_fewest_payments (by assumption) | exact Facts.g_check_amount (by assumption) | exact Facts.g_check_seats (by assumption) | exact Facts.g_check_seat_count (by assumption) | exact Facts.g_check_mark (by assumption) | exact Facts.g_no_shares (by assumption) | exact Facts.g__law_random (by assumption) | exact Facts.g__law_below (by assumption) | exact Facts.g__law_shuffled (by assumption) | exact Facts.g__law_balance (by assumption) | exact Facts.g__law_shares (by assumption) | exact Facts.g__law_equal (by assumption) | exact Facts.g__law_error_of (by assumption) | exact Facts.g__law_all_raise (by assumption) | exact Facts.g_law (by assumption) | exact Facts.g_Shares (by assumption) | exact Facts.g_Bill (by assumption) | exact Facts.g_Page (by assumption) | exact Facts.g_Ledger (by assumption) | exact Facts.eg_InvalidBill (by assumption) | exact Facts.eg_InvalidEvening (by assumption) | exact Facts.eg_InvalidOperation (by assumption) | exact Facts.eg_InvalidMark (by assumption) | exact Facts.eg_UnknownSeat (by assumption) | exact Facts.eg_InvalidNumber (by assumption) | exact Facts.eg_NotBalanced (by assumption) | exact Facts.eg_EmptyGroup (by assumption) | exact Facts.eg_InvalidText (by assumption) | exact Facts.eg_InvalidReceipt (by assumption) | exact Facts.eg_DecodeError (by assumption))
local macro_rules | `(tactic| walk_at "kp") => `(tactic| first | assumption | exact (Facts.mk_Shares (by assumption)).kp | exact (Facts.mk_Bill (by assumption)).kp | exact (Facts.mk_Page (by assumption)).kp | exact (Facts.mk_Ledger (by assumption)).kp | exact Fun.kp (Facts.u__wall (by assumption)).choose_spec | exact Fun.kp (Facts.u_is_between (by assumption)).choose_spec | exact Fun.kp (Facts.u_check_seat (by assumption)).choose_spec | exact Fun.kp (Facts.u_seats_of (by assumption)).choose_spec | exact Fun.kp (Facts.u_check_payment (by assumption)).choose_spec | exact Fun.kp (Facts.u_balance_after (by assumption)).choose_spec | exact Fun.kp (Facts.u_check_balance (by assumption)).choose_spec | exact Fun.kp (Facts.u_sums_of_sets (by assumption)).choose_spec | exact Fun.kp (Facts.u_number_of_groups (by assumption)).choose_spec | exact Fun.kp (Facts.u_parted (by assumption)).choose_spec | exact Fun.kp (Facts.u_payments_within (by assumption)).choose_spec | exact Fun.kp (Facts.u_payments (by assumption)).choose_spec | exact Fun.kp (Facts.u_fewest_payments (by assumption)).choose_spec | exact Fun.kp (Facts.u_check_amount (by assumption)).choose_spec | exact Fun.kp (Facts.u_check_seats (by assumption)).choose_spec | exact Fun.kp (Facts.u_check_seat_count (by assumption)).choose_spec | exact Fun.kp (Facts.u_check_mark (by assumption)).choose_spec | exact Fun.kp (Facts.u_no_shares (by assumption)).choose_spec | exact Fun.kp (Facts.u__law_random (by assumption)).choose_spec | exact Fun.kp (Facts.u__law_below (by assumption)).choose_spec | exact Fun.kp (Facts.u__law_shuffled (by assumption)).choose_spec | exact Fun.kp (Facts.u__law_balance (by assumption)).choose_spec | exact Fun.kp (Facts.u__law_shares (by assumption)).choose_spec | exact Fun.kp (Facts.u__law_equal (by assumption)).choose_spec | exact Fun.kp (Facts.u__law_error_of (by assumption)).choose_spec | exact Fun.kp (Facts.u__law_all_raise (by assumption)).choose_spec | exact Fun.kp (Facts.u_law (by assumption)).choose_spec)
/-! ### parting seats into groups that come to nothing -/
section
variable {P : Program} {w : World} {K : PySem.W.Frag} {mg : Str → Option Value} {base : Heap} {a : Ad}
/-- what the seats of each set are to get -/
def sumsV (due : List Int) : List Int := due.foldl (fun s c => s ++ s.map (· + c)) [0]
theorem sumsV_snoc (xs : List Int) (c : Int) : sumsV (xs ++ [c]) = sumsV xs ++ (sumsV xs).map (· + c) := by
  unfold sumsV
  rw [List.foldl_append]
  rfl
theorem sumsV_len : ∀ (k : Nat) (xs : List Int), xs.length = k → (sumsV xs).length = 2 ^ k
  | 0, xs, h => by rw [List.length_eq_zero_iff.1 h]; rfl
  | k + 1, xs, h => by
    obtain ⟨l, b, rfl⟩ : ∃ l b, xs = l ++ [b] := ⟨xs.dropLast, xs.getLast (by intro z; rw [z] at h; cases h), (List.dropLast_concat_getLast _).symm⟩
    rw [List.length_append, List.length_singleton] at h
    rw [sumsV_snoc, List.length_append, List.length_map, sumsV_len k l (by omega), Nat.pow_succ]
    omega
def spSums (K : PySem.W.Frag) : Sp := fun vs H Q _ => ∃ (t : Addr) (ds : List Int), vs = [.ref t] ∧ SqT K H t (ds.map V.int) ∧ ds.length ≤ 8 ∧ ∀ p H', H p = none → Same H H' → H' p = some (.lst ((sumsV ds).map V.int)) → Q (.ref p) H'
theorem ok_sums (T : Facts K mg a) : FnR P w K mg base (L2.CX P w) 1 a.f_sums_of_sets (spSums K) := by
  obtain ⟨fd, F⟩ := T.u_sums_of_sets
  refine fnr_ok F sc_sums_of_sets (F.binds fun _ _ _ _ _ _ us hl => match us, hl with | [_], _ => rfl) (fun vs H Q E h => ?_) (fun cdv A outer s H vs Q E hr h => ?_)
  · obtain ⟨t, ds, rfl, _⟩ := h
    rfl
  · obtain ⟨t, ds, rfl, ht, hn8, q⟩ := h
    refine ⟨_, (pss_cons (ps_set (i := 1) sc_sums_of_sets.nd rfl (Or.inl rfl) (pe_lst (pa_cons (pe_int) pa_nil)))
    (pss_cons (ps_for own_main rfl (pi_seqA Like.refl (pv 0)) (pg_name (i := 2) sc_sums_of_sets.nd rfl (Or.inr rfl)) (pss_one (ps_set (i := 1) sc_sums_of_sets.nd rfl (Or.inl rfl) (pe_opA Like.refl pas_main (pv 1) (pe_lc (own := [("others", 3)]) (g := gName 3) (tt := tYes) rfl sc_sums_of_sets.nd (pi_seqA Like.refl (pv 1)) (blkOk_by (own := [("others", 3)]) (N := N_sums_of_sets) (sc := defScope s_sums_of_sets) (by decide +kernel)) (fun _ _ _ _ _ => (pg_name (i := 3) sc_sums_of_sets.nd rfl (by first | exact Or.inl rfl | exact Or.inr rfl))) (fun _ _ _ _ _ => pts_nil) (fun _ _ _ _ _ => (pe_opA ⟨rfl, rfl, rfl, rfl, rfl, rfl, rfl⟩ passL (pv 3) (pv 2))))))))
    (pss_one (ps_ret (pv 1))))), ?_⟩
    walk_at "go"
    refine ⟨by show 1 ≤ sizeLine; decide, fun l hl => ?_⟩
    have s1 := same_new (o := .lst [.int 0]) hl
    walk_at "go"
    refine f_tup (a := t) (xs := ds.map V.int) (fun k σ H' => Same H H' ∧ ∃ l x2 x3, H l = none ∧ σ = [some (.ref t), some (.ref l), x2, x3] ∧ H' l = some (.lst ((sumsV (ds.take k)).map V.int))) (fun R k => by walk_at "go"; exact k)
      ⟨s1, l, none, none, hl, rfl, upd_same⟩ (fun k σ H' _ pv => (same_t pv.1 ht)) (fun k x σ H' hx pv => ?_) (fun σ H' pv => ?_)
    · obtain ⟨s2, l2, x2, x3, hl2, rfl, hL⟩ := pv
      rw [List.getElem?_map] at hx
      cases e : ds[k]? with
      | none => rw [e] at hx; cases hx
      | some c =>
        rw [e] at hx
        cases hx
        obtain ⟨hk, _⟩ := List.getElem?_eq_some_iff.1 e
        have hsl : (sumsV (ds.take k)).length ≤ 128 := by
          rw [sumsV_len k _ (by rw [List.length_take]; omega)]
          exact Nat.le_trans (Nat.pow_le_pow_right (by decide) (show k ≤ 7 by omega)) (by decide)
        have hsn : sumsV (ds.take (k + 1)) = sumsV (ds.take k) ++ (sumsV (ds.take k)).map (· + c) := by
          rw [List.take_add_one, e]
          exact sumsV_snoc _ _
        generalize sumsV (ds.take k) = cur at *
        refine w_name ?_
        dsimp only [List.set]
        walk_at "go"
        refine c_list (a := l2) (xs := cur.map V.int) (fun i => (cur.take i).map fun z => V.int (z + c)) rfl (fun i hi => ?_) (SqL.of hL) (fun _ => rfl) (fun i x H2 hx2 s3 => ?_) (fun p3 H3 hp3 s3 h3 => ?_) (fun R k => by walk_at "go"; exact k)
        · rw [List.length_map, List.length_take]
          omega
        · rw [List.getElem?_map] at hx2
          cases e2 : cur[i]? with
          | none => rw [e2] at hx2; cases hx2
          | some z =>
            rw [e2] at hx2
            cases hx2
            have eo : ((cur.take (i + 1)).map fun z => V.int (z + c)) = ((cur.take i).map fun z => V.int (z + c)) ++ [V.int (z + c)] := by
              rw [List.take_add_one, e2, List.map_append]
              rfl
            show Turn1 _ _ _ _ ((cur.take i).map fun z => V.int (z + c)) ((cur.take (i + 1)).map fun z => V.int (z + c))
            rw [eo]
            refine turn1_map fun R hR => ?_
            walk_at "go"
            exact hR _ (Same.refl _)
        · rw [List.length_map, List.take_of_length_le (Nat.le_refl _)] at h3
          refine s_cat (s3 _ _ hL) h3 (by rw [List.length_map, List.length_map]; exact Nat.le_trans (show cur.length + cur.length ≤ 1000 by omega) (by decide)) fun p4 hp4 => ?_
          have s4 := (s2.trans s3).trans (same_new (o := .lst (cur.map V.int ++ cur.map fun z => V.int (z + c))) hp4)
          walk_at "go"
          refine ⟨s4, p4, _, _, (s2.trans s3).free hp4, rfl, ?_⟩
          rw [upd_same, hsn, List.map_append, List.map_map]
          rfl
    · obtain ⟨s2, l2, x2, x3, hl2, rfl, hL⟩ := pv
      rw [List.length_map, List.take_of_length_le (Nat.le_refl _)] at hL
      walk_at "go"
      exact q l2 _ hl2 s2 hL
end

end Odd

namespace Odd
open PySem PySem.Spec PyProof.Rows L2
/-! tactics of this text: st one step, go as many as go -/
local macro_rules | `(tactic| walk_at "ar") => `(tactic| first | assumption | omega | (show (_ : Int) < _; omega) | decide)
local macro_rules | `(tactic| walk_at "st") => `(tactic| first
  | with_reducible refine' w_seq ?_
  | with_reducible refine' w_asg ?_
  | with_reducible refine' w_name ?_
  | with_reducible refine' w_c ?_
  | with_reducible refine' w_op ?_
  | with_reducible refine' w_ix ?_
  | with_reducible refine' w_at ?_
  | with_reducible refine' w_cons ?_
  | with_reducible refine' w_nil ?_
  | with_reducible refine' w_ret ?_
  | with_reducible refine' w_if ?_
  | with_reducible refine' w_test ?_
  | with_reducible refine' w_tr ?_
  | with_reducible refine' w_un ?_
  | with_reducible refine' w_andV ?_
  | with_reducible refine' w_orV ?_
  | with_reducible refine' w_notA ?_
  | with_reducible refine' w_ch ?_
  | with_reducible refine' w_and ?_
  | with_reducible refine' w_or ?_
  | with_reducible refine' w_not ?_
  | with_reducible refine' w_ifx ?_
  | with_reducible refine' w_tup ?_
  | with_reducible refine' w_lst ?_
  | with_reducible refine' w_next ?_
  | with_reducible refine' w_drop ?_
  | with_reducible refine' w_retN ?_
  | ((with_reducible refine' w_var ?h ?_); (case h => exact rfl))
  | ((with_reducible refine' w_bi ?h ?_); (case h => walk_at "mg"))
  | ((with_reducible refine' w_bv ?h ?_); (case h => walk_at "mg"))
  | ((with_reducible refine' w_gv ?h ?_); (case h => walk_at "mg"))
  | ((with_reducible refine' w_gl ?h ?k ?_); (case h => walk_at "mg"); (case k => walk_at "kp"))
  | ((with_reducible refine' w_glS ?h ?k ?_); (case h => walk_at "mg"); (case k => walk_at "kp"))
  | with_reducible refine' bl_ex ?_
  | with_reducible refine' iteT ?_
  | with_reducible refine' iteF ?_
  | with_reducible refine' ite_nf ?_
  | with_reducible refine' ite_nt ?_
  | with_reducible refine' s_add ?_
  | with_reducible refine' s_sub ?_
  | with_reducible refine' s_lt ?_
  | with_reducible refine' s_le ?_
  | with_reducible refine' s_gt ?_
  | with_reducible refine' s_ge ?_
  | with_reducible refine' s_eqI ?_
  | with_reducible refine' s_neI ?_
  | with_reducible refine' s_eqB ?_
  | with_reducible refine' s_neB ?_
  | with_reducible refine' s_truB ?_
  | with_reducible refine' s_truI ?_
  | with_reducible refine' s_neg ?_
  | ((with_reducible refine' s_mod ?h ?_); (case h => walk_at "ar")))
local macro_rules | `(tactic| walk_at "go") => `(tactic| repeat walk_at "st")

local macro_rules | `(tactic| walk_at "mg") => `(tactic| first | assumption | exact Facts.z_TypeError (by assumption) | exact Facts.z_ValueError (by assumption) | exact Facts.z_abs (by assumption) | exact Facts.z_all (by assumption) | exact Facts.z_bool (by assumption) | exact Facts.z_classmethod (by assumption) | exact Facts.z_enumerate (by assumption) | exact Facts.z_int (by assumption) | exact Facts.z_isinstance (by assumption) | exact Facts.z_len (by assumption) | exact Facts.z_list (by assumption) | exact Facts.z_max (by assumption) | exact Facts.z_min (by assumption) | exact Facts.z_property (by assumption) | exact Facts.z_range (by assumption) | exact Facts.z_sorted (by assumption) | exact Facts.z_str (by assumption) | exact Facts.z_sum (by assumption) | exact Facts.z_super (by assumption) | exact Facts.z_tuple (by assumption) | exact Facts.z_zip (by assumption) | exact Facts.g__wall (by assumption) | exact Facts.g_is_between (by assumption) | exact Facts.g_check_seat (by assumption) | exact Facts.g_seats_of (by assumption) | exact Facts.g_check_payment (by assumption) | exact Facts.g_balance_after (by assumption) | exact Facts.g_check_balance (by assumption) | exact Facts.g_sums_of_sets (by assumption) | exact Facts.g_number_of_groups (by assumption) | exact Facts.g_parted (by assumption) | exact Facts.g_payments_within (by assumption) | exact Facts.g_payments (by assumption) | exact Facts.g_fewest_payments (by assumption) | exact Facts.g_check_amount (by assumption) | exact Facts.g_check_seats (by assumption) | exact Facts.g_check_seat_count (by assumption) | exact Facts.g_check_mark (by assumption) | exact Facts.g_no_shares (by assumption) | exact Facts.g__law_random (by assumption) | exact Facts.g__law_below (by assumption) | exact Facts.g__law_shuffled (by assumption) | exact Facts.g__law_balance (by assumption) | exact Facts.g__law_shares (by assumption) | exact Facts.g__law_equal (by assumption) | exact Facts.g__law_error_of (by assumption) | exact Facts.g__law_all_raise (by assumption) | exact Facts.g_law (by assumption) | exact Facts.g_Shares (by assumption) | exact Facts.g_Bill (by assumption) | exact Facts.g_Page (by assumption) | exact Facts.g_Ledger (by assumption) | exact Facts.eg_InvalidBill (by assumption) | exact Facts.eg_InvalidEvening (by assumption) | exact Facts.eg_InvalidOperation (by assumption) | exact Facts.eg_InvalidMark (by assumption) | exact Facts.eg_UnknownSeat (by assumption) | exact Facts.eg_InvalidNumber (by assumption) | exact Facts.eg_NotBalanced (by assumption) | exact Facts.eg_EmptyGroup (by assumption) | exact Facts.eg_InvalidText (by assumption) | exact Facts.eg_InvalidReceipt (by assumption) | exact Facts.eg_DecodeError (by assumption))
local macro_rules | `(tactic| walk_at "kp") => `(tactic| first | assumption | exact (Facts.mk_Shares (by assumption)).kp | exact (Facts.mk_Bill (by assumption)).kp | exact (Facts.mk_Page (by assumption)).kp | exact (Facts.mk_Ledger (by assumption)).kp | exact Fun.kp (Facts.u__wall (by assumption)).choose_spec | exact Fun.kp (Facts.u_is_between (by assumption)).choose_spec | exact Fun.kp (Facts.u_check_seat (by assumption)).choose_spec | exact Fun.kp (Facts.u_seats_of (by assumption)).choose_spec | exact Fun.kp (Facts.u_check_payment (by assumption)).choose_spec | exact Fun.kp (Facts.u_balance_after (by assumption)).choose_spec | exact Fun.kp (Facts.u_check_balance (by assumption)).choose_spec | exact Fun.kp (Facts.u_sums_of_sets (by assumption)).choose_spec | exact Fun.kp (Facts.u_number_of_groups (by assumption)).choose_spec | exact Fun.kp (Facts.u_parted (by assumption)).choose_spec | exact Fun.kp (Facts.u_payments_within (by assumption)).choose_spec | exact Fun.kp (Facts.u_payments (by assumption)).choose_spec | exact Fun.kp (Facts.u_fewest_payments (by assumption)).choose_spec | exact Fun.kp (Facts.u_check_amount (by assumption)).choose_spec | exact Fun.kp (Facts.u_check_seats (by assumption)).choose_spec | exact Fun.kp (Facts.u_check_seat_count (by assumption)).choose_spec | exact Fun.kp (Facts.u_check_mark (by assumption)).choose_spec | exact Fun.kp (Facts.u_no_shares (by assumption)).choose_spec | exact Fun.kp (Facts.u__law_random (by assumption)).choose_spec | exact Fun.kp (Facts.u__law_below (by assumption)).choose_spec | exact Fun.kp (Facts.u__law_shuffled (by assumption)).choose_spec | exact Fun.kp (Facts.u__law_balance (by assumption)).choose_spec | exact Fun.kp (Facts.u__law_shares (by assumption)).choose_spec | exact Fun.kp (Facts.u__law_equal (by assumption)).choose_spec | exact Fun.kp (Facts.u__law_error_of (by assumption)).choose_spec | exact Fun.kp (Facts.u__law_all_raise (by assumption)).choose_spec | exact Fun.kp (Facts.u_law (by assumption)).choose_spec)
section
variable {P : Program} {w : World} {K : PySem.W.Frag} {mg : Str → Option Value} {base : Heap} {a : Ad}
def spSeatsOf : Sp := fun vs H Q _ => ∃ (ss : List Nat), vs = [.int (bitSum ss : Nat)] ∧ ss ∈ ascs 8 0 ∧ ∀ p H', H p = none → Same H H' → H' p = some (.lst ((ss.map Int.ofNat).map V.int)) → Q (.ref p) H'
theorem ok_seats_of (T : Facts K mg a) : FnR P w K mg base (L2.CX P w) 1 a.f_seats_of spSeatsOf := by
  obtain ⟨fd, F⟩ := T.u_seats_of
  refine fnr_ok F sc_seats_of (F.binds fun _ _ _ _ _ _ us hl => match us, hl with | [_], _ => rfl) (fun vs H Q E h => ?_) (fun cdv A outer s H vs Q E hr h => ?_)
  · obtain ⟨ss, rfl, _⟩ := h
    rfl
  · obtain ⟨ss, rfl, hs, q⟩ := h
    obtain ⟨hb, h256⟩ := bits_all ss hs
    have hbits : Builtin.Int.intBits (bitSum ss : Nat) ≤ 8 := PyProof.Rows.intBits_le (by show (bitSum ss) < 2 ^ 8; omega)
    refine ⟨_, (pss_one (ps_ret (pe_lc (own := [("seat", 1)]) (g := gName 1) (tt := _) rfl sc_seats_of.nd (pi_range1 (by rfl) T.z_range (pa_cons (pe_bits (pv 0)) pa_nil)) (blkOk_by (own := [("seat", 1)]) (N := N_seats_of) (sc := defScope s_seats_of) (by decide +kernel)) (fun _ _ _ _ _ => (pg_name (i := 1) sc_seats_of.nd rfl (by first | exact Or.inl rfl | exact Or.inr rfl))) (fun _ _ _ _ _ => pts_one (pt_cmpA ⟨rfl, rfl, rfl, rfl, rfl, rfl, rfl⟩ passL (pe_opA ⟨rfl, rfl, rfl, rfl, rfl, rfl, rfl⟩ passL (pv 0) (pe_opA ⟨rfl, rfl, rfl, rfl, rfl, rfl, rfl⟩ passL (pe_int) (pv 1))) (pe_int) (nomark _))) (fun _ _ _ _ _ => (pv 1))))), ?_⟩
    walk_at "go"
    refine c_rng (n := Builtin.Int.intBits (bitSum ss : Nat)) (fun k => ((List.range k).filter fun s => Builtin.bitAnd (bitSum ss : Nat) (2 ^ s) != 0).map fun s => V.int (s : Nat)) rfl (by omega) (fun k hk => ?_) (fun _ => rfl) (fun k H' hk s1 => ?_) (fun r H' hr0 s1 hL => ?_) (fun R k => ?_)
    · rw [List.length_map]
      have := List.length_filter_le (fun s => Builtin.bitAnd (bitSum ss : Nat) (2 ^ s) != 0) (List.range k)
      rw [List.length_range] at this
      omega
    · have eo : (((List.range (k + 1)).filter fun s => Builtin.bitAnd (bitSum ss : Nat) (2 ^ s) != 0).map fun s => V.int (s : Nat)) =
          if (!decide (Builtin.bitAnd (bitSum ss : Nat) (2 ^ k) = 0)) = true then (((List.range k).filter fun s => Builtin.bitAnd (bitSum ss : Nat) (2 ^ s) != 0).map fun s => V.int (s : Nat)) ++ [V.int (k : Nat)] else (((List.range k).filter fun s => Builtin.bitAnd (bitSum ss : Nat) (2 ^ s) != 0).map fun s => V.int (s : Nat)) := by
        rw [List.range_succ, List.filter_append, List.map_append]
        by_cases z : Builtin.bitAnd (bitSum ss : Nat) (2 ^ k) = 0
        · rw [decide_eq_true z, if_neg (by decide)]
          simp [List.filter_cons, z]
        · rw [decide_eq_false z, if_pos (by decide)]
          simp [List.filter_cons, z]
      show Turn1 _ _ _ _ (((List.range k).filter fun s => Builtin.bitAnd (bitSum ss : Nat) (2 ^ s) != 0).map fun s => V.int (s : Nat)) (((List.range (k + 1)).filter fun s => Builtin.bitAnd (bitSum ss : Nat) (2 ^ s) != 0).map fun s => V.int (s : Nat))
      rw [eo]
      refine turn1_filter (fun R hR => ?_) (fun _ H3 _ R hR => ?_)
      · walk_at "go"
        refine s_oneShl (by omega) ?_
        refine s_band ?_
        walk_at "go"
        exact hR _ (Same.refl _)
      · walk_at "go"
        exact hR _ (Same.refl _)
    · refine q r H' hr0 s1 ?_
      rw [hL, List.map_map]
      congr 2
      have : bitSeats (bitSum ss) = ss := hb
      unfold bitSeats at this
      rw [this]
      rfl
    · walk_at "go"
      refine w_bits ?_
      walk_at "go"
      exact ⟨_, rfl, k⟩
end

/-! ### parting seats: the program -/
section
variable {P : Program} {w : World} {K : PySem.W.Frag} {mg : Str → Option Value} {base : Heap} {a : Ad}
abbrev Prt := List (List Nat) × List Nat
abbrev natV : Nat → V := fun s => .int (s : Nat)
def pAt (ps : List Prt) (m : Nat) : Prt := ps.getD m ([], [])
def chsV (ps : List Prt) (m : Nat) : List Prt := (bitSeats m).map fun s => ((pAt ps (m - 2 ^ s)).1, (pAt ps (m - 2 ^ s)).2 ++ [s])
def keyG (cs : List Prt) (i : Nat) : Int := ((pAt cs i).1.length : Nat)
def bestI (cs : List Prt) : Nat := argBest (fun i j => decide (keyG cs i > keyG cs j)) (cs.length - 1)
def pickV (cs : List Prt) : Prt := pAt cs (bestI cs)
def stepV (sums : List Int) (ps : List Prt) (m : Nat) : Prt := if sums.getD m 0 = 0 then ((pickV (chsV ps m)).1 ++ [(pickV (chsV ps m)).2], []) else pickV (chsV ps m)
def partsV (sums : List Int) : Nat → List Prt
  | 0 => [([], [])]
  | k + 1 => partsV sums k ++ [stepV sums (partsV sums k) (k + 1)]
theorem partsV_len (sums : List Int) : ∀ k, (partsV sums k).length = k + 1
  | 0 => rfl
  | k + 1 => by
    show (partsV sums k ++ [_]).length = _
    rw [List.length_append, partsV_len sums k]
    rfl
theorem pAt_mem {ps : List Prt} {m : Nat} : pAt ps m = ([], []) ∨ pAt ps m ∈ ps := by
  unfold pAt
  rw [List.getD_eq_getElem?_getD]
  cases e : ps[m]? with
  | none => exact .inl rfl
  | some p => exact .inr (List.mem_of_getElem? e)
theorem pick_in {ps : List Prt} {m : Nat} (h : bitSeats m ≠ []) : ∃ s ∈ bitSeats m, pickV (chsV ps m) = ((pAt ps (m - 2 ^ s)).1, (pAt ps (m - 2 ^ s)).2 ++ [s]) := by
  have hl : (chsV ps m).length = (bitSeats m).length := by unfold chsV; rw [List.length_map]
  have hp : 0 < (bitSeats m).length := List.length_pos_iff.2 h
  have hb : bestI (chsV ps m) < (chsV ps m).length := by
    have := argBest_le (fun i j => decide (keyG (chsV ps m) i > keyG (chsV ps m) j)) ((chsV ps m).length - 1)
    unfold bestI
    omega
  have hm : pickV (chsV ps m) ∈ chsV ps m := by
    unfold pickV
    rcases pAt_mem (ps := chsV ps m) (m := bestI (chsV ps m)) with e | e
    · unfold pAt at e ⊢
      rw [List.getD_eq_getElem?_getD, List.getElem?_eq_getElem hb]
      exact List.getElem_mem hb
    · exact e
  generalize pickV (chsV ps m) = c at hm
  unfold chsV at hm
  obtain ⟨s, hs, rfl⟩ := List.mem_map.1 hm
  exact ⟨s, hs, rfl⟩
theorem parts_small (sums : List Int) : ∀ k, k < 256 → ∀ p ∈ partsV sums k, p.1.length ≤ k ∧ p.2.length ≤ k
  | 0, _, p, h => by
    rw [List.mem_singleton.1 h]
    exact ⟨Nat.le_refl _, Nat.le_refl _⟩
  | k + 1, hk, p, h => by
    have ih := parts_small sums k (by omega)
    rcases List.mem_append.1 h with z | z
    · have := ih p z
      omega
    · rw [List.mem_singleton.1 z]
      obtain ⟨s, _, e⟩ := pick_in (ps := partsV sums k) (bits_ne (k + 1) (by omega) (by omega))
      have hb : (pAt (partsV sums k) (k + 1 - 2 ^ s)).1.length ≤ k ∧ (pAt (partsV sums k) (k + 1 - 2 ^ s)).2.length ≤ k := by
        rcases pAt_mem (ps := partsV sums k) (m := k + 1 - 2 ^ s) with e2 | e2
        · rw [e2]; exact ⟨Nat.zero_le _, Nat.zero_le _⟩
        · exact ih _ e2
      unfold stepV
      rw [e]
      split
      · refine ⟨?_, Nat.zero_le _⟩
        simp only [List.length_append, List.length_singleton]
        omega
      · refine ⟨?_, ?_⟩
        · show (pAt (partsV sums k) (k + 1 - 2 ^ s)).1.length ≤ _
          omega
        · simp only [List.length_append, List.length_singleton]
          omega
/-- the groups of all seats -/
def partedV (ds : List Int) : List (List Nat) := (pAt (partsV (sumsV ds) (2 ^ ds.length - 1)) (2 ^ ds.length - 1)).1
/-! #### where they stand -/
def IntsAt (N : Addr → Prop) (H : Hp) (o : Addr) (xs : List Nat) : Prop := N o ∧ H o = some (.lst (xs.map natV))
def GrpsAt (N : Addr → Prop) (H : Hp) (l : Addr) (gs : List (List Nat)) : Prop := ∃ as : List Addr, N l ∧ H l = some (.lst (as.map V.ref)) ∧ as.length = gs.length ∧ ∀ (i : Nat) b g, as[i]? = some b → gs[i]? = some g → IntsAt N H b g
def PrtAt (N : Addr → Prop) (H : Hp) (t : Addr) (p : Prt) : Prop := ∃ l o, N t ∧ H t = some (.tup [.ref l, .ref o]) ∧ GrpsAt N H l p.1 ∧ IntsAt N H o p.2
def PrtsAt (N : Addr → Prop) (H : Hp) (ts : List Addr) (ps : List Prt) : Prop := ts.length = ps.length ∧ ∀ (i : Nat) t p, ts[i]? = some t → ps[i]? = some p → PrtAt N H t p
section
variable {N N' : Addr → Prop} {H H' : Hp}
theorem IntsAt.keep {o : Addr} {xs : List Nat} (h : IntsAt N H o xs) (k : ∀ b v, N b → H b = some v → N' b ∧ H' b = some v) : IntsAt N' H' o xs := k _ _ h.1 h.2
theorem GrpsAt.keep {l : Addr} {gs : List (List Nat)} (h : GrpsAt N H l gs) (k : ∀ b v, N b → H b = some v → N' b ∧ H' b = some v) : GrpsAt N' H' l gs := by
  obtain ⟨as, h1, h2, h3, h4⟩ := h
  exact ⟨as, (k _ _ h1 h2).1, (k _ _ h1 h2).2, h3, fun i b g e1 e2 => (h4 i b g e1 e2).keep k⟩
theorem PrtAt.keep {t : Addr} {p : Prt} (h : PrtAt N H t p) (k : ∀ b v, N b → H b = some v → N' b ∧ H' b = some v) : PrtAt N' H' t p := by
  obtain ⟨l, o, h1, h2, h3, h4⟩ := h
  exact ⟨l, o, (k _ _ h1 h2).1, (k _ _ h1 h2).2, h3.keep k, h4.keep k⟩
theorem PrtsAt.keep {ts : List Addr} {ps : List Prt} (h : PrtsAt N H ts ps) (k : ∀ b v, N b → H b = some v → N' b ∧ H' b = some v) : PrtsAt N' H' ts ps := ⟨h.1, fun i t p e1 e2 => (h.2 i t p e1 e2).keep k⟩
theorem PrtsAt.snoc {ts : List Addr} {ps : List Prt} {t : Addr} {p : Prt} (h : PrtsAt N H ts ps) (k : PrtAt N H t p) : PrtsAt N H (ts ++ [t]) (ps ++ [p]) := by
  refine ⟨by rw [List.length_append, List.length_append, h.1]; rfl, fun i u x e1 e2 => ?_⟩
  rcases Nat.lt_or_ge i ts.length with z | z
  · rw [List.getElem?_append_left z] at e1
    rw [List.getElem?_append_left (by rw [← h.1]; exact z)] at e2
    exact h.2 i u x e1 e2
  · rw [List.getElem?_append_right z] at e1
    rw [List.getElem?_append_right (by rw [← h.1]; exact z), ← h.1] at e2
    cases hj : i - ts.length with
    | zero => rw [hj] at e1 e2; cases e1; cases e2; exact k
    | succ j => rw [hj] at e1; simp at e1
theorem PrtsAt.get {ts : List Addr} {ps : List Prt} (h : PrtsAt N H ts ps) {m : Nat} (hm : m < ps.length) : ∃ t, ts[m]? = some t ∧ PrtAt N H t (pAt ps m) := by
  obtain ⟨t, et⟩ : ∃ t, ts[m]? = some t := ⟨_, List.getElem?_eq_getElem (by rw [h.1]; exact hm)⟩
  refine ⟨t, et, h.2 m t _ et ?_⟩
  unfold pAt
  rw [List.getD_eq_getElem?_getD, List.getElem?_eq_getElem hm]
  rfl
theorem GrpsAt.snoc {as : List Addr} {l b : Addr} {gs : List (List Nat)} {g : List Nat} (hN : N l) (h : H l = some (.lst ((as ++ [b]).map V.ref))) (hl : as.length = gs.length) (k : ∀ (i : Nat) b g, as[i]? = some b → gs[i]? = some g → IntsAt N H b g) (kb : IntsAt N H b g) : GrpsAt N H l (gs ++ [g]) := by
  refine ⟨as ++ [b], hN, h, by rw [List.length_append, List.length_append, hl]; rfl, fun i u x e1 e2 => ?_⟩
  rcases Nat.lt_or_ge i as.length with z | z
  · rw [List.getElem?_append_left z] at e1
    rw [List.getElem?_append_left (by rw [← hl]; exact z)] at e2
    exact k i u x e1 e2
  · rw [List.getElem?_append_right z] at e1
    rw [List.getElem?_append_right (by rw [← hl]; exact z), ← hl] at e2
    cases hj : i - as.length with
    | zero => rw [hj] at e1 e2; cases e1; cases e2; exact kb
    | succ j => rw [hj] at e1; simp at e1
end
theorem w_forQ2 {K : PySem.W.Frag} {tl : TE} {g : TG} {tb : TS} {D : Ends} {σ : L2.St} {H : Hp} (h : tl σ H fun x H1 => tFor (iSeq K fun _ H R => R x H) g tb D σ H1) : tFor (iSeq K tl) g tb D σ H := h
def spNum : Sp := fun vs H Q _ => ∃ (N : Addr → Prop) (t : Addr) (p : Prt), vs = [.ref t] ∧ PrtAt N H t p ∧ Q (.int (p.1.length : Nat)) H
theorem ok_number_of_groups (T : Facts K mg a) : FnR P w K mg base (L2.CX P w) 1 a.f_number_of_groups spNum := by
  obtain ⟨fd, F⟩ := T.u_number_of_groups
  refine fnr_ok F sc_number_of_groups (F.binds fun _ _ _ _ _ _ us hl => match us, hl with | [_], _ => rfl) (fun vs H Q E h => ?_) (fun cdv A outer s H vs Q E hr h => ?_)
  · obtain ⟨N, t, p, rfl, _⟩ := h
    rfl
  · obtain ⟨N, t, p, rfl, ⟨l, o, _, h1, ⟨as, _, h2, h3, _⟩, _⟩, q⟩ := h
    refine ⟨_, (pss_one (ps_ret (pe_biA (id := "len") Like.refl pas_main (by rfl) (by decide +kernel) (pa_cons (pe_ixA Like.refl pas_main (pv 0) (pe_int)) pa_nil)))), ?_⟩
    walk_at "go"
    refine s_ixT (SqT.of h1) (v := .ref l) rfl ?_
    walk_at "go"
    refine s_lenL (SqL.of h2) ?_
    rw [List.length_map, h3]
    exact q
end

end Odd

namespace Odd
open PySem PySem.Spec PyProof.Rows L2
/-! tactics of this text: st one step, go as many as go -/
local macro_rules | `(tactic| walk_at "ar") => `(tactic| first | assumption | omega | (show (_ : Int) < _; omega) | decide)
local macro_rules | `(tactic| walk_at "st") => `(tactic| first
  | with_reducible refine' w_seq ?_
  | with_reducible refine' w_asg ?_
  | with_reducible refine' w_name ?_
  | with_reducible refine' w_c ?_
  | with_reducible refine' w_op ?_
  | with_reducible refine' w_ix ?_
  | with_reducible refine' w_at ?_
  | with_reducible refine' w_cons ?_
  | with_reducible refine' w_nil ?_
  | with_reducible refine' w_ret ?_
  | with_reducible refine' w_if ?_
  | with_reducible refine' w_test ?_
  | with_reducible refine' w_tr ?_
  | with_reducible refine' w_un ?_
  | with_reducible refine' w_andV ?_
  | with_reducible refine' w_orV ?_
  | with_reducible refine' w_notA ?_
  | with_reducible refine' w_ch ?_
  | with_reducible refine' w_and ?_
  | with_reducible refine' w_or ?_
  | with_reducible refine' w_not ?_
  | with_reducible refine' w_ifx ?_
  | with_reducible refine' w_tup ?_
  | with_reducible refine' w_lst ?_
  | with_reducible refine' w_next ?_
  | with_reducible refine' w_drop ?_
  | with_reducible refine' w_retN ?_
  | ((with_reducible refine' w_var ?h ?_); (case h => exact rfl))
  | ((with_reducible refine' w_bi ?h ?_); (case h => walk_at "mg"))
  | ((with_reducible refine' w_bv ?h ?_); (case h => walk_at "mg"))
  | ((with_reducible refine' w_gv ?h ?_); (case h => walk_at "mg"))
  | ((with_reducible refine' w_gl ?h ?k ?_); (case h => walk_at "mg"); (case k => walk_at "kp"))
  | ((with_reducible refine' w_glS ?h ?k ?_); (case h => walk_at "mg"); (case k => walk_at "kp"))
  | with_reducible refine' bl_ex ?_
  | with_reducible refine' iteT ?_
  | with_reducible refine' iteF ?_
  | with_reducible refine' ite_nf ?_
  | with_reducible refine' ite_nt ?_
  | with_reducible refine' s_add ?_
  | with_reducible refine' s_sub ?_
  | with_reducible refine' s_lt ?_
  | with_reducible refine' s_le ?_
  | with_reducible refine' s_gt ?_
  | with_reducible refine' s_ge ?_
  | with_reducible refine' s_eqI ?_
  | with_reducible refine' s_neI ?_
  | with_reducible refine' s_eqB ?_
  | with_reducible refine' s_neB ?_
  | with_reducible refine' s_truB ?_
  | with_reducible refine' s_truI ?_
  | with_reducible refine' s_neg ?_
  | ((with_reducible refine' s_mod ?h ?_); (case h => walk_at "ar")))
local macro_rules | `(tactic| walk_at "go") => `(tactic| repeat walk_at "st")

local macro_rules | `(tactic| walk_at "mg") => `(tactic| first | assumption | exact Facts.z_TypeError (by assumption) | exact Facts.z_ValueError (by assumption) | exact Facts.z_abs (by assumption) | exact Facts.z_all (by assumption) | exact Facts.z_bool (by assumption) | exact Facts.z_classmethod (by assumption) | exact Facts.z_enumerate (by assumption) | exact Facts.z_int (by assumption) | exact Facts.z_isinstance (by assumption) | exact Facts.z_len (by assumption) | exact Facts.z_list (by assumption) | exact Facts.z_max (by assumption) | exact Facts.z_min (by assumption) | exact Facts.z_property (by assumption) | exact Facts.z_range (by assumption) | exact Facts.z_sorted (by assumption) | exact Facts.z_str (by assumption) | exact Facts.z_sum (by assumption) | exact Facts.z_super (by assumption) | exact Facts.z_tuple (by assumption) | exact Facts.z_zip (by assumption) | exact Facts.g__wall (by assumption) | exact Facts.g_is_between (by assumption) | exact Facts.g_check_seat (by assumption) | exact Facts.g_seats_of (by assumption) | exact Facts.g_check_payment (by assumption) | exact Facts.g_balance_after (by assumption) | exact Facts.g_check_balance (by assumption) | exact Facts.g_sums_of_sets (by assumption) | exact Facts.g_number_of_groups (by assumption) | exact Facts.g_parted (by assumption) | exact Facts.g_payments_within (by assumption) | exact Facts.g_payments (by assumption) | exact Facts.g_fewest_payments (by assumption) | exact Facts.g_check_amount (by assumption) | exact Facts.g_check_seats (by assumption) | exact Facts.g_check_seat_count (by assumption) | exact Facts.g_check_mark (by assumption) | exact Facts.g_no_shares (by assumption) | exact Facts.g__law_random (by assumption) | exact Facts.g__law_below (by assumption) | exact Facts.g__law_shuffled (by assumption) | exact Facts.g__law_balance (by assumption) | exact Facts.g__law_shares (by assumption) | exact Facts.g__law_equal (by assumption) | exact Facts.g__law_error_of (by assumption) | exact Facts.g__law_all_raise (by assumption) | exact Facts.g_law (by assumption) | exact Facts.g_Shares (by assumption) | exact Facts.g_Bill (by assumption) | exact Facts.g_Page (by assumption) | exact Facts.g_Ledger (by assumption) | exact Facts.eg_InvalidBill (by assumption) | exact Facts.eg_InvalidEvening (by assumption) | exact Facts.eg_InvalidOperation (by assumption) | exact Facts.eg_InvalidMark (by assumption) | exact Facts.eg_UnknownSeat (by assumption) | exact Facts.eg_InvalidNumber (by assumption) | exact Facts.eg_NotBalanced (by assumption) | exact Facts.eg_EmptyGroup (by assumption) | exact Facts.eg_InvalidText (by assumption) | exact Facts.eg_InvalidReceipt (by assumption) | exact Facts.eg_DecodeError (by assumption))
local macro_rules | `(tactic| walk_at "kp") => `(tactic| first | assumption | exact (Facts.mk_Shares (by assumption)).kp | exact (Facts.mk_Bill (by assumption)).kp | exact (Facts.mk_Page (by assumption)).kp | exact (Facts.mk_Ledger (by assumption)).kp | exact Fun.kp (Facts.u__wall (by assumption)).choose_spec | exact Fun.kp (Facts.u_is_between (by assumption)).choose_spec | exact Fun.kp (Facts.u_check_seat (by assumption)).choose_spec | exact Fun.kp (Facts.u_seats_of (by assumption)).choose_spec | exact Fun.kp (Facts.u_check_payment (by assumption)).choose_spec | exact Fun.kp (Facts.u_balance_after (by assumption)).choose_spec | exact Fun.kp (Facts.u_check_balance (by assumption)).choose_spec | exact Fun.kp (Facts.u_sums_of_sets (by assumption)).choose_spec | exact Fun.kp (Facts.u_number_of_groups (by assumption)).choose_spec | exact Fun.kp (Facts.u_parted (by assumption)).choose_spec | exact Fun.kp (Facts.u_payments_within (by assumption)).choose_spec | exact Fun.kp (Facts.u_payments (by assumption)).choose_spec | exact Fun.kp (Facts.u_fewest_payments (by assumption)).choose_spec | exact Fun.kp (Facts.u_check_amount (by assumption)).choose_spec | exact Fun.kp (Facts.u_check_seats (by assumption)).choose_spec | exact Fun.kp (Facts.u_check_seat_count (by assumption)).choose_spec | exact Fun.kp (Facts.u_check_mark (by assumption)).choose_spec | exact Fun.kp (Facts.u_no_shares (by assumption)).choose_spec | exact Fun.kp (Facts.u__law_random (by assumption)).choose_spec | exact Fun.kp (Facts.u__law_below (by assumption)).choose_spec | exact Fun.kp (Facts.u__law_shuffled (by assumption)).choose_spec | exact Fun.kp (Facts.u__law_balance (by assumption)).choose_spec | exact Fun.kp (Facts.u__law_shares (by assumption)).choose_spec | exact Fun.kp (Facts.u__law_equal (by assumption)).choose_spec | exact Fun.kp (Facts.u__law_error_of (by assumption)).choose_spec | exact Fun.kp (Facts.u__law_all_raise (by assumption)).choose_spec | exact Fun.kp (Facts.u_law (by assumption)).choose_spec)
section
variable {P : Program} {w : World} {K : PySem.W.Frag} {mg : Str → Option Value} {base : Heap} {a : Ad}
def spParted (K : PySem.W.Frag) : Sp := fun vs H Q _ => ∃ (t : Addr) (ds : List Int), vs = [.ref t] ∧ SqT K H t (ds.map V.int) ∧ ds.length ≤ 8 ∧ ∀ l H', Same H H' → GrpsAt (fun b => H b = none) H' l (partedV ds) → Q (.ref l) H'
theorem ok_parted (T : Facts K mg a) : FnR P w K mg base (L2.CX P w) 3 a.f_parted (spParted K) := by
  obtain ⟨fd, F⟩ := T.u_parted
  have GS : FnR P w K mg base (L2.CX P w) 1 a.f_sums_of_sets (spSums K) := ok_sums T
  have GB : FnR P w K mg base (L2.CX P w) 1 a.f_seats_of spSeatsOf := ok_seats_of T
  have GN : FnR P w K mg base (L2.CX P w) 1 a.f_number_of_groups spNum := ok_number_of_groups T
  refine fnr_ok F sc_parted (F.binds fun _ _ _ _ _ _ us hl => match us, hl with | [_], _ => rfl) (fun vs H Q E h => ?_) (fun cdv A outer s H vs Q E hr h => ?_)
  · obtain ⟨t, ds, rfl, _⟩ := h
    rfl
  · obtain ⟨t, ds, rfl, ht, hn8, q⟩ := h
    have hsl := sumsV_len ds.length ds rfl
    have h256 : 2 ^ ds.length ≤ 256 := Nat.le_trans (Nat.pow_le_pow_right (by decide) hn8) (by decide)
    have h1p : 1 ≤ 2 ^ ds.length := Nat.one_le_two_pow
    unfold partedV at q
    generalize hsv : sumsV ds = sums at *
    generalize htop : 2 ^ ds.length - 1 = top at *
    refine ⟨_, (pss_cons (ps_set (i := 1) sc_parted.nd rfl (Or.inl rfl) (pe_glA Like.refl pas_main (by rfl) (pa_cons (pv 0) pa_nil)))
    (pss_cons (ps_set (i := 2) sc_parted.nd rfl (Or.inl rfl) (pe_lst (pa_cons (pe_tup (pa_cons (pe_lst pa_nil) (pa_cons (pe_lst pa_nil) pa_nil))) pa_nil)))
    (pss_cons (ps_for own_main rfl (pi_range2 (by rfl) T.z_range (pa_cons (pe_int) (pa_cons (pe_biA (id := "len") Like.refl pas_main (by rfl) (by decide +kernel) (pa_cons (pv 1) pa_nil)) pa_nil))) (pg_name (i := 3) sc_parted.nd rfl (Or.inl rfl)) (pss_cons (ps_set (i := 4) sc_parted.nd rfl (Or.inl rfl) (pe_lst pa_nil))
    (pss_cons (ps_for own_main rfl (pi_seqA Like.refl (pe_glA Like.refl pas_main (by rfl) (pa_cons (pv 3) pa_nil))) (pg_name (i := 5) sc_parted.nd rfl (Or.inl rfl)) (pss_cons (ps_asg (pe_ixA Like.refl pas_main (pv 2) (pe_opA Like.refl pas_main (pv 3) (pe_opA Like.refl pas_main (pe_int) (pv 5)))) (pg_tup rfl (pgs_cons (pg_name (i := 6) sc_parted.nd rfl (Or.inl rfl)) (pgs_cons (pg_name (i := 7) sc_parted.nd rfl (Or.inl rfl)) pgs_nil))))
    (pss_one (ps_expr (pe_bm PySem.F.plainAttrs_list PySem.F.slot_list_append PySem.F.type_list_append mt_append (pv 4) (pa_cons (pe_tup (pa_cons (pv 6) (pa_cons (pe_opA Like.refl pas_main (pv 7) (pe_lst (pa_cons (pv 5) pa_nil))) pa_nil))) pa_nil))))))
    (pss_cons (ps_asg (pe_kwA (ks := [Str.ofString "key"]) (id := "max") Like.refl pas_main (by rfl) (by decide +kernel) (pa_cons (pv 4) pa_nil) (pk_cons (pe_gvA Like.refl (by rfl)) pk_nil)) (pg_tup rfl (pgs_cons (pg_name (i := 6) sc_parted.nd rfl (Or.inl rfl)) (pgs_cons (pg_name (i := 7) sc_parted.nd rfl (Or.inl rfl)) pgs_nil))))
    (pss_one (ps_expr (pe_bm PySem.F.plainAttrs_list PySem.F.slot_list_append PySem.F.type_list_append mt_append (pv 2) (pa_cons (pe_ifExp (pt_cmpA Like.refl pas_main (pe_ixA Like.refl pas_main (pv 1) (pv 3)) (pe_int) (nomark _)) (pe_tup (pa_cons (pe_opA Like.refl pas_main (pv 6) (pe_lst (pa_cons (pv 7) pa_nil))) (pa_cons (pe_lst pa_nil) pa_nil))) (pe_tup (pa_cons (pv 6) (pa_cons (pv 7) pa_nil)))) pa_nil))))))))
    (pss_cons (ps_asg (pe_ixA Like.refl pas_main (pv 2) (pe_unA Like.refl pas_main (pe_int))) (pg_tup rfl (pgs_cons (pg_name (i := 6) sc_parted.nd rfl (Or.inl rfl)) (pgs_cons (pg_name (i := 8) sc_parted.nd rfl (Or.inl rfl)) pgs_nil))))
    (pss_one (ps_ret (pv 6))))))), ?_⟩
    walk_at "go"
    refine s_fn GS (hr.mono (by decide)) ⟨t, ds, rfl, ht, hn8, fun sm H1 hsm s1 hS => ?_⟩
    rw [hsv] at hS
    walk_at "go"
    refine ⟨by show 0 ≤ sizeLine; decide, fun g0 hg0 => ?_⟩
    have s2 := same_new (o := .lst []) hg0
    walk_at "go"
    refine ⟨by show 0 ≤ sizeLine; decide, fun o0 ho0 => ?_⟩
    have s3 := same_new (o := .lst []) ho0
    walk_at "go"
    refine ⟨by show 2 ≤ sizeLine; decide, fun t0 ht0 => ?_⟩
    have s4 := same_new (o := .tup [.ref g0, .ref o0]) ht0
    walk_at "go"
    refine ⟨by show 1 ≤ sizeLine; decide, fun pl hpl => ?_⟩
    have s5 := same_new (o := .lst [.ref t0]) hpl
    have s14 := (s2.trans s3).trans s4
    have hpl1 : H1 pl = none := s14.free hpl
    have e0 : PrtAt (fun b => b ≠ pl ∧ H b = none) (upd (upd (upd (upd H1 g0 (.lst [])) o0 (.lst [])) t0 (.tup [.ref g0, .ref o0])) pl (.lst [.ref t0])) t0 ([], []) := by
      refine ⟨g0, o0, ⟨ne_of_none upd_same hpl, s1.free ((s2.trans s3).free ht0)⟩, s5 _ _ upd_same, ⟨[], ⟨ne_of_none (s4 _ _ (s3 _ _ upd_same)) hpl, s1.free hg0⟩, s5 _ _ (s4 _ _ (s3 _ _ upd_same)), rfl, fun i b g z => by simp at z⟩, ⟨ne_of_none (s4 _ _ upd_same) hpl, s1.free (s2.free ho0)⟩, s5 _ _ (s4 _ _ upd_same)⟩
    have hP0 : (upd (upd (upd (upd H1 g0 (.lst [])) o0 (.lst [])) t0 (.tup [.ref g0, .ref o0])) pl (.lst [.ref t0])) pl = some (.lst ([t0].map V.ref)) := upd_same
    have s15 := s14.trans s5
    generalize upd (upd (upd (upd H1 g0 (.lst [])) o0 (.lst [])) t0 (.tup [.ref g0, .ref o0])) pl (.lst [.ref t0]) = H5 at *
    walk_at "go"
    refine f_rng2 (a := 1) (n := top) (fun k σ H' => Same H1 H' ∧ ∃ ts x3 x4 x5 x6 x7 x8, σ = [some (.ref t), some (.ref sm), some (.ref pl), x3, x4, x5, x6, x7, x8] ∧ H' pl = some (.lst (ts.map V.ref)) ∧ PrtsAt (fun b => b ≠ pl ∧ H b = none) H' ts (partsV sums k))
      (fun R k => ?_) (by omega) ⟨s15, [t0], none, none, none, none, none, none, rfl, hP0, rfl, fun i u p e1 e2 => ?_⟩ (fun k σ H6 hk pv => ?_) (fun σ H6 pv => ?_)
    · walk_at "go"
      refine s_lenL (SqL.of (s15 _ _ hS)) ?_
      rw [List.length_map, hsl]
      walk_at "go"
      rw [show ((2 ^ ds.length : Nat) : Int) = ((1 + top : Nat) : Int) by omega]
      exact k
    · cases i with
      | zero => cases e1; cases e2; exact e0
      | succ i => simp at e1
    · obtain ⟨s6, ts, x3, x4, x5, x6, x7, x8, rfl, hP, hts⟩ := pv
      have hpl' := partsV_len sums k
      have em : ((1 + k : Nat) : Int) = ((k + 1 : Nat) : Int) := by omega
      rw [em]
      generalize hps : partsV sums k = ps at *
      refine w_name ?_
      dsimp only [List.set]
      walk_at "go"
      refine ⟨by show 0 ≤ sizeLine; decide, fun cl hcl => ?_⟩
      have s7 := same_new (o := .lst []) hcl
      have hclpl : cl ≠ pl := fun z => by rw [z, hP] at hcl; cases hcl
      walk_at "go"
      obtain ⟨hba, hbs⟩ := bits_at (k + 1) (by omega)
      have hbl := bits_less (k + 1) (by omega)
      have hbn := bits_ne (k + 1) (by omega) (by omega)
      refine w_forQ2 ?_
      walk_at "go"
      refine s_fn GB (hr.mono (by decide)) ⟨bitSeats (k + 1), by rw [hbs], hba, fun so H8 hso s8 hso8 => ?_⟩
      have hsoc : so ≠ cl := fun z => by rw [z, upd_same] at hso; cases hso
      have s68 := s7.trans s8
      have hC8 : H8 cl = some (.lst (([] : List Addr).map V.ref)) := s8 _ _ upd_same
      have hP8 : H8 pl = some (.lst (ts.map V.ref)) := s68 _ _ hP
      have hts8 : PrtsAt (fun b => (b ≠ pl ∧ H b = none) ∧ b ≠ cl) H8 ts ps := hts.keep fun b v nb hb => ⟨⟨nb, fun z => by rw [z, hcl] at hb; cases hb⟩, s68 _ _ hb⟩
      refine f_lst (a := so) (xs := ((bitSeats (k + 1)).map Int.ofNat).map V.int) (fun j σ H' => Same H6 H' ∧ H' so = some (.lst (((bitSeats (k + 1)).map Int.ofNat).map V.int)) ∧ H' pl = some (.lst (ts.map V.ref)) ∧ PrtsAt (fun b => (b ≠ pl ∧ H b = none) ∧ b ≠ cl) H' ts ps ∧
          ∃ us x5 x6 x7, σ = [some (.ref t), some (.ref sm), some (.ref pl), some (.int (k + 1 : Nat)), some (.ref cl), x5, x6, x7, x8] ∧ H' cl = some (.lst (us.map V.ref)) ∧ PrtsAt (fun b => (b ≠ pl ∧ H b = none) ∧ b ≠ cl) H' us ((chsV ps (k + 1)).take j))
        (fun R z => z) ⟨s68, hso8, hP8, hts8, [], x5, x6, x7, rfl, hC8, rfl, fun i u p z => by simp at z⟩ (fun j σ H' _ pv => SqL.of pv.2.1) (fun j x σ H9 hx pv => ?_) (fun σ H9 pv => ?_)
      · obtain ⟨s9, hso9, hP9, hts9, us, x5, x6, x7, rfl, hC9, hus⟩ := pv
        rw [List.getElem?_map, List.getElem?_map] at hx
        cases es : (bitSeats (k + 1))[j]? with
        | none => rw [es] at hx; cases hx
        | some sx =>
          rw [es] at hx
          cases hx
          obtain ⟨hs8, hpw, _⟩ := hbl sx (List.mem_of_getElem? es)
          refine w_name ?_
          dsimp only [List.set]
          walk_at "go"
          refine s_oneShl (k := sx) (by omega) ?_
          walk_at "go"
          have hp1 : 1 ≤ 2 ^ sx := Nat.one_le_two_pow
          have ei : ((k + 1 : Nat) : Int) - (2 : Int) ^ sx = ((k + 1 - 2 ^ sx : Nat) : Int) := by
            have e : ((2 ^ sx : Nat) : Int) = (2 : Int) ^ sx := PySem.W.kbt_cast sx
            omega
          obtain ⟨tt, ett, pt⟩ := hts9.get (m := k + 1 - 2 ^ sx) (by rw [hpl']; omega)
          have hsmall : (pAt ps (k + 1 - 2 ^ sx)).2.length ≤ k := by
            rcases pAt_mem (ps := ps) (m := k + 1 - 2 ^ sx) with z | z
            · rw [z]; exact Nat.zero_le _
            · rw [← hps] at z ⊢
              exact (parts_small sums k (by omega) _ z).2
          have hch : (chsV ps (k + 1)).take (j + 1) = (chsV ps (k + 1)).take j ++ [((pAt ps (k + 1 - 2 ^ sx)).1, (pAt ps (k + 1 - 2 ^ sx)).2 ++ [sx])] := by
            rw [List.take_add_one]
            congr 1
            unfold chsV
            rw [List.getElem?_map, es]
            rfl
          have hul : us.length ≤ 8 := by
            have := bits_len (k + 1) (by omega)
            have e : (chsV ps (k + 1)).length = (bitSeats (k + 1)).length := by unfold chsV; rw [List.length_map]
            rw [hus.1, List.length_take]
            omega
          generalize pAt ps (k + 1 - 2 ^ sx) = pp at *
          obtain ⟨gl, ol, n1, h1, hg, ho⟩ := id pt
          refine s_ixL (SqL.of hP9) (v := .ref tt) (at_of (j := k + 1 - 2 ^ sx) ei (by rw [List.getElem?_map, ett]; rfl)) ?_
          refine g_pair (SqT.of h1) ?_
          dsimp only [List.set]
          walk_at "go"
          refine w_bm ?_
          walk_at "go"
          refine ⟨.inl ⟨rfl, _, SqL.of hC9⟩, ?_⟩
          walk_at "go"
          refine ⟨by show 1 ≤ sizeLine; decide, fun e1 he1 => ?_⟩
          have sA := same_new (o := .lst [.int (Int.ofNat sx)]) he1
          refine s_cat (sA _ _ ho.2) upd_same (by rw [List.length_map]; exact Nat.le_trans (show pp.2.length + 1 ≤ 1000 by omega) (by decide)) fun o2 ho2 => ?_
          have sB := sA.trans (same_new (o := .lst (pp.2.map natV ++ [.int (Int.ofNat sx)])) ho2)
          have hO2 : (upd (upd H9 e1 (.lst [.int (Int.ofNat sx)])) o2 (.lst (pp.2.map natV ++ [.int (Int.ofNat sx)]))) o2 = some (.lst ((pp.2 ++ [sx]).map natV)) := by rw [upd_same, List.map_append]; rfl
          have ho29 : H9 o2 = none := sA.free ho2
          generalize upd (upd H9 e1 (.lst [.int (Int.ofNat sx)])) o2 (.lst (pp.2.map natV ++ [.int (Int.ofNat sx)])) = HB at *
          walk_at "go"
          refine ⟨by show 2 ≤ sizeLine; decide, fun t2 ht2 => ?_⟩
          have sC := sB.trans (same_new (o := .tup [.ref gl, .ref o2]) ht2)
          have ht29 : H9 t2 = none := sB.free ht2
          have hT2 : (upd HB t2 (.tup [.ref gl, .ref o2])) t2 = some (.tup [.ref gl, .ref o2]) := upd_same
          have hO3 : (upd HB t2 (.tup [.ref gl, .ref o2])) o2 = some (.lst ((pp.2 ++ [sx]).map natV)) := (same_new ht2) _ _ hO2
          generalize upd HB t2 (.tup [.ref gl, .ref o2]) = HC at *
          walk_at "go"
          refine ⟨cl, _, _, rfl, rfl, sC _ _ hC9, by rw [List.length_map]; exact Nat.lt_of_lt_of_le (show us.length < 100 by omega) (by decide), ?_⟩
          walk_at "go"
          have s09 : Same H H9 := s1.trans (s6.trans s9)
          have kp : ∀ (b : Addr) v, ((b ≠ pl ∧ H b = none) ∧ b ≠ cl) → H9 b = some v → ((b ≠ pl ∧ H b = none) ∧ b ≠ cl) ∧ (upd HC cl (.lst (us.map V.ref ++ [.ref t2]))) b = some v := fun b v nb hb => ⟨nb, by rw [upd_ne nb.2]; exact sC _ _ hb⟩
          have neP : ∀ b, H9 b = none → b ≠ pl := fun b hb z => by rw [z, hP9] at hb; cases hb
          have neC : ∀ b, H9 b = none → b ≠ cl := fun b hb z => by rw [z, hC9] at hb; cases hb
          refine ⟨same_mut (s9.trans sC) hcl, by rw [upd_ne hsoc]; exact sC _ _ hso9, by rw [upd_ne hclpl.symm]; exact sC _ _ hP9, hts9.keep kp, us ++ [t2], _, _, _, rfl, by rw [upd_same, List.map_append]; rfl, ?_⟩
          rw [hch]
          refine (hus.keep kp).snoc ⟨gl, o2, ⟨⟨neP _ ht29, s09.free ht29⟩, neC _ ht29⟩, by rw [upd_ne (neC _ ht29)]; exact hT2, hg.keep kp, ⟨⟨neP _ ho29, s09.free ho29⟩, neC _ ho29⟩, by rw [upd_ne (neC _ ho29)]; exact hO3⟩
      · obtain ⟨s9, hso9, hP9, hts9, us, x5, x6, x7, rfl, hC9, hus⟩ := pv
        walk_at "go"
        have hcl1 : (chsV ps (k + 1)).length = (bitSeats (k + 1)).length := by unfold chsV; rw [List.length_map]
        rw [List.length_map, List.length_map, List.take_of_length_le (by rw [hcl1]; exact Nat.le_refl _)] at hus
        have hul : us.length = (bitSeats (k + 1)).length := by rw [hus.1, hcl1]
        have hb0 : 0 < (bitSeats (k + 1)).length := List.length_pos_iff.2 hbn
        have hsp : stepV sums ps (k + 1) = if sums.getD (k + 1) 0 = 0 then ((pickV (chsV ps (k + 1))).1 ++ [(pickV (chsV ps (k + 1))).2], []) else pickV (chsV ps (k + 1)) := rfl
        have hpk : ∀ (u : Addr) (i : Nat), i = bestI (chsV ps (k + 1)) → us[i]? = some u → ∃ l o, PrtAt (fun b => (b ≠ pl ∧ H b = none) ∧ b ≠ cl) H9 u (pickV (chsV ps (k + 1))) := fun u i ei eu => by
          obtain ⟨hil, _⟩ := List.getElem?_eq_some_iff.1 eu
          obtain ⟨u2, eu2, p2⟩ := hus.get (m := i) (by rw [← hus.1]; exact hil)
          rw [eu] at eu2
          cases eu2
          rw [ei] at p2
          exact ⟨u, u, p2⟩
        refine w_kw T.z_max ?_
        walk_at "go"
        refine s_maxF (keyG (chsV ps (k + 1))) GN (hr.mono (by decide)) rfl (SqL.of hC9) (by rw [List.length_map, hul]; exact hb0) (fun i x HA hx sA => ?_) (fun x HA hx sA => ?_)
        · rw [List.getElem?_map] at hx
          cases eu : us[i]? with
          | none => rw [eu] at hx; cases hx
          | some u =>
            rw [eu] at hx
            cases hx
            obtain ⟨hil, _⟩ := List.getElem?_eq_some_iff.1 eu
            obtain ⟨u2, eu2, p2⟩ := hus.get (m := i) (by rw [← hus.1]; exact hil)
            rw [eu] at eu2
            cases eu2
            exact ⟨_, u, pAt (chsV ps (k + 1)) i, rfl, p2.keep fun b v nb hb => ⟨nb, sA _ _ hb⟩, rfl, Same.refl _⟩
        · rw [List.length_map, List.getElem?_map] at hx
          have ebi : argBest (fun i j => decide (keyG (chsV ps (k + 1)) i > keyG (chsV ps (k + 1)) j)) (us.length - 1) = bestI (chsV ps (k + 1)) := by unfold bestI; rw [hul, hcl1]
          rw [ebi] at hx
          cases eu : us[bestI (chsV ps (k + 1))]? with
          | none => rw [eu] at hx; cases hx
          | some u =>
            rw [eu] at hx
            cases hx
            obtain ⟨_, _, pu⟩ := hpk u _ rfl eu
            have hgl8 : (pickV (chsV ps (k + 1))).1.length ≤ k + 1 := by
              obtain ⟨sx, _, e⟩ := pick_in (ps := ps) hbn
              rw [e]
              rcases pAt_mem (ps := ps) (m := k + 1 - 2 ^ sx) with z | z
              · rw [z]; exact Nat.zero_le _
              · rw [← hps] at z ⊢
                exact Nat.le_succ_of_le (parts_small sums k (by omega) _ z).1
            generalize pickV (chsV ps (k + 1)) = pk at *
            obtain ⟨gl, ol, n1, h1, ⟨as, n2, h2, h3, h4⟩, ho⟩ := pu
            refine g_pair (SqT.of (sA _ _ h1)) ?_
            dsimp only [List.set]
            walk_at "go"
            refine w_bm ?_
            walk_at "go"
            have s9A := s9.trans sA
            have s0A : Same H HA := s1.trans (s6.trans s9A)
            have hPA := sA _ _ hP9
            have neP : ∀ b, HA b = none → b ≠ pl := fun b hb z => by rw [z, hPA] at hb; cases hb
            refine ⟨.inl ⟨rfl, _, SqL.of hPA⟩, ?_⟩
            refine w_ifJ (fun v H' => ∃ t', v = .ref t' ∧ Same HA H' ∧ PrtAt (fun b => b ≠ pl ∧ H b = none) H' t' (stepV sums ps (k + 1))) (fun R hR => ?_) (fun v HB hv => ?_)
            · walk_at "go"
              refine s_ixL (SqL.of (s9A _ _ (s6 _ _ hS))) (v := .int (sums.getD (k + 1) 0)) (at_of (j := k + 1) rfl (mapGet (by rw [hsl]; omega))) ?_
              walk_at "go"
              refine ite_d (fun hz => ?_) (fun hz => ?_)
              · rw [if_pos hz] at hsp
                walk_at "go"
                refine ⟨by show 1 ≤ sizeLine; decide, fun e1 he1 => ?_⟩
                have sB1 := same_new (o := .lst [.ref ol]) he1
                refine s_cat (sB1 _ _ (sA _ _ h2)) upd_same (by rw [List.length_map, h3]; exact Nat.le_trans (show pk.1.length + 1 ≤ 1000 by omega) (by decide)) fun g2 hg2 => ?_
                have sB2 := same_new (o := .lst (as.map V.ref ++ [.ref ol])) hg2
                walk_at "go"
                refine ⟨by show 0 ≤ sizeLine; decide, fun z2 hz2 => ?_⟩
                have sB3 := same_new (o := .lst []) hz2
                walk_at "go"
                refine ⟨by show 2 ≤ sizeLine; decide, fun t2 ht2 => ?_⟩
                have sB4 := same_new (o := .tup [.ref g2, .ref z2]) ht2
                have sAll := ((sB1.trans sB2).trans sB3).trans sB4
                have fg2 : HA g2 = none := sB1.free hg2
                have fz2 : HA z2 = none := (sB1.trans sB2).free hz2
                have ft2 : HA t2 = none := ((sB1.trans sB2).trans sB3).free ht2
                refine hR _ _ ⟨t2, rfl, sAll, ?_⟩
                rw [hsp]
                have kp : ∀ (b : Addr) v, ((b ≠ pl ∧ H b = none) ∧ b ≠ cl) → H9 b = some v → (b ≠ pl ∧ H b = none) ∧ (upd (upd (upd (upd HA e1 (.lst [.ref ol])) g2 (.lst (as.map V.ref ++ [.ref ol]))) z2 (.lst [])) t2 (.tup [.ref g2, .ref z2])) b = some v := fun b v nb hb => ⟨nb.1, sAll _ _ (sA _ _ hb)⟩
                refine ⟨g2, z2, ⟨neP _ ft2, s0A.free ft2⟩, upd_same, ?_, ⟨⟨neP _ fz2, s0A.free fz2⟩, sB4 _ _ upd_same⟩⟩
                exact GrpsAt.snoc (as := as) (b := ol) ⟨neP _ fg2, s0A.free fg2⟩ (by rw [sB4 _ _ (sB3 _ _ upd_same), List.map_append]; rfl) h3 (fun i b g e1 e2 => (h4 i b g e1 e2).keep kp) (ho.keep kp)
              · rw [if_neg hz] at hsp
                walk_at "go"
                refine ⟨by show 2 ≤ sizeLine; decide, fun t2 ht2 => ?_⟩
                have sB4 := same_new (o := .tup [.ref gl, .ref ol]) ht2
                refine hR _ _ ⟨t2, rfl, sB4, ?_⟩
                rw [hsp]
                have kp : ∀ (b : Addr) v, ((b ≠ pl ∧ H b = none) ∧ b ≠ cl) → H9 b = some v → (b ≠ pl ∧ H b = none) ∧ (upd HA t2 (.tup [.ref gl, .ref ol])) b = some v := fun b v nb hb => ⟨nb.1, sB4 _ _ (sA _ _ hb)⟩
                exact ⟨gl, ol, ⟨neP _ ht2, s0A.free ht2⟩, upd_same, ⟨as, (kp _ _ n2 h2).1, (kp _ _ n2 h2).2, h3, fun i b g e1 e2 => (h4 i b g e1 e2).keep kp⟩, ho.keep kp⟩
            · obtain ⟨t', rfl, sB, pB⟩ := hv
              walk_at "go"
              have htl : ts.length ≤ 256 := by rw [hts.1, hpl']; omega
              refine ⟨pl, _, _, rfl, rfl, sB _ _ hPA, by rw [List.length_map]; exact Nat.lt_of_lt_of_le (show ts.length < 1000 by omega) (by decide), ?_⟩
              have s6B := s9A.trans sB
              have kq : ∀ (b : Addr) v, (b ≠ pl ∧ H b = none) → H6 b = some v → (b ≠ pl ∧ H b = none) ∧ (upd HB pl (.lst (ts.map V.ref ++ [.ref t']))) b = some v := fun b v nb hb => ⟨nb, by rw [upd_ne nb.1]; exact s6B _ _ hb⟩
              have kr : ∀ (b : Addr) v, (b ≠ pl ∧ H b = none) → HB b = some v → (b ≠ pl ∧ H b = none) ∧ (upd HB pl (.lst (ts.map V.ref ++ [.ref t']))) b = some v := fun b v nb hb => ⟨nb, by rw [upd_ne nb.1]; exact hb⟩
              refine ⟨same_mut (s6.trans s6B) hpl1, ts ++ [t'], _, _, _, _, _, _, rfl, by rw [upd_same, List.map_append]; rfl, ?_⟩
              show PrtsAt _ _ _ (partsV sums k ++ [stepV sums (partsV sums k) (k + 1)])
              rw [hps]
              exact (hts.keep kq).snoc (pB.keep kr)
    · obtain ⟨s6, ts, x3, x4, x5, x6, x7, x8, rfl, hP, hts⟩ := pv
      walk_at "go"
      have hpl' := partsV_len sums top
      obtain ⟨tt, ett, pt⟩ := hts.get (m := top) (by rw [hpl']; omega)
      have htl : ts.length = top + 1 := by rw [hts.1, hpl']
      have hlast : atI (ts.map V.ref) (-1) = some (.ref tt) := by
        unfold atI ixN
        rw [List.length_map, htl, if_neg (by decide), if_pos (by omega)]
        show (ts.map V.ref)[((-1 : Int) + ((top + 1 : Nat) : Int)).toNat]? = _
        rw [show ((-1 : Int) + ((top + 1 : Nat) : Int)).toNat = top by omega, List.getElem?_map, ett]
        rfl
      obtain ⟨gl, ol, n1, h1, hg, ho⟩ := pt
      refine s_ixL (SqL.of hP) (v := .ref tt) hlast ?_
      refine g_pair (SqT.of h1) ?_
      dsimp only [List.set]
      walk_at "go"
      exact q gl _ (s1.trans s6) (hg.keep fun b v nb hb => ⟨nb.2, hb⟩)
end

end Odd

namespace Odd
open PySem PySem.Spec PyProof.Rows L2
/-! tactics of this text: st one step, go as many as go -/
local macro_rules | `(tactic| walk_at "ar") => `(tactic| first | assumption | omega | (show (_ : Int) < _; omega) | decide)
local macro_rules | `(tactic| walk_at "st") => `(tactic| first
  | with_reducible refine' w_seq ?_
  | with_reducible refine' w_asg ?_
  | with_reducible refine' w_name ?_
  | with_reducible refine' w_c ?_
  | with_reducible refine' w_op ?_
  | with_reducible refine' w_ix ?_
  | with_reducible refine' w_at ?_
  | with_reducible refine' w_cons ?_
  | with_reducible refine' w_nil ?_
  | with_reducible refine' w_ret ?_
  | with_reducible refine' w_if ?_
  | with_reducible refine' w_test ?_
  | with_reducible refine' w_tr ?_
  | with_reducible refine' w_un ?_
  | with_reducible refine' w_andV ?_
  | with_reducible refine' w_orV ?_
  | with_reducible refine' w_notA ?_
  | with_reducible refine' w_ch ?_
  | with_reducible refine' w_and ?_
  | with_reducible refine' w_or ?_
  | with_reducible refine' w_not ?_
  | with_reducible refine' w_ifx ?_
  | with_reducible refine' w_tup ?_
  | with_reducible refine' w_lst ?_
  | with_reducible refine' w_next ?_
  | with_reducible refine' w_drop ?_
  | with_reducible refine' w_retN ?_
  | ((with_reducible refine' w_var ?h ?_); (case h => exact rfl))
  | ((with_reducible refine' w_bi ?h ?_); (case h => walk_at "mg"))
  | ((with_reducible refine' w_bv ?h ?_); (case h => walk_at "mg"))
  | ((with_reducible refine' w_gv ?h ?_); (case h => walk_at "mg"))
  | ((with_reducible refine' w_gl ?h ?k ?_); (case h => walk_at "mg"); (case k => walk_at "kp"))
  | ((with_reducible refine' w_glS ?h ?k ?_); (case h => walk_at "mg"); (case k => walk_at "kp"))
  | with_reducible refine' bl_ex ?_
  | with_reducible refine' iteT ?_
  | with_reducible refine' iteF ?_
  | with_reducible refine' ite_nf ?_
  | with_reducible refine' ite_nt ?_
  | with_reducible refine' s_add ?_
  | with_reducible refine' s_sub ?_
  | with_reducible refine' s_lt ?_
  | with_reducible refine' s_le ?_
  | with_reducible refine' s_gt ?_
  | with_reducible refine' s_ge ?_
  | with_reducible refine' s_eqI ?_
  | with_reducible refine' s_neI ?_
  | with_reducible refine' s_eqB ?_
  | with_reducible refine' s_neB ?_
  | with_reducible refine' s_truB ?_
  | with_reducible refine' s_truI ?_
  | with_reducible refine' s_neg ?_
  | ((with_reducible refine' s_mod ?h ?_); (case h => walk_at "ar")))
local macro_rules | `(tactic| walk_at "go") => `(tactic| repeat walk_at "st")

local macro_rules | `(tactic| walk_at "mg") => `(tactic| first | assumption | exact Facts.z_TypeError (by assumption) | exact Facts.z_ValueError (by assumption) | exact Facts.z_abs (by assumption) | exact Facts.z_all (by assumption) | exact Facts.z_bool (by assumption) | exact Facts.z_classmethod (by assumption) | exact Facts.z_enumerate (by assumption) | exact Facts.z_int (by assumption) | exact Facts.z_isinstance (by assumption) | exact Facts.z_len (by assumption) | exact Facts.z_list (by assumption) | exact Facts.z_max (by assumption) | exact Facts.z_min (by assumption) | exact Facts.z_property (by assumption) | exact Facts.z_range (by assumption) | exact Facts.z_sorted (by assumption) | exact Facts.z_str (by assumption) | exact Facts.z_sum (by assumption) | exact Facts.z_super (by assumption) | exact Facts.z_tuple (by assumption) | exact Facts.z_zip (by assumption) | exact Facts.g__wall (by assumption) | exact Facts.g_is_between (by assumption) | exact Facts.g_check_seat (by assumption) | exact Facts.g_seats_of (by assumption) | exact Facts.g_check_payment (by assumption) | exact Facts.g_balance_after (by assumption) | exact Facts.g_check_balance (by assumption) | exact Facts.g_sums_of_sets (by assumption) | exact Facts.g_number_of_groups (by assumption) | exact Facts.g_parted (by assumption) | exact Facts.g_payments_within (by assumption) | exact Facts.g_payments (by assumption) | exact Facts.g_fewest_payments (by assumption) | exact Facts.g_check_amount (by assumption) | exact Facts.g_check_seats (by assumption) | exact Facts.g_check_seat_count (by assumption) | exact Facts.g_check_mark (by assumption) | exact Facts.g_no_shares (by assumption) | exact Facts.g__law_random (by assumption) | exact Facts.g__law_below (by assumption) | exact Facts.g__law_shuffled (by assumption) | exact Facts.g__law_balance (by assumption) | exact Facts.g__law_shares (by assumption) | exact Facts.g__law_equal (by assumption) | exact Facts.g__law_error_of (by assumption) | exact Facts.g__law_all_raise (by assumption) | exact Facts.g_law (by assumption) | exact Facts.g_Shares (by assumption) | exact Facts.g_Bill (by assumption) | exact Facts.g_Page (by assumption) | exact Facts.g_Ledger (by assumption) | exact Facts.eg_InvalidBill (by assumption) | exact Facts.eg_InvalidEvening (by assumption) | exact Facts.eg_InvalidOperation (by assumption) | exact Facts.eg_InvalidMark (by assumption) | exact Facts.eg_UnknownSeat (by assumption) | exact Facts.eg_InvalidNumber (by assumption) | exact Facts.eg_NotBalanced (by assumption) | exact Facts.eg_EmptyGroup (by assumption) | exact Facts.eg_InvalidText (by assumption) | exact Facts.eg_InvalidReceipt (by assumption) | exact Facts.eg_DecodeError (by assumption))
local macro_rules | `(tactic| walk_at "kp") => `(tactic| first | assumption | exact (Facts.mk_Shares (by assumption)).kp | exact (Facts.mk_Bill (by assumption)).kp | exact (Facts.mk_Page (by assumption)).kp | exact (Facts.mk_Ledger (by assumption)).kp | exact Fun.kp (Facts.u__wall (by assumption)).choose_spec | exact Fun.kp (Facts.u_is_between (by assumption)).choose_spec | exact Fun.kp (Facts.u_check_seat (by assumption)).choose_spec | exact Fun.kp (Facts.u_seats_of (by assumption)).choose_spec | exact Fun.kp (Facts.u_check_payment (by assumption)).choose_spec | exact Fun.kp (Facts.u_balance_after (by assumption)).choose_spec | exact Fun.kp (Facts.u_check_balance (by assumption)).choose_spec | exact Fun.kp (Facts.u_sums_of_sets (by assumption)).choose_spec | exact Fun.kp (Facts.u_number_of_groups (by assumption)).choose_spec | exact Fun.kp (Facts.u_parted (by assumption)).choose_spec | exact Fun.kp (Facts.u_payments_within (by assumption)).choose_spec | exact Fun.kp (Facts.u_payments (by assumption)).choose_spec | exact Fun.kp (Facts.u_fewest_payments (by assumption)).choose_spec | exact Fun.kp (Facts.u_check_amount (by assumption)).choose_spec | exact Fun.kp (Facts.u_check_seats (by assumption)).choose_spec | exact Fun.kp (Facts.u_check_seat_count (by assumption)).choose_spec | exact Fun.kp (Facts.u_check_mark (by assumption)).choose_spec | exact Fun.kp (Facts.u_no_shares (by assumption)).choose_spec | exact Fun.kp (Facts.u__law_random (by assumption)).choose_spec | exact Fun.kp (Facts.u__law_below (by assumption)).choose_spec | exact Fun.kp (Facts.u__law_shuffled (by assumption)).choose_spec | exact Fun.kp (Facts.u__law_balance (by assumption)).choose_spec | exact Fun.kp (Facts.u__law_shares (by assumption)).choose_spec | exact Fun.kp (Facts.u__law_equal (by assumption)).choose_spec | exact Fun.kp (Facts.u__law_error_of (by assumption)).choose_spec | exact Fun.kp (Facts.u__law_all_raise (by assumption)).choose_spec | exact Fun.kp (Facts.u_law (by assumption)).choose_spec)
/-! ### payments within a group -/
section
variable {P : Program} {w : World} {K : PySem.W.Frag} {mg : Str → Option Value} {base : Heap} {a : Ad}
def dueAt (r : List Int) (i : Nat) : Int := r.getD i 0
def centsV (r : List Int) (i t : Nat) : Int := if dueAt r t < -dueAt r i then dueAt r t else -dueAt r i
abbrev PSt := List Pay × List Int
def stepT (i : Nat) (st : PSt) (t : Nat) : PSt := if centsV st.2 i t > 0 then (st.1 ++ [(i, t, centsV st.2 i t)], give1 st.2 (i, t, centsV st.2 i t)) else st
def innerF (i : Nat) (ts : List Nat) (st : PSt) : PSt := ts.foldl (stepT i) st
def outerF (tk gs : List Nat) (st : PSt) : PSt := gs.foldl (fun st i => innerF i tk st) st
def takersV (ds : List Int) (g : List Nat) : List Nat := g.filter fun s => decide (dueAt ds s > 0)
def withinV (ds : List Int) (g : List Nat) : List Pay := (outerF (takersV ds g) g ([], ds)).1
theorem innerF_snoc (i : Nat) (ts : List Nat) (t : Nat) (st : PSt) : innerF i (ts ++ [t]) st = stepT i (innerF i ts st) t := by
  unfold innerF
  rw [List.foldl_append]
  rfl
theorem outerF_snoc (tk gs : List Nat) (i : Nat) (st : PSt) : outerF tk (gs ++ [i]) st = innerF i tk (outerF tk gs st) := by
  unfold outerF
  rw [List.foldl_append]
  rfl
theorem stepT_len (i : Nat) (st : PSt) (t : Nat) : (stepT i st t).1.length ≤ st.1.length + 1 ∧ (stepT i st t).2.length = st.2.length := by
  unfold stepT
  split
  · exact ⟨by rw [List.length_append]; exact Nat.le_refl _, give1_len _ _⟩
  · exact ⟨Nat.le_succ _, rfl⟩
theorem innerF_len (i : Nat) : ∀ (ts : List Nat) (st : PSt), (innerF i ts st).1.length ≤ st.1.length + ts.length ∧ (innerF i ts st).2.length = st.2.length
  | [], _ => ⟨Nat.le_refl _, rfl⟩
  | t :: ts, st => by
    have h1 := innerF_len i ts (stepT i st t)
    have h2 := stepT_len i st t
    show (innerF i ts (stepT i st t)).1.length ≤ st.1.length + (ts.length + 1) ∧ (innerF i ts (stepT i st t)).2.length = st.2.length
    omega
theorem outerF_len (tk : List Nat) : ∀ (gs : List Nat) (st : PSt), (outerF tk gs st).1.length ≤ st.1.length + gs.length * tk.length ∧ (outerF tk gs st).2.length = st.2.length
  | [], _ => ⟨Nat.le_add_right _ _, rfl⟩
  | i :: gs, st => by
    have h1 := outerF_len tk gs (innerF i tk st)
    have h2 := innerF_len i tk st
    show (outerF tk gs (innerF i tk st)).1.length ≤ st.1.length + (gs.length + 1) * tk.length ∧ (outerF tk gs (innerF i tk st)).2.length = st.2.length
    rw [Nat.succ_mul]
    omega
def spWithin (K : PySem.W.Frag) : Sp := fun vs H Q _ => ∃ (l t : Addr) (g : List Nat) (ds : List Int), vs = [.ref l, .ref t] ∧ H l = some (.lst (g.map natV)) ∧ SqT K H t (ds.map V.int) ∧ ds.length ≤ 8 ∧ g.length ≤ 8 ∧ (∀ s ∈ g, s < ds.length) ∧
  ∀ p ps H', H p = none → Same H H' → H' p = some (.lst (ps.map V.ref)) → PaysL H' ps (withinV ds g) → Q (.ref p) H'
theorem ok_payments_within (T : Facts K mg a) : FnR P w K mg base (L2.CX P w) 1 a.f_payments_within (spWithin K) := by
  obtain ⟨fd, F⟩ := T.u_payments_within
  refine fnr_ok F sc_payments_within (F.binds fun _ _ _ _ _ _ us hl => match us, hl with | [_, _], _ => rfl) (fun vs H Q E h => ?_) (fun cdv A outer s H vs Q E hr h => ?_)
  · obtain ⟨l, t, g, ds, rfl, _⟩ := h
    rfl
  · obtain ⟨l, t, g, ds, rfl, hl, ht, hn8, hg8, hgs, q⟩ := h
    have gAt : ∀ {i : Nat} {x : V}, (g.map natV)[i]? = some x → ∃ s, g[i]? = some s ∧ x = .int (s : Nat) ∧ s < ds.length := fun {i x} hx => by
      rw [List.getElem?_map] at hx
      cases e : g[i]? with
      | none => rw [e] at hx; cases hx
      | some s => rw [e] at hx; cases hx; exact ⟨s, rfl, rfl, hgs s (List.mem_of_getElem? e)⟩
    refine ⟨_, (pss_cons (ps_set (i := 2) sc_payments_within.nd rfl (Or.inl rfl) (pe_tyA (T := "list") Like.refl pas_main (by rfl) (by decide +kernel) (pa_cons (pv 1) pa_nil)))
    (pss_cons (ps_setLc (i := 3) (own := [("seat", 4)]) (g := gName 4) (tt := _) rfl sc_payments_within.nd rfl rfl (sw_true rfl rfl rfl (by decide +kernel)) (pi_seqA Like.refl (pv 0)) (blkOk_by (own := [("seat", 4)]) (N := N_payments_within) (sc := defScope s_payments_within) (by decide +kernel)) (fun _ _ _ _ _ => (pg_name (i := 4) sc_payments_within.nd rfl (by first | exact Or.inl rfl | exact Or.inr rfl))) (fun _ _ _ _ _ => pts_one (pt_cmpA ⟨rfl, rfl, rfl, rfl, rfl, rfl, rfl⟩ passL (pe_ixA ⟨rfl, rfl, rfl, rfl, rfl, rfl, rfl⟩ passL (pv 1) (pv 4)) (pe_int) (nomark _))) (fun _ _ _ _ _ => (pv 4)))
    (pss_cons (ps_set (i := 5) sc_payments_within.nd rfl (Or.inl rfl) (pe_lst pa_nil))
    (pss_cons (ps_for own_main rfl (pi_seqA Like.refl (pv 0)) (pg_name (i := 6) sc_payments_within.nd rfl (Or.inl rfl)) (pss_one (ps_for own_main rfl (pi_seqA Like.refl (pv 3)) (pg_name (i := 7) sc_payments_within.nd rfl (Or.inl rfl)) (pss_cons (ps_set (i := 8) sc_payments_within.nd rfl (Or.inl rfl) (pe_biA (id := "min") Like.refl pas_main (by rfl) (by decide +kernel) (pa_cons (pe_unA Like.refl pas_main (pe_ixA Like.refl pas_main (pv 2) (pv 6))) (pa_cons (pe_ixA Like.refl pas_main (pv 2) (pv 7)) pa_nil))))
    (pss_one (ps_if (pt_cmpA Like.refl pas_main (pv 8) (pe_int) (nomark _)) (pss_cons (ps_expr (pe_bm PySem.F.plainAttrs_list PySem.F.slot_list_append PySem.F.type_list_append mt_append (pv 5) (pa_cons (pe_tup (pa_cons (pv 6) (pa_cons (pv 7) (pa_cons (pv 8) pa_nil)))) pa_nil)))
    (pss_cons (ps_agS Like.refl pas_main (pv 2) (pv 6) (pv 8))
    (pss_one (ps_agS Like.refl pas_main (pv 2) (pv 7) (pv 8))))) pss_nil))))))
    (pss_one (ps_ret (pv 5))))))), ?_⟩
    walk_at "go"
    refine s_listOf (.inr ht) fun rl hrl => ?_
    have s1 := same_new (o := .lst (ds.map V.int)) hrl
    have hR0 : (upd H rl (.lst (ds.map V.int))) rl = some (.lst (ds.map V.int)) := upd_same
    generalize upd H rl (.lst (ds.map V.int)) = H1 at *
    walk_at "go"
    refine c_list (a := l) (xs := g.map natV) (fun i => (takersV ds (g.take i)).map natV) rfl (fun i hi => ?_) (SqL.of (s1 _ _ hl)) (fun _ => rfl) (fun i x H2 hx s2 => ?_) (fun tl H2 htl s2 hT => ?_) (fun R k => by walk_at "go"; exact k)
    · rw [List.length_map]
      have := List.length_filter_le (fun s => decide (dueAt ds s > 0)) (g.take i)
      rw [List.length_take] at this
      unfold takersV
      omega
    · obtain ⟨s0, es, rfl, hs⟩ := gAt hx
      have eo : (takersV ds (g.take (i + 1))).map natV = if decide (dueAt ds s0 > 0) = true then (takersV ds (g.take i)).map natV ++ [natV s0] else (takersV ds (g.take i)).map natV := by
        unfold takersV
        rw [List.take_add_one, es, List.filter_append, List.map_append]
        by_cases z : dueAt ds s0 > 0
        · rw [if_pos (decide_eq_true z)]
          simp [List.filter_cons, z]
        · rw [if_neg (by rw [decide_eq_true_eq]; exact z)]
          simp [List.filter_cons, z]
      show Turn1 _ _ _ _ ((takersV ds (g.take i)).map natV) ((takersV ds (g.take (i + 1))).map natV)
      rw [eo]
      refine turn1_filter (fun R hR => ?_) (fun _ H3 _ R hR => ?_)
      · walk_at "go"
        refine s_ixT (same_t s2 (same_t s1 ht)) (v := .int (dueAt ds s0)) (at_of (j := s0) rfl (mapGet hs)) ?_
        walk_at "go"
        exact hR _ (Same.refl _)
      · walk_at "go"
        exact hR _ (Same.refl _)
    · rw [List.length_map, List.take_of_length_le (Nat.le_refl _)] at hT
      have hT8 : (takersV ds g).length ≤ 8 := Nat.le_trans (List.length_filter_le _ _) hg8
      have hTs : ∀ s ∈ takersV ds g, s < ds.length := fun s hs => hgs s (List.mem_filter.1 hs).1
      have hq : withinV ds g = (outerF (takersV ds g) g ([], ds)).1 := rfl
      generalize takersV ds g = tk at *
      have tAt : ∀ {i : Nat} {x : V}, (tk.map natV)[i]? = some x → ∃ s, tk[i]? = some s ∧ x = .int (s : Nat) ∧ s < ds.length := fun {i x} hx => by
        rw [List.getElem?_map] at hx
        cases e : tk[i]? with
        | none => rw [e] at hx; cases hx
        | some s => rw [e] at hx; cases hx; exact ⟨s, rfl, rfl, hTs s (List.mem_of_getElem? e)⟩
      walk_at "go"
      refine ⟨by show 0 ≤ sizeLine; decide, fun gl hgl => ?_⟩
      have s3 := same_new (o := .lst []) hgl
      have s13 := s1.trans s2
      have hgl0 : H gl = none := s13.free hgl
      have hR2 := s3 _ _ (s2 _ _ hR0)
      have hT2 := s3 _ _ hT
      have hL2 := s3 _ _ (s13 _ _ hl)
      have hgr : gl ≠ rl := fun z => by rw [z, s2 _ _ hR0] at hgl; cases hgl
      have hgt : gl ≠ tl := fun z => by rw [z, hT] at hgl; cases hgl
      have hrt : rl ≠ tl := fun z => by rw [← z, hR0] at htl; cases htl
      have hG2 : (upd H2 gl (.lst [])) gl = some (.lst (([] : List Addr).map V.ref)) := upd_same
      have s03 := s13.trans s3
      generalize upd H2 gl (.lst []) = H3 at *
      walk_at "go"
      dsimp only [List.set]
      refine f_lst (a := l) (xs := g.map natV) (fun k σ H' => Same H H' ∧ H' tl = some (.lst (tk.map natV)) ∧ ∃ ps x4 x6 x7 x8, σ = [some (.ref l), some (.ref t), some (.ref rl), some (.ref tl), x4, some (.ref gl), x6, x7, x8] ∧
          H' rl = some (.lst ((outerF tk (g.take k) ([], ds)).2.map V.int)) ∧ H' gl = some (.lst (ps.map V.ref)) ∧ PaysL H' ps (outerF tk (g.take k) ([], ds)).1)
        (fun R z => by walk_at "go"; exact z) ⟨s03, hT2, [], _, _, _, _, rfl, hR2, hG2, rfl, fun i p x z => by simp at z⟩ (fun k σ H' _ pv => SqL.of (pv.1 _ _ hl)) (fun k x σ H4 hx pv => ?_) (fun σ H4 pv => ?_)
      · obtain ⟨s4, hT4, ps, x4, x6, x7, x8, rfl, hR4, hG4, hp4⟩ := pv
        obtain ⟨gi, egi, rfl, hgi⟩ := gAt hx
        have ek : outerF tk (g.take (k + 1)) ([], ds) = innerF gi tk (outerF tk (g.take k) ([], ds)) := by
          rw [List.take_add_one, egi]
          exact outerF_snoc tk (g.take k) gi _
        have hlen := outerF_len tk (g.take k) ([], ds)
        have hkl : (g.take k).length ≤ 8 := by rw [List.length_take]; omega
        have h64 : (g.take k).length * tk.length ≤ 8 * 8 := Nat.mul_le_mul hkl hT8
        rw [ek]
        generalize outerF tk (g.take k) ([], ds) = st0 at *
        have hst1 : st0.1.length ≤ 64 := by have := hlen.1; simp only [List.length_nil] at this; omega
        have hst2 : st0.2.length = ds.length := hlen.2
        refine w_name ?_
        dsimp only [List.set]
        walk_at "go"
        refine f_lst (a := tl) (xs := tk.map natV) (fun j σ H' => Same H H' ∧ H' tl = some (.lst (tk.map natV)) ∧ ∃ ps x4 x7 x8, σ = [some (.ref l), some (.ref t), some (.ref rl), some (.ref tl), x4, some (.ref gl), some (.int (gi : Nat)), x7, x8] ∧
            H' rl = some (.lst ((innerF gi (tk.take j) st0).2.map V.int)) ∧ H' gl = some (.lst (ps.map V.ref)) ∧ PaysL H' ps (innerF gi (tk.take j) st0).1)
          (fun R z => by walk_at "go"; exact z) ⟨s4, hT4, ps, x4, x7, x8, rfl, hR4, hG4, hp4⟩ (fun j σ H' _ pv => SqL.of pv.2.1) (fun j x σ H5 hx pv => ?_) (fun σ H5 pv => ?_)
        · obtain ⟨s5, hT5, ps5, y4, y7, y8, rfl, hR5, hG5, hp5⟩ := pv
          obtain ⟨ti, eti, rfl, hti⟩ := tAt hx
          have ej : innerF gi (tk.take (j + 1)) st0 = stepT gi (innerF gi (tk.take j) st0) ti := by
            rw [List.take_add_one, eti]
            exact innerF_snoc gi (tk.take j) ti _
          have hlj := innerF_len gi (tk.take j) st0
          have hjl : (tk.take j).length ≤ 8 := by rw [List.length_take]; omega
          rw [ej]
          generalize innerF gi (tk.take j) st0 = st at *
          have hlr : st.2.length = ds.length := by rw [hlj.2, hst2]
          have hlg : st.1.length ≤ 100 := by omega
          refine w_name ?_
          dsimp only [List.set]
          walk_at "go"
          refine s_ixL (SqL.of hR5) (v := .int (dueAt st.2 gi)) (at_of (j := gi) rfl (mapGet (by rw [hlr]; exact hgi))) ?_
          walk_at "go"
          refine s_ixL (SqL.of hR5) (v := .int (dueAt st.2 ti)) (at_of (j := ti) rfl (mapGet (by rw [hlr]; exact hti))) ?_
          walk_at "go"
          refine s_min2 rfl ?_
          have hstep : stepT gi st ti = if centsV st.2 gi ti > 0 then (st.1 ++ [(gi, ti, centsV st.2 gi ti)], give1 st.2 (gi, ti, centsV st.2 gi ti)) else st := rfl
          have hcv : (if dueAt st.2 ti < -dueAt st.2 gi then dueAt st.2 ti else -dueAt st.2 gi) = centsV st.2 gi ti := rfl
          rw [hcv]
          generalize centsV st.2 gi ti = c at *
          walk_at "go"
          dsimp only [List.set]
          walk_at "go"
          refine ite_d (fun hc => ?_) (fun hc => ?_)
          · rw [if_pos hc] at hstep
            rw [hstep]
            walk_at "go"
            refine w_bm ?_
            walk_at "go"
            refine ⟨.inl ⟨rfl, _, SqL.of hG5⟩, ?_⟩
            walk_at "go"
            refine ⟨by show 3 ≤ sizeLine; decide, fun u hu => ?_⟩
            have sU := same_new (o := .tup [.int (gi : Nat), .int (ti : Nat), .int c]) hu
            walk_at "go"
            refine ⟨gl, _, _, rfl, rfl, sU _ _ hG5, by rw [List.length_map, hp5.1]; exact Nat.lt_of_lt_of_le (show st.1.length < 1000 by omega) (by decide), ?_⟩
            have s6 := same_mut (o := .lst (ps5.map V.ref ++ [.ref u])) (s5.trans sU) hgl0
            have hG6 : (upd (upd H5 u (.tup [.int (gi : Nat), .int (ti : Nat), .int c])) gl (.lst (ps5.map V.ref ++ [.ref u]))) gl = some (.lst ((ps5 ++ [u]).map V.ref)) := by rw [upd_same, List.map_append]; rfl
            have hR6 : (upd (upd H5 u (.tup [.int (gi : Nat), .int (ti : Nat), .int c])) gl (.lst (ps5.map V.ref ++ [.ref u]))) rl = some (.lst (st.2.map V.int)) := by rw [upd_ne hgr.symm]; exact sU _ _ hR5
            have hT6 : (upd (upd H5 u (.tup [.int (gi : Nat), .int (ti : Nat), .int c])) gl (.lst (ps5.map V.ref ++ [.ref u]))) tl = some (.lst (tk.map natV)) := by rw [upd_ne hgt.symm]; exact sU _ _ hT5
            have hugl : u ≠ gl := fun z => by rw [z, hG5] at hu; cases hu
            have hp6 : PaysL (upd (upd H5 u (.tup [.int (gi : Nat), .int (ti : Nat), .int c])) gl (.lst (ps5.map V.ref ++ [.ref u]))) (ps5 ++ [u]) (st.1 ++ [(gi, ti, c)]) :=
              (hp5.same fun q vs e => by rw [upd_ne (fun z => by rw [z, hG5] at e; cases e)]; exact sU _ _ e).app (PaysL.one (by show _ = _; rw [upd_ne hugl, upd_same]))
            generalize upd (upd H5 u (.tup [.int (gi : Nat), .int (ti : Nat), .int c])) gl (.lst (ps5.map V.ref ++ [.ref u])) = H6 at *
            walk_at "go"
            dsimp only
            have L0 : gi < st.2.length := by rw [hlr]; exact hgi
            have L1 : ti < st.2.length := by rw [hlr]; exact hti
            refine w_agS (K := K) ?_
            walk_at "go"
            refine s_getL (SqL.of hR6) (Int.natCast_nonneg _) (v := .int (st.2.getD gi 0)) (by rw [Int.toNat_natCast]; exact mapGet L0) ?_
            walk_at "go"
            refine s_iaddG ?_
            refine s_setL hR6 (ixN_ofG (Int.natCast_nonneg _) (by rw [List.length_map]; omega)) ?_
            walk_at "go"
            rw [Int.toNat_natCast, ← List.map_set]
            have hrl0 : H rl = none := hrl
            have s7 := same_mut (o := .lst ((st.2.set gi (st.2.getD gi 0 + c)).map V.int)) s6 hrl0
            have hR7 : (upd H6 rl (.lst ((st.2.set gi (st.2.getD gi 0 + c)).map V.int))) rl = some (.lst ((st.2.set gi (st.2.getD gi 0 + c)).map V.int)) := upd_same
            have hG7 : (upd H6 rl (.lst ((st.2.set gi (st.2.getD gi 0 + c)).map V.int))) gl = some (.lst ((ps5 ++ [u]).map V.ref)) := by rw [upd_ne hgr]; exact hG6
            have hT7 : (upd H6 rl (.lst ((st.2.set gi (st.2.getD gi 0 + c)).map V.int))) tl = some (.lst (tk.map natV)) := by rw [upd_ne hrt.symm]; exact hT6
            have hp7 : PaysL (upd H6 rl (.lst ((st.2.set gi (st.2.getD gi 0 + c)).map V.int))) (ps5 ++ [u]) (st.1 ++ [(gi, ti, c)]) := hp6.same fun q vs e => by rw [upd_ne (fun z => by rw [z, hR6] at e; cases e)]; exact e
            generalize upd H6 rl (.lst ((st.2.set gi (st.2.getD gi 0 + c)).map V.int)) = H7 at *
            dsimp only
            refine w_agS (K := K) ?_
            walk_at "go"
            refine s_getL (SqL.of hR7) (Int.natCast_nonneg _) (v := .int ((st.2.set gi (st.2.getD gi 0 + c)).getD ti 0)) (by rw [Int.toNat_natCast]; exact mapGet (by rw [List.length_set]; exact L1)) ?_
            walk_at "go"
            refine s_isubG ?_
            refine s_setL hR7 (ixN_ofG (Int.natCast_nonneg _) (by rw [List.length_map, List.length_set]; omega)) ?_
            walk_at "go"
            rw [Int.toNat_natCast, ← List.map_set]
            refine ⟨same_mut s7 hrl0, by rw [upd_ne hrt.symm]; exact hT7, ps5 ++ [u], _, _, _, rfl, ?_, by rw [upd_ne hgr]; exact hG7, hp7.same fun q vs e => by rw [upd_ne (fun z => by rw [z, hR7] at e; cases e)]; exact e⟩
            rw [upd_same]
            rfl
          · rw [if_neg hc] at hstep
            rw [hstep]
            walk_at "go"
            exact ⟨s5, hT5, ps5, _, _, _, rfl, hR5, hG5, hp5⟩
        · obtain ⟨s5, hT5, ps5, y4, y7, y8, rfl, hR5, hG5, hp5⟩ := pv
          rw [List.length_map, List.take_of_length_le (Nat.le_refl _)] at hR5 hp5
          walk_at "go"
          exact ⟨s5, hT5, ps5, _, _, _, _, rfl, hR5, hG5, hp5⟩
      · obtain ⟨s4, hT4, ps, x4, x6, x7, x8, rfl, hR4, hG4, hp4⟩ := pv
        rw [List.length_map, List.take_of_length_le (Nat.le_refl _)] at hp4
        walk_at "go"
        exact q gl ps _ hgl0 s4 hG4 (by rw [hq]; exact hp4)
end

end Odd

namespace Odd
open PySem PySem.Spec PyProof.Rows L2
/-! tactics of this text: st one step, go as many as go -/
local macro_rules | `(tactic| walk_at "ar") => `(tactic| first | assumption | omega | (show (_ : Int) < _; omega) | decide)
local macro_rules | `(tactic| walk_at "st") => `(tactic| first
  | with_reducible refine' w_seq ?_
  | with_reducible refine' w_asg ?_
  | with_reducible refine' w_name ?_
  | with_reducible refine' w_c ?_
  | with_reducible refine' w_op ?_
  | with_reducible refine' w_ix ?_
  | with_reducible refine' w_at ?_
  | with_reducible refine' w_cons ?_
  | with_reducible refine' w_nil ?_
  | with_reducible refine' w_ret ?_
  | with_reducible refine' w_if ?_
  | with_reducible refine' w_test ?_
  | with_reducible refine' w_tr ?_
  | with_reducible refine' w_un ?_
  | with_reducible refine' w_andV ?_
  | with_reducible refine' w_orV ?_
  | with_reducible refine' w_notA ?_
  | with_reducible refine' w_ch ?_
  | with_reducible refine' w_and ?_
  | with_reducible refine' w_or ?_
  | with_reducible refine' w_not ?_
  | with_reducible refine' w_ifx ?_
  | with_reducible refine' w_tup ?_
  | with_reducible refine' w_lst ?_
  | with_reducible refine' w_next ?_
  | with_reducible refine' w_drop ?_
  | with_reducible refine' w_retN ?_
  | ((with_reducible refine' w_var ?h ?_); (case h => exact rfl))
  | ((with_reducible refine' w_bi ?h ?_); (case h => walk_at "mg"))
  | ((with_reducible refine' w_bv ?h ?_); (case h => walk_at "mg"))
  | ((with_reducible refine' w_gv ?h ?_); (case h => walk_at "mg"))
  | ((with_reducible refine' w_gl ?h ?k ?_); (case h => walk_at "mg"); (case k => walk_at "kp"))
  | ((with_reducible refine' w_glS ?h ?k ?_); (case h => walk_at "mg"); (case k => walk_at "kp"))
  | with_reducible refine' bl_ex ?_
  | with_reducible refine' iteT ?_
  | with_reducible refine' iteF ?_
  | with_reducible refine' ite_nf ?_
  | with_reducible refine' ite_nt ?_
  | with_reducible refine' s_add ?_
  | with_reducible refine' s_sub ?_
  | with_reducible refine' s_lt ?_
  | with_reducible refine' s_le ?_
  | with_reducible refine' s_gt ?_
  | with_reducible refine' s_ge ?_
  | with_reducible refine' s_eqI ?_
  | with_reducible refine' s_neI ?_
  | with_reducible refine' s_eqB ?_
  | with_reducible refine' s_neB ?_
  | with_reducible refine' s_truB ?_
  | with_reducible refine' s_truI ?_
  | with_reducible refine' s_neg ?_
  | ((with_reducible refine' s_mod ?h ?_); (case h => walk_at "ar")))
local macro_rules | `(tactic| walk_at "go") => `(tactic| repeat walk_at "st")

local macro_rules | `(tactic| walk_at "mg") => `(tactic| first | assumption | exact Facts.z_TypeError (by assumption) | exact Facts.z_ValueError (by assumption) | exact Facts.z_abs (by assumption) | exact Facts.z_all (by assumption) | exact Facts.z_bool (by assumption) | exact Facts.z_classmethod (by assumption) | exact Facts.z_enumerate (by assumption) | exact Facts.z_int (by assumption) | exact Facts.z_isinstance (by assumption) | exact Facts.z_len (by assumption) | exact Facts.z_list (by assumption) | exact Facts.z_max (by assumption) | exact Facts.z_min (by assumption) | exact Facts.z_property (by assumption) | exact Facts.z_range (by assumption) | exact Facts.z_sorted (by assumption) | exact Facts.z_str (by assumption) | exact Facts.z_sum (by assumption) | exact Facts.z_super (by assumption) | exact Facts.z_tuple (by assumption) | exact Facts.z_zip (by assumption) | exact Facts.g__wall (by assumption) | exact Facts.g_is_between (by assumption) | exact Facts.g_check_seat (by assumption) | exact Facts.g_seats_of (by assumption) | exact Facts.g_check_payment (by assumption) | exact Facts.g_balance_after (by assumption) | exact Facts.g_check_balance (by assumption) | exact Facts.g_sums_of_sets (by assumption) | exact Facts.g_number_of_groups (by assumption) | exact Facts.g_parted (by assumption) | exact Facts.g_payments_within (by assumption) | exact Facts.g_payments (by assumption) | exact Facts.g_fewest_payments (by assumption) | exact Facts.g_check_amount (by assumption) | exact Facts.g_check_seats (by assumption) | exact Facts.g_check_seat_count (by assumption) | exact Facts.g_check_mark (by assumption) | exact Facts.g_no_shares (by assumption) | exact Facts.g__law_random (by assumption) | exact Facts.g__law_below (by assumption) | exact Facts.g__law_shuffled (by assumption) | exact Facts.g__law_balance (by assumption) | exact Facts.g__law_shares (by assumption) | exact Facts.g__law_equal (by assumption) | exact Facts.g__law_error_of (by assumption) | exact Facts.g__law_all_raise (by assumption) | exact Facts.g_law (by assumption) | exact Facts.g_Shares (by assumption) | exact Facts.g_Bill (by assumption) | exact Facts.g_Page (by assumption) | exact Facts.g_Ledger (by assumption) | exact Facts.eg_InvalidBill (by assumption) | exact Facts.eg_InvalidEvening (by assumption) | exact Facts.eg_InvalidOperation (by assumption) | exact Facts.eg_InvalidMark (by assumption) | exact Facts.eg_UnknownSeat (by assumption) | exact Facts.eg_InvalidNumber (by assumption) | exact Facts.eg_NotBalanced (by assumption) | exact Facts.eg_EmptyGroup (by assumption) | exact Facts.eg_InvalidText (by assumption) | exact Facts.eg_InvalidReceipt (by assumption) | exact Facts.eg_DecodeError (by assumption))
local macro_rules | `(tactic| walk_at "kp") => `(tactic| first | assumption | exact (Facts.mk_Shares (by assumption)).kp | exact (Facts.mk_Bill (by assumption)).kp | exact (Facts.mk_Page (by assumption)).kp | exact (Facts.mk_Ledger (by assumption)).kp | exact Fun.kp (Facts.u__wall (by assumption)).choose_spec | exact Fun.kp (Facts.u_is_between (by assumption)).choose_spec | exact Fun.kp (Facts.u_check_seat (by assumption)).choose_spec | exact Fun.kp (Facts.u_seats_of (by assumption)).choose_spec | exact Fun.kp (Facts.u_check_payment (by assumption)).choose_spec | exact Fun.kp (Facts.u_balance_after (by assumption)).choose_spec | exact Fun.kp (Facts.u_check_balance (by assumption)).choose_spec | exact Fun.kp (Facts.u_sums_of_sets (by assumption)).choose_spec | exact Fun.kp (Facts.u_number_of_groups (by assumption)).choose_spec | exact Fun.kp (Facts.u_parted (by assumption)).choose_spec | exact Fun.kp (Facts.u_payments_within (by assumption)).choose_spec | exact Fun.kp (Facts.u_payments (by assumption)).choose_spec | exact Fun.kp (Facts.u_fewest_payments (by assumption)).choose_spec | exact Fun.kp (Facts.u_check_amount (by assumption)).choose_spec | exact Fun.kp (Facts.u_check_seats (by assumption)).choose_spec | exact Fun.kp (Facts.u_check_seat_count (by assumption)).choose_spec | exact Fun.kp (Facts.u_check_mark (by assumption)).choose_spec | exact Fun.kp (Facts.u_no_shares (by assumption)).choose_spec | exact Fun.kp (Facts.u__law_random (by assumption)).choose_spec | exact Fun.kp (Facts.u__law_below (by assumption)).choose_spec | exact Fun.kp (Facts.u__law_shuffled (by assumption)).choose_spec | exact Fun.kp (Facts.u__law_balance (by assumption)).choose_spec | exact Fun.kp (Facts.u__law_shares (by assumption)).choose_spec | exact Fun.kp (Facts.u__law_equal (by assumption)).choose_spec | exact Fun.kp (Facts.u__law_error_of (by assumption)).choose_spec | exact Fun.kp (Facts.u__law_all_raise (by assumption)).choose_spec | exact Fun.kp (Facts.u_law (by assumption)).choose_spec)
/-! ### what payments within a group do -/
section
theorem sum_perm {l m : List Int} (h : l.Perm m) : l.sum = m.sum := by
  induction h with
  | nil => rfl
  | cons x _ ih => rw [List.sum_cons, List.sum_cons, ih]
  | swap x y l => simp only [List.sum_cons]; omega
  | trans _ _ h1 h2 => rw [h1, h2]
def sumOf (ds : List Int) (l : List Nat) : Int := (l.map (dueAt ds)).sum
theorem sumOf_perm {ds : List Int} {l m : List Nat} (h : l.Perm m) : sumOf ds l = sumOf ds m := sum_perm (h.map _)
theorem sumOf_app (ds : List Int) (l m : List Nat) : sumOf ds (l ++ m) = sumOf ds l + sumOf ds m := by
  unfold sumOf
  rw [List.map_append, List.sum_append]
theorem sumOf_cons (ds : List Int) (s : Nat) (l : List Nat) : sumOf ds (s :: l) = dueAt ds s + sumOf ds l := by
  unfold sumOf
  rw [List.map_cons, List.sum_cons]
theorem sumOf_congr {r ds : List Int} : ∀ {l : List Nat}, (∀ s ∈ l, dueAt r s = dueAt ds s) → sumOf r l = sumOf ds l
  | [], _ => rfl
  | s :: l, h => by rw [sumOf_cons, sumOf_cons, h s (List.mem_cons_self ..), sumOf_congr fun x hx => h x (List.mem_cons_of_mem _ hx)]
theorem dueAt_set {r : List Int} {i s : Nat} {v : Int} (h : i < r.length) : dueAt (r.set i v) s = if s = i then v else dueAt r s := by
  unfold dueAt
  rw [List.getD_eq_getElem?_getD, List.getD_eq_getElem?_getD]
  by_cases e : s = i
  · subst e
    rw [if_pos rfl, List.getElem?_set_self h]
    rfl
  · rw [if_neg e, List.getElem?_set_ne (fun z => e z.symm)]
theorem give_at {r : List Int} {i t : Nat} {c : Int} (hi : i < r.length) (ht : t < r.length) (hne : i ≠ t) (s : Nat) :
    dueAt (give1 r (i, t, c)) s = if s = t then dueAt r t - c else if s = i then dueAt r i + c else dueAt r s := by
  show dueAt ((r.set i (dueAt r i + c)).set t (dueAt (r.set i (dueAt r i + c)) t - c)) s = _
  have e1 : dueAt (r.set i (dueAt r i + c)) t = dueAt r t := by rw [dueAt_set hi, if_neg (Ne.symm hne)]
  have e2 : dueAt (r.set i (dueAt r i + c)) s = if s = i then dueAt r i + c else dueAt r s := dueAt_set hi
  rw [dueAt_set (by rw [List.length_set]; exact ht), e1, e2]
theorem sumOf_out {r : List Int} {i t : Nat} {c : Int} (hi : i < r.length) (ht : t < r.length) (hne : i ≠ t) {l : List Nat} (h1 : i ∉ l) (h2 : t ∉ l) : sumOf (give1 r (i, t, c)) l = sumOf r l :=
  sumOf_congr fun s hs => by
    have a1 : s ≠ t := fun z => h2 (by rw [← z]; exact hs)
    have a2 : s ≠ i := fun z => h1 (by rw [← z]; exact hs)
    rw [give_at hi ht hne, if_neg a1, if_neg a2]
theorem sumOf_one {r : List Int} {i t : Nat} {c : Int} (hi : i < r.length) (ht : t < r.length) (hne : i ≠ t) {l : List Nat} (hl : l.Nodup) (h1 : i ∈ l) (h2 : t ∉ l) : sumOf (give1 r (i, t, c)) l = sumOf r l + c := by
  have p := List.perm_cons_erase h1
  have hn : i ∉ l.erase i := fun z => (hl.mem_erase_iff.1 z).1 rfl
  rw [sumOf_perm p, sumOf_perm p, sumOf_cons, sumOf_cons, sumOf_out hi ht hne hn (fun z => h2 (List.mem_of_mem_erase z)), give_at hi ht hne, if_neg hne, if_pos rfl]
  omega
theorem sumOf_two {r : List Int} {i t : Nat} {c : Int} (hi : i < r.length) (ht : t < r.length) (hne : i ≠ t) {l : List Nat} (hl : l.Nodup) (h1 : i ∉ l) (h2 : t ∈ l) : sumOf (give1 r (i, t, c)) l = sumOf r l - c := by
  have p := List.perm_cons_erase h2
  have hn : t ∉ l.erase t := fun z => (hl.mem_erase_iff.1 z).1 rfl
  rw [sumOf_perm p, sumOf_perm p, sumOf_cons, sumOf_cons, sumOf_out hi ht hne (fun z => h1 (List.mem_of_mem_erase z)) hn, give_at hi ht hne, if_pos rfl]
  omega
theorem sumOf_both {r : List Int} {i t : Nat} {c : Int} (hi : i < r.length) (ht : t < r.length) (hne : i ≠ t) {l : List Nat} (hl : l.Nodup) (h1 : i ∈ l) (h2 : t ∈ l) : sumOf (give1 r (i, t, c)) l = sumOf r l := by
  have p := List.perm_cons_erase h1
  have hn : i ∉ l.erase i := fun z => (hl.mem_erase_iff.1 z).1 rfl
  have h2' : t ∈ l.erase i := hl.mem_erase_iff.2 ⟨fun z => hne z.symm, h2⟩
  rw [sumOf_perm p, sumOf_perm p, sumOf_cons, sumOf_cons, sumOf_two hi ht hne (hl.erase i) hn h2', give_at hi ht hne, if_neg hne, if_pos rfl]
  omega
/-! #### at least one payment less than seats -/
theorem blocks {ds : List Int} {g : List Nat} (hn : g.Nodup) (hg : ∀ s ∈ g, s < ds.length) : ∀ (k : Nat) (xs : List Pay), xs.length = k → (∀ x ∈ xs, x.1 ∈ g ∧ x.2.1 ∈ g ∧ x.1 ≠ x.2.1) →
    ∃ bs : List (List Nat), bs.flatten.Perm g ∧ (∀ b ∈ bs, b ≠ [] ∧ sumOf (giveAll ds xs) b = sumOf ds b) ∧ g.length ≤ bs.length + xs.length
  | 0, xs, h, _ => by
    rw [List.length_eq_zero_iff.1 h]
    refine ⟨g.map fun s => [s], ?_, fun b hb => ?_, by rw [List.length_map]; exact Nat.le_refl _⟩
    · have e : ∀ l : List Nat, (l.map fun s => [s]).flatten = l := fun l => by
        induction l with
        | nil => rfl
        | cons s l ih => rw [List.map_cons, List.flatten_cons, ih]; rfl
      rw [e]
    · obtain ⟨s, _, rfl⟩ := List.mem_map.1 hb
      exact ⟨by simp, rfl⟩
  | k + 1, xs, h, hx => by
    obtain ⟨ys, x, rfl⟩ : ∃ l b, xs = l ++ [b] := ⟨xs.dropLast, xs.getLast (by intro z; rw [z] at h; cases h), (List.dropLast_concat_getLast _).symm⟩
    rw [List.length_append, List.length_singleton] at h
    obtain ⟨bs, hp, hb, hl⟩ := blocks hn hg k ys (by omega) fun y hy => hx y (List.mem_append_left _ hy)
    obtain ⟨h1, h2, h3⟩ := hx x (List.mem_append_right _ (List.mem_singleton_self _))
    obtain ⟨i, t, c⟩ := x
    rw [giveAll_snoc]
    have hr := giveAll_len ys ds
    generalize giveAll ds ys = r at *
    have hi : i < r.length := by rw [hr]; exact hg i h1
    have ht : t < r.length := by rw [hr]; exact hg t h2
    have hnf : bs.flatten.Nodup := hp.nodup_iff.2 hn
    obtain ⟨b1, hb1, hib⟩ := List.mem_flatten.1 (hp.mem_iff.2 h1)
    have p1 := List.perm_cons_erase hb1
    have hf1 : (b1 ++ (bs.erase b1).flatten).Perm bs.flatten := by
      have := p1.flatten
      rw [List.flatten_cons] at this
      exact this.symm
    have hn1 : (b1 ++ (bs.erase b1).flatten).Nodup := hf1.nodup_iff.2 hnf
    obtain ⟨nb1, nrest, disj⟩ := List.nodup_append.1 hn1
    have hel : (bs.erase b1).length + 1 = bs.length := by
      have := p1.length_eq
      rw [List.length_cons] at this
      exact this.symm
    have hmem : ∀ b ∈ bs.erase b1, b ≠ [] ∧ sumOf r b = sumOf ds b := fun b z => hb b (List.mem_of_mem_erase z)
    by_cases htb : t ∈ b1
    · refine ⟨b1 :: bs.erase b1, ?_, fun b hb2 => ?_, ?_⟩
      · rw [List.flatten_cons]
        exact hf1.trans hp
      · rcases List.mem_cons.1 hb2 with e | e
        · rw [e]
          exact ⟨(hb b1 hb1).1, by rw [sumOf_both hi ht h3 nb1 hib htb]; exact (hb b1 hb1).2⟩
        · refine ⟨(hmem b e).1, ?_⟩
          have inf : ∀ s ∈ b, s ∈ (bs.erase b1).flatten := fun s hs => List.mem_flatten.2 ⟨b, e, hs⟩
          rw [sumOf_out hi ht h3 (fun z => disj i hib i (inf i z) rfl) (fun z => disj t htb t (inf t z) rfl)]
          exact (hmem b e).2
      · rw [List.length_cons, List.length_append, List.length_singleton]
        omega
    · have ht2 : t ∈ (bs.erase b1).flatten := by
        have := hf1.mem_iff.2 (hp.mem_iff.2 h2)
        rcases List.mem_append.1 this with z | z
        · exact absurd z htb
        · exact z
      obtain ⟨b2, hb2, htb2⟩ := List.mem_flatten.1 ht2
      have p2 := List.perm_cons_erase hb2
      have hf2 : (b2 ++ ((bs.erase b1).erase b2).flatten).Perm (bs.erase b1).flatten := by
        have := p2.flatten
        rw [List.flatten_cons] at this
        exact this.symm
      obtain ⟨nb2, nrest2, disj2⟩ := List.nodup_append.1 (hf2.nodup_iff.2 nrest)
      have hel2 : ((bs.erase b1).erase b2).length + 1 = (bs.erase b1).length := by
        have := p2.length_eq
        rw [List.length_cons] at this
        exact this.symm
      have hi2 : i ∉ b2 := fun z => disj i hib i (List.mem_flatten.2 ⟨b2, hb2, z⟩) rfl
      refine ⟨(b1 ++ b2) :: (bs.erase b1).erase b2, ?_, fun b hb3 => ?_, ?_⟩
      · rw [List.flatten_cons, List.append_assoc]
        exact ((hf2.append_left b1).trans hf1).trans hp
      · rcases List.mem_cons.1 hb3 with e | e
        · rw [e]
          refine ⟨by intro z; exact (hb b1 hb1).1 (List.append_eq_nil_iff.1 z).1, ?_⟩
          rw [sumOf_app, sumOf_app, sumOf_one hi ht h3 nb1 hib htb, sumOf_two hi ht h3 nb2 hi2 htb2, (hb b1 hb1).2, (hmem b2 hb2).2]
          omega
        · have e' := List.mem_of_mem_erase e
          refine ⟨(hmem b e').1, ?_⟩
          have inf : ∀ s ∈ b, s ∈ (bs.erase b1).flatten := fun s hs => List.mem_flatten.2 ⟨b, e', hs⟩
          have inf2 : ∀ s ∈ b, s ∈ ((bs.erase b1).erase b2).flatten := fun s hs => List.mem_flatten.2 ⟨b, e, hs⟩
          rw [sumOf_out hi ht h3 (fun z => disj i hib i (inf i z) rfl) (fun z => disj2 t htb2 t (inf2 t z) rfl)]
          exact (hmem b e').2
      · rw [List.length_cons, List.length_append, List.length_singleton]
        omega
end

end Odd

namespace Odd
open PySem PySem.Spec PyProof.Rows L2
/-! tactics of this text: st one step, go as many as go -/
local macro_rules | `(tactic| walk_at "ar") => `(tactic| first | assumption | omega | (show (_ : Int) < _; omega) | decide)
local macro_rules | `(tactic| walk_at "st") => `(tactic| first
  | with_reducible refine' w_seq ?_
  | with_reducible refine' w_asg ?_
  | with_reducible refine' w_name ?_
  | with_reducible refine' w_c ?_
  | with_reducible refine' w_op ?_
  | with_reducible refine' w_ix ?_
  | with_reducible refine' w_at ?_
  | with_reducible refine' w_cons ?_
  | with_reducible refine' w_nil ?_
  | with_reducible refine' w_ret ?_
  | with_reducible refine' w_if ?_
  | with_reducible refine' w_test ?_
  | with_reducible refine' w_tr ?_
  | with_reducible refine' w_un ?_
  | with_reducible refine' w_andV ?_
  | with_reducible refine' w_orV ?_
  | with_reducible refine' w_notA ?_
  | with_reducible refine' w_ch ?_
  | with_reducible refine' w_and ?_
  | with_reducible refine' w_or ?_
  | with_reducible refine' w_not ?_
  | with_reducible refine' w_ifx ?_
  | with_reducible refine' w_tup ?_
  | with_reducible refine' w_lst ?_
  | with_reducible refine' w_next ?_
  | with_reducible refine' w_drop ?_
  | with_reducible refine' w_retN ?_
  | ((with_reducible refine' w_var ?h ?_); (case h => exact rfl))
  | ((with_reducible refine' w_bi ?h ?_); (case h => walk_at "mg"))
  | ((with_reducible refine' w_bv ?h ?_); (case h => walk_at "mg"))
  | ((with_reducible refine' w_gv ?h ?_); (case h => walk_at "mg"))
  | ((with_reducible refine' w_gl ?h ?k ?_); (case h => walk_at "mg"); (case k => walk_at "kp"))
  | ((with_reducible refine' w_glS ?h ?k ?_); (case h => walk_at "mg"); (case k => walk_at "kp"))
  | with_reducible refine' bl_ex ?_
  | with_reducible refine' iteT ?_
  | with_reducible refine' iteF ?_
  | with_reducible refine' ite_nf ?_
  | with_reducible refine' ite_nt ?_
  | with_reducible refine' s_add ?_
  | with_reducible refine' s_sub ?_
  | with_reducible refine' s_lt ?_
  | with_reducible refine' s_le ?_
  | with_reducible refine' s_gt ?_
  | with_reducible refine' s_ge ?_
  | with_reducible refine' s_eqI ?_
  | with_reducible refine' s_neI ?_
  | with_reducible refine' s_eqB ?_
  | with_reducible refine' s_neB ?_
  | with_reducible refine' s_truB ?_
  | with_reducible refine' s_truI ?_
  | with_reducible refine' s_neg ?_
  | ((with_reducible refine' s_mod ?h ?_); (case h => walk_at "ar")))
local macro_rules | `(tactic| walk_at "go") => `(tactic| repeat walk_at "st")

local macro_rules | `(tactic| walk_at "mg") => `(tactic| first | assumption | exact Facts.z_TypeError (by assumption) | exact Facts.z_ValueError (by assumption) | exact Facts.z_abs (by assumption) | exact Facts.z_all (by assumption) | exact Facts.z_bool (by assumption) | exact Facts.z_classmethod (by assumption) | exact Facts.z_enumerate (by assumption) | exact Facts.z_int (by assumption) | exact Facts.z_isinstance (by assumption) | exact Facts.z_len (by assumption) | exact Facts.z_list (by assumption) | exact Facts.z_max (by assumption) | exact Facts.z_min (by assumption) | exact Facts.z_property (by assumption) | exact Facts.z_range (by assumption) | exact Facts.z_sorted (by assumption) | exact Facts.z_str (by assumption) | exact Facts.z_sum (by assumption) | exact Facts.z_super (by assumption) | exact Facts.z_tuple (by assumption) | exact Facts.z_zip (by assumption) | exact Facts.g__wall (by assumption) | exact Facts.g_is_between (by assumption) | exact Facts.g_check_seat (by assumption) | exact Facts.g_seats_of (by assumption) | exact Facts.g_check_payment (by assumption) | exact Facts.g_balance_after (by assumption) | exact Facts.g_check_balance (by assumption) | exact Facts.g_sums_of_sets (by assumption) | exact Facts.g_number_of_groups (by assumption) | exact Facts.g_parted (by assumption) | exact Facts.g_payments_within (by assumption) | exact Facts.g_payments (by assumption) | exact Facts.g_fewest_payments (by assumption) | exact Facts.g_check_amount (by assumption) | exact Facts.g_check_seats (by assumption) | exact Facts.g_check_seat_count (by assumption) | exact Facts.g_check_mark (by assumption) | exact Facts.g_no_shares (by assumption) | exact Facts.g__law_random (by assumption) | exact Facts.g__law_below (by assumption) | exact Facts.g__law_shuffled (by assumption) | exact Facts.g__law_balance (by assumption) | exact Facts.g__law_shares (by assumption) | exact Facts.g__law_equal (by assumption) | exact Facts.g__law_error_of (by assumption) | exact Facts.g__law_all_raise (by assumption) | exact Facts.g_law (by assumption) | exact Facts.g_Shares (by assumption) | exact Facts.g_Bill (by assumption) | exact Facts.g_Page (by assumption) | exact Facts.g_Ledger (by assumption) | exact Facts.eg_InvalidBill (by assumption) | exact Facts.eg_InvalidEvening (by assumption) | exact Facts.eg_InvalidOperation (by assumption) | exact Facts.eg_InvalidMark (by assumption) | exact Facts.eg_UnknownSeat (by assumption) | exact Facts.eg_InvalidNumber (by assumption) | exact Facts.eg_NotBalanced (by assumption) | exact Facts.eg_EmptyGroup (by assumption) | exact Facts.eg_InvalidText (by assumption) | exact Facts.eg_InvalidReceipt (by assumption) | exact Facts.eg_DecodeError (by assumption))
local macro_rules | `(tactic| walk_at "kp") => `(tactic| first | assumption | exact (Facts.mk_Shares (by assumption)).kp | exact (Facts.mk_Bill (by assumption)).kp | exact (Facts.mk_Page (by assumption)).kp | exact (Facts.mk_Ledger (by assumption)).kp | exact Fun.kp (Facts.u__wall (by assumption)).choose_spec | exact Fun.kp (Facts.u_is_between (by assumption)).choose_spec | exact Fun.kp (Facts.u_check_seat (by assumption)).choose_spec | exact Fun.kp (Facts.u_seats_of (by assumption)).choose_spec | exact Fun.kp (Facts.u_check_payment (by assumption)).choose_spec | exact Fun.kp (Facts.u_balance_after (by assumption)).choose_spec | exact Fun.kp (Facts.u_check_balance (by assumption)).choose_spec | exact Fun.kp (Facts.u_sums_of_sets (by assumption)).choose_spec | exact Fun.kp (Facts.u_number_of_groups (by assumption)).choose_spec | exact Fun.kp (Facts.u_parted (by assumption)).choose_spec | exact Fun.kp (Facts.u_payments_within (by assumption)).choose_spec | exact Fun.kp (Facts.u_payments (by assumption)).choose_spec | exact Fun.kp (Facts.u_fewest_payments (by assumption)).choose_spec | exact Fun.kp (Facts.u_check_amount (by assumption)).choose_spec | exact Fun.kp (Facts.u_check_seats (by assumption)).choose_spec | exact Fun.kp (Facts.u_check_seat_count (by assumption)).choose_spec | exact Fun.kp (Facts.u_check_mark (by assumption)).choose_spec | exact Fun.kp (Facts.u_no_shares (by assumption)).choose_spec | exact Fun.kp (Facts.u__law_random (by assumption)).choose_spec | exact Fun.kp (Facts.u__law_below (by assumption)).choose_spec | exact Fun.kp (Facts.u__law_shuffled (by assumption)).choose_spec | exact Fun.kp (Facts.u__law_balance (by assumption)).choose_spec | exact Fun.kp (Facts.u__law_shares (by assumption)).choose_spec | exact Fun.kp (Facts.u__law_equal (by assumption)).choose_spec | exact Fun.kp (Facts.u__law_error_of (by assumption)).choose_spec | exact Fun.kp (Facts.u__law_all_raise (by assumption)).choose_spec | exact Fun.kp (Facts.u_law (by assumption)).choose_spec)
section
/-- how many seats of a group are not settled -/
def openN (r : List Int) (g : List Nat) : Nat := (g.filter fun s => decide (dueAt r s ≠ 0)).length
theorem filt_lt {p p' : Nat → Bool} : ∀ {l : List Nat}, (∀ s ∈ l, p' s = true → p s = true) → (∃ z ∈ l, p z = true ∧ p' z = false) → (l.filter p').length + 1 ≤ (l.filter p).length
  | [], _, ⟨z, h, _⟩ => by simp at h
  | x :: l, h, ⟨z, hz, h1, h2⟩ => by
    have hle : ∀ {m : List Nat}, (∀ s ∈ m, p' s = true → p s = true) → (m.filter p').length ≤ (m.filter p).length := fun {m} hm => by
      induction m with
      | nil => exact Nat.le_refl _
      | cons y m ih =>
        have := ih fun s hs => hm s (List.mem_cons_of_mem _ hs)
        have hy := hm y (List.mem_cons_self ..)
        simp only [List.filter_cons]
        cases e : p' y with
        | false => cases p y <;> simp <;> omega
        | true => rw [hy e]; simp; omega
    have hx := h x (List.mem_cons_self ..)
    have ht : ∀ s ∈ l, p' s = true → p s = true := fun s hs => h s (List.mem_cons_of_mem _ hs)
    simp only [List.filter_cons]
    rcases List.mem_cons.1 hz with e | e
    · subst e
      rw [h1, h2]
      have := hle ht
      simp
      omega
    · have ih := filt_lt ht ⟨z, e, h1, h2⟩
      cases e2 : p' x with
      | false => cases p x <;> simp <;> omega
      | true => rw [hx e2]; simp; omega
theorem two_in {p : Nat → Bool} {l : List Nat} {i t : Nat} (hi : i ∈ l) (ht : t ∈ l) (hne : i ≠ t) (h1 : p i = true) (h2 : p t = true) : 2 ≤ (l.filter p).length := by
  have m1 : i ∈ l.filter p := List.mem_filter.2 ⟨hi, h1⟩
  have m2 : t ∈ l.filter p := List.mem_filter.2 ⟨ht, h2⟩
  generalize l.filter p = m at *
  match m, m1, m2 with
  | [], m1, _ => simp at m1
  | [x], m1, m2 => simp at m1 m2; omega
  | _ :: _ :: m, _, _ => simp
structure PInv (M : Int) (ds : List Int) (g tk : List Nat) (st : PSt) : Prop where
  len : st.2.length = ds.length
  all : giveAll ds st.1 = st.2
  pays : ∀ x ∈ st.1, x.1 ∈ g ∧ x.2.1 ∈ g ∧ x.1 ≠ x.2.1 ∧ 1 ≤ x.2.2 ∧ x.2.2 ≤ M
  tks : ∀ s ∈ g, s ∈ tk → 0 ≤ dueAt st.2 s ∧ dueAt st.2 s ≤ dueAt ds s
  oth : ∀ s ∈ g, s ∉ tk → dueAt st.2 s ≤ 0
  sum : sumOf st.2 g = sumOf ds g
  out : ∀ s, s ∉ g → dueAt st.2 s = dueAt ds s
  cnt : st.1.length + openN st.2 g ≤ g.length
  cn1 : st.1.length + 1 ≤ g.length
theorem step_inv {M : Int} {ds : List Int} {g tk : List Nat} {st : PSt} (hn : g.Nodup) (hg : ∀ s ∈ g, s < ds.length) (hM : ∀ s ∈ g, dueAt ds s ≤ M) (I : PInv M ds g tk st) {i t : Nat} (hi : i ∈ g) (htk : t ∈ tk) (ht : t ∈ g) :
    PInv M ds g tk (stepT i st t) ∧ (∀ s ∈ g, dueAt st.2 s = 0 → dueAt (stepT i st t).2 s = 0) ∧ (i ∉ tk → dueAt (stepT i st t).2 i = 0 ∨ dueAt (stepT i st t).2 t = 0) := by
  have it := I.tks t ht htk
  have hst : stepT i st t = if centsV st.2 i t > 0 then (st.1 ++ [(i, t, centsV st.2 i t)], give1 st.2 (i, t, centsV st.2 i t)) else st := rfl
  have hcv : centsV st.2 i t = if dueAt st.2 t < -dueAt st.2 i then dueAt st.2 t else -dueAt st.2 i := rfl
  by_cases hc : centsV st.2 i t > 0
  · rw [if_pos hc] at hst
    generalize centsV st.2 i t = c at *
    have hri : dueAt st.2 i < 0 := by split at hcv <;> omega
    have hrt : 0 < dueAt st.2 t := by split at hcv <;> omega
    have hitk : i ∉ tk := fun z => by have := I.tks i hi z; omega
    have hne : i ≠ t := fun z => by rw [z] at hri; omega
    have li : i < st.2.length := by rw [I.len]; exact hg i hi
    have lt : t < st.2.length := by rw [I.len]; exact hg t ht
    have at' := give_at (c := c) li lt hne
    have c1 : c ≤ dueAt st.2 t := by split at hcv <;> omega
    have c2 : c ≤ -dueAt st.2 i := by split at hcv <;> omega
    have c3 : c = dueAt st.2 t ∨ c = -dueAt st.2 i := by split at hcv <;> omega
    have per : ∀ s ∈ g, dueAt st.2 s = 0 → dueAt (give1 st.2 (i, t, c)) s = 0 := fun s _ h0 => by
      rw [at']
      have a1 : s ≠ t := fun z => by rw [z] at h0; omega
      have a2 : s ≠ i := fun z => by rw [z] at h0; omega
      rw [if_neg a1, if_neg a2, h0]
    have open' : openN (give1 st.2 (i, t, c)) g + 1 ≤ openN st.2 g := by
      refine filt_lt (fun s hs h1 => ?_) ?_
      · rw [decide_eq_true_eq] at h1 ⊢
        exact fun z => h1 (per s hs z)
      · rcases c3 with e | e
        · refine ⟨t, ht, decide_eq_true (by omega), decide_eq_false ?_⟩
          rw [at', if_pos rfl]
          omega
        · refine ⟨i, hi, decide_eq_true (by omega), decide_eq_false ?_⟩
          rw [at', if_neg hne, if_pos rfl]
          omega
    have two : 2 ≤ openN st.2 g := two_in hi ht hne (decide_eq_true (by omega)) (decide_eq_true (by omega))
    have i1 := I.cnt
    rw [hst]
    refine ⟨⟨?_, ?_, ?_, ?_, ?_, ?_, ?_, ?_, ?_⟩, per, fun _ => ?_⟩
    · show (give1 st.2 (i, t, c)).length = _
      rw [give1_len, I.len]
    · show giveAll ds (st.1 ++ [(i, t, c)]) = _
      rw [giveAll_snoc, I.all]
    · intro x hx
      rcases List.mem_append.1 hx with z | z
      · exact I.pays x z
      · rw [List.mem_singleton.1 z]
        refine ⟨hi, ht, hne, by show 1 ≤ c; omega, ?_⟩
        show c ≤ M
        have := hM t ht
        omega
    · intro s hs hk
      show 0 ≤ dueAt (give1 st.2 (i, t, c)) s ∧ dueAt (give1 st.2 (i, t, c)) s ≤ _
      have := I.tks s hs hk
      rw [at']
      by_cases a1 : s = t
      · subst a1
        rw [if_pos rfl]
        omega
      · have a2 : s ≠ i := fun z => hitk (z ▸ hk)
        rw [if_neg a1, if_neg a2]
        exact this
    · intro s hs hk
      show dueAt (give1 st.2 (i, t, c)) s ≤ 0
      have := I.oth s hs hk
      rw [at']
      have a1 : s ≠ t := fun z => hk (by rw [z]; exact htk)
      rw [if_neg a1]
      by_cases a2 : s = i
      · subst a2
        rw [if_pos rfl]
        omega
      · rw [if_neg a2]
        exact this
    · show sumOf (give1 st.2 (i, t, c)) g = _
      rw [sumOf_both li lt hne hn hi ht]
      exact I.sum
    · intro s hs
      show dueAt (give1 st.2 (i, t, c)) s = _
      have a1 : s ≠ t := fun z => hs (by rw [z]; exact ht)
      have a2 : s ≠ i := fun z => hs (by rw [z]; exact hi)
      rw [at', if_neg a1, if_neg a2]
      exact I.out s hs
    · show (st.1 ++ [(i, t, c)]).length + openN (give1 st.2 (i, t, c)) g ≤ _
      rw [List.length_append, List.length_singleton]
      omega
    · show (st.1 ++ [(i, t, c)]).length + 1 ≤ _
      rw [List.length_append, List.length_singleton]
      omega
    · show dueAt (give1 st.2 (i, t, c)) i = 0 ∨ dueAt (give1 st.2 (i, t, c)) t = 0
      rw [at', at', if_pos rfl, if_neg hne, if_pos rfl]
      omega
  · rw [if_neg hc] at hst
    rw [hst]
    refine ⟨I, fun _ _ h => h, fun hik => ?_⟩
    have := I.oth i hi hik
    rw [hcv] at hc
    split at hc <;> omega
theorem inner_inv {M : Int} {ds : List Int} {g tk : List Nat} (hn : g.Nodup) (hg : ∀ s ∈ g, s < ds.length) (hM : ∀ s ∈ g, dueAt ds s ≤ M) {i : Nat} (hi : i ∈ g) : ∀ (ts : List Nat) (st : PSt), (∀ t ∈ ts, t ∈ tk ∧ t ∈ g) → PInv M ds g tk st →
    PInv M ds g tk (innerF i ts st) ∧ (∀ s ∈ g, dueAt st.2 s = 0 → dueAt (innerF i ts st).2 s = 0) ∧ (i ∉ tk → dueAt (innerF i ts st).2 i = 0 ∨ ∀ t ∈ ts, dueAt (innerF i ts st).2 t = 0)
  | [], st, _, I => ⟨I, fun _ _ h => h, fun _ => .inr fun t h => by simp at h⟩
  | t :: ts, st, hts, I => by
    obtain ⟨k1, k2⟩ := hts t (List.mem_cons_self ..)
    obtain ⟨I1, p1, z1⟩ := step_inv hn hg hM I hi k1 k2
    obtain ⟨I2, p2, z2⟩ := inner_inv hn hg hM hi ts (stepT i st t) (fun x hx => hts x (List.mem_cons_of_mem _ hx)) I1
    refine ⟨I2, fun s hs h => p2 s hs (p1 s hs h), fun hk => ?_⟩
    show dueAt (innerF i ts (stepT i st t)).2 i = 0 ∨ ∀ x ∈ t :: ts, dueAt (innerF i ts (stepT i st t)).2 x = 0
    rcases z1 hk with a | a
    · exact .inl (p2 i hi a)
    · rcases z2 hk with b | b
      · exact .inl b
      · refine .inr fun x hx => ?_
        rcases List.mem_cons.1 hx with e | e
        · rw [e]; exact p2 t k2 a
        · exact b x e
theorem outer_inv {M : Int} {ds : List Int} {g tk : List Nat} (hn : g.Nodup) (hg : ∀ s ∈ g, s < ds.length) (hM : ∀ s ∈ g, dueAt ds s ≤ M) (htk : ∀ t ∈ tk, t ∈ g) : ∀ (gs : List Nat) (st : PSt), (∀ t ∈ gs, t ∈ g) → PInv M ds g tk st →
    PInv M ds g tk (outerF tk gs st) ∧ (∀ s ∈ g, dueAt st.2 s = 0 → dueAt (outerF tk gs st).2 s = 0) ∧ ((∀ s ∈ gs, s ∉ tk → dueAt (outerF tk gs st).2 s = 0) ∨ ∀ t ∈ tk, dueAt (outerF tk gs st).2 t = 0)
  | [], st, _, I => ⟨I, fun _ _ h => h, .inl fun t h => by simp at h⟩
  | i :: gs, st, hgs, I => by
    have hi := hgs i (List.mem_cons_self ..)
    obtain ⟨I1, p1, z1⟩ := inner_inv hn hg hM hi tk st (fun t h => ⟨h, htk t h⟩) I
    obtain ⟨I2, p2, z2⟩ := outer_inv hn hg hM htk gs (innerF i tk st) (fun x hx => hgs x (List.mem_cons_of_mem _ hx)) I1
    refine ⟨I2, fun s hs h => p2 s hs (p1 s hs h), ?_⟩
    show (∀ s ∈ i :: gs, s ∉ tk → dueAt (outerF tk gs (innerF i tk st)).2 s = 0) ∨ ∀ t ∈ tk, dueAt (outerF tk gs (innerF i tk st)).2 t = 0
    by_cases hk : i ∈ tk
    · rcases z2 with a | a
      · refine .inl fun s hs hk2 => ?_
        rcases List.mem_cons.1 hs with e | e
        · rw [e] at hk2; exact absurd hk hk2
        · exact a s e hk2
      · exact .inr a
    · rcases z1 hk with b | b
      · rcases z2 with a | a
        · refine .inl fun s hs hk2 => ?_
          rcases List.mem_cons.1 hs with e | e
          · rw [e]; exact p2 i hi b
          · exact a s e hk2
        · exact .inr a
      · exact .inr fun t ht => p2 t (htk t ht) (b t ht)
theorem all_zero {r : List Int} : ∀ {l : List Nat}, (∀ s ∈ l, 0 ≤ dueAt r s) → sumOf r l = 0 → ∀ s ∈ l, dueAt r s = 0
  | [], _, _, s, h => by simp at h
  | x :: l, h, e, s, hs => by
    rw [sumOf_cons] at e
    have h0 := h x (List.mem_cons_self ..)
    have hp : ∀ {m : List Nat}, (∀ s ∈ m, 0 ≤ dueAt r s) → 0 ≤ sumOf r m := fun {m} hm => by
      induction m with
      | nil => exact Int.le_refl _
      | cons y m ih =>
        have := ih fun s hs => hm s (List.mem_cons_of_mem _ hs)
        have := hm y (List.mem_cons_self ..)
        rw [sumOf_cons]
        omega
    have h1 := hp fun s hs => h s (List.mem_cons_of_mem _ hs)
    rcases List.mem_cons.1 hs with z | z
    · rw [z]; omega
    · exact all_zero (fun s hs => h s (List.mem_cons_of_mem _ hs)) (by omega) s z
theorem all_zero' {r : List Int} : ∀ {l : List Nat}, (∀ s ∈ l, dueAt r s ≤ 0) → sumOf r l = 0 → ∀ s ∈ l, dueAt r s = 0
  | [], _, _, s, h => by simp at h
  | x :: l, h, e, s, hs => by
    rw [sumOf_cons] at e
    have h0 := h x (List.mem_cons_self ..)
    have hp : ∀ {m : List Nat}, (∀ s ∈ m, dueAt r s ≤ 0) → sumOf r m ≤ 0 := fun {m} hm => by
      induction m with
      | nil => exact Int.le_refl _
      | cons y m ih =>
        have := ih fun s hs => hm s (List.mem_cons_of_mem _ hs)
        have := hm y (List.mem_cons_self ..)
        rw [sumOf_cons]
        omega
    have h1 := hp fun s hs => h s (List.mem_cons_of_mem _ hs)
    rcases List.mem_cons.1 hs with z | z
    · rw [z]; omega
    · exact all_zero' (fun s hs => h s (List.mem_cons_of_mem _ hs)) (by omega) s z
/-- a group that comes to nothing is settled by its payments; so many are made as there are seats, less one -/
theorem within_ok {M : Int} {ds : List Int} {g : List Nat} (hn : g.Nodup) (hne : g ≠ []) (hg : ∀ s ∈ g, s < ds.length) (hM : ∀ s ∈ g, dueAt ds s ≤ M) (h0 : sumOf ds g = 0) :
    (∀ x ∈ withinV ds g, x.1 ∈ g ∧ x.2.1 ∈ g ∧ x.1 ≠ x.2.1 ∧ 1 ≤ x.2.2 ∧ x.2.2 ≤ M) ∧ (∀ s ∈ g, dueAt (giveAll ds (withinV ds g)) s = 0) ∧ (∀ s, s ∉ g → dueAt (giveAll ds (withinV ds g)) s = dueAt ds s) ∧ (withinV ds g).length + 1 ≤ g.length := by
  have hl : 1 ≤ g.length := List.length_pos_iff.2 hne
  have htk : ∀ t ∈ takersV ds g, t ∈ g := fun t h => (List.mem_filter.1 h).1
  have I0 : PInv M ds g (takersV ds g) ([], ds) := ⟨rfl, rfl, fun x h => by simp at h, fun s _ h => by
      have := of_decide_eq_true (List.mem_filter.1 h).2
      exact ⟨by show 0 ≤ dueAt ds s; omega, Int.le_refl _⟩, fun s hs h => by
      show dueAt ds s ≤ 0
      have : ¬ dueAt ds s > 0 := fun z => h (List.mem_filter.2 ⟨hs, decide_eq_true z⟩)
      omega, rfl, fun _ _ => rfl, by
      show 0 + (g.filter fun s => decide (dueAt ds s ≠ 0)).length ≤ _
      have := List.length_filter_le (fun s => decide (dueAt ds s ≠ 0)) g
      omega, by show 0 + 1 ≤ _; omega⟩
  obtain ⟨I, _, z⟩ := outer_inv hn hg hM htk g ([], ds) (fun _ h => h) I0
  have e : giveAll ds (withinV ds g) = (outerF (takersV ds g) g ([], ds)).2 := I.all
  rw [e]
  refine ⟨I.pays, ?_, I.out, I.cn1⟩
  have hs0 : sumOf (outerF (takersV ds g) g ([], ds)).2 g = 0 := by rw [I.sum, h0]
  rcases z with a | a
  · refine all_zero (fun s hs => ?_) hs0
    by_cases hk : s ∈ takersV ds g
    · exact (I.tks s hs hk).1
    · rw [a s hs hk]; exact Int.le_refl _
  · refine all_zero' (fun s hs => ?_) hs0
    by_cases hk : s ∈ takersV ds g
    · rw [a s hk]; exact Int.le_refl _
    · exact I.oth s hs hk
/-- no fewer, where no smaller group comes to nothing -/
theorem within_count {ds : List Int} {g : List Nat} (hn : g.Nodup) (hne : g ≠ []) (hg : ∀ s ∈ g, s < ds.length) (hmin : ∀ A C : List Nat, (A ++ C).Perm g → A ≠ [] → C ≠ [] → sumOf ds A ≠ 0) (h0 : sumOf ds g = 0) : (withinV ds g).length + 1 = g.length := by
  have hb : ∃ M : Int, ∀ s ∈ g, dueAt ds s ≤ M := by
    clear hn hne hg hmin h0
    induction g with
    | nil => exact ⟨0, fun s h => by simp at h⟩
    | cons x g ih =>
      obtain ⟨M, h⟩ := ih
      refine ⟨max M (dueAt ds x), fun s hs => ?_⟩
      rcases List.mem_cons.1 hs with z | z
      · rw [z]; omega
      · have := h s z; omega
  obtain ⟨M, hM⟩ := hb
  obtain ⟨w1, w2, w3, w4⟩ := within_ok hn hne hg hM h0
  refine Nat.le_antisymm w4 ?_
  rcases Nat.lt_or_ge ((withinV ds g).length + 1) g.length with hlt | hge
  · exfalso
    obtain ⟨bs, hp, hb, hl⟩ := blocks hn hg _ (withinV ds g) rfl fun x hx => ⟨(w1 x hx).1, (w1 x hx).2.1, (w1 x hx).2.2.1⟩
    match bs, hl with
    | [], hl => simp at hl; omega
    | [b], hl => simp at hl; omega
    | b :: c :: bs, _ =>
      have hb1 := hb b (List.mem_cons_self ..)
      have hc1 := hb c (List.mem_cons_of_mem _ (List.mem_cons_self ..))
      rw [List.flatten_cons] at hp
      refine hmin b (c :: bs).flatten hp hb1.1 (by rw [List.flatten_cons]; intro z; exact hc1.1 (List.append_eq_nil_iff.1 z).1) ?_
      rw [← hb1.2]
      have : ∀ s ∈ b, dueAt (giveAll ds (withinV ds g)) s = 0 := fun s hs => w2 s (hp.mem_iff.1 (List.mem_append_left _ hs))
      have z : ∀ {m : List Nat}, (∀ s ∈ m, dueAt (giveAll ds (withinV ds g)) s = 0) → sumOf (giveAll ds (withinV ds g)) m = 0 := fun {m} hm => by
        induction m with
        | nil => rfl
        | cons y m ih => rw [sumOf_cons, hm y (List.mem_cons_self ..), ih fun s hs => hm s (List.mem_cons_of_mem _ hs)]; rfl
      exact z this
  · exact hge
end

end Odd

namespace Odd
open PySem PySem.Spec PyProof.Rows L2
/-! tactics of this text: st one step, go as many as go -/
local macro_rules | `(tactic| walk_at "ar") => `(tactic| first | assumption | omega | (show (_ : Int) < _; omega) | decide)
local macro_rules | `(tactic| walk_at "st") => `(tactic| first
  | with_reducible refine' w_seq ?_
  | with_reducible refine' w_asg ?_
  | with_reducible refine' w_name ?_
  | with_reducible refine' w_c ?_
  | with_reducible refine' w_op ?_
  | with_reducible refine' w_ix ?_
  | with_reducible refine' w_at ?_
  | with_reducible refine' w_cons ?_
  | with_reducible refine' w_nil ?_
  | with_reducible refine' w_ret ?_
  | with_reducible refine' w_if ?_
  | with_reducible refine' w_test ?_
  | with_reducible refine' w_tr ?_
  | with_reducible refine' w_un ?_
  | with_reducible refine' w_andV ?_
  | with_reducible refine' w_orV ?_
  | with_reducible refine' w_notA ?_
  | with_reducible refine' w_ch ?_
  | with_reducible refine' w_and ?_
  | with_reducible refine' w_or ?_
  | with_reducible refine' w_not ?_
  | with_reducible refine' w_ifx ?_
  | with_reducible refine' w_tup ?_
  | with_reducible refine' w_lst ?_
  | with_reducible refine' w_next ?_
  | with_reducible refine' w_drop ?_
  | with_reducible refine' w_retN ?_
  | ((with_reducible refine' w_var ?h ?_); (case h => exact rfl))
  | ((with_reducible refine' w_bi ?h ?_); (case h => walk_at "mg"))
  | ((with_reducible refine' w_bv ?h ?_); (case h => walk_at "mg"))
  | ((with_reducible refine' w_gv ?h ?_); (case h => walk_at "mg"))
  | ((with_reducible refine' w_gl ?h ?k ?_); (case h => walk_at "mg"); (case k => walk_at "kp"))
  | ((with_reducible refine' w_glS ?h ?k ?_); (case h => walk_at "mg"); (case k => walk_at "kp"))
  | with_reducible refine' bl_ex ?_
  | with_reducible refine' iteT ?_
  | with_reducible refine' iteF ?_
  | with_reducible refine' ite_nf ?_
  | with_reducible refine' ite_nt ?_
  | with_reducible refine' s_add ?_
  | with_reducible refine' s_sub ?_
  | with_reducible refine' s_lt ?_
  | with_reducible refine' s_le ?_
  | with_reducible refine' s_gt ?_
  | with_reducible refine' s_ge ?_
  | with_reducible refine' s_eqI ?_
  | with_reducible refine' s_neI ?_
  | with_reducible refine' s_eqB ?_
  | with_reducible refine' s_neB ?_
  | with_reducible refine' s_truB ?_
  | with_reducible refine' s_truI ?_
  | with_reducible refine' s_neg ?_
  | ((with_reducible refine' s_mod ?h ?_); (case h => walk_at "ar")))
local macro_rules | `(tactic| walk_at "go") => `(tactic| repeat walk_at "st")

local macro_rules | `(tactic| walk_at "mg") => `(tactic| first | assumption | exact Facts.z_TypeError (by assumption) | exact Facts.z_ValueError (by assumption) | exact Facts.z_abs (by assumption) | exact Facts.z_all (by assumption) | exact Facts.z_bool (by assumption) | exact Facts.z_classmethod (by assumption) | exact Facts.z_enumerate (by assumption) | exact Facts.z_int (by assumption) | exact Facts.z_isinstance (by assumption) | exact Facts.z_len (by assumption) | exact Facts.z_list (by assumption) | exact Facts.z_max (by assumption) | exact Facts.z_min (by assumption) | exact Facts.z_property (by assumption) | exact Facts.z_range (by assumption) | exact Facts.z_sorted (by assumption) | exact Facts.z_str (by assumption) | exact Facts.z_sum (by assumption) | exact Facts.z_super (by assumption) | exact Facts.z_tuple (by assumption) | exact Facts.z_zip (by assumption) | exact Facts.g__wall (by assumption) | exact Facts.g_is_between (by assumption) | exact Facts.g_check_seat (by assumption) | exact Facts.g_seats_of (by assumption) | exact Facts.g_check_payment (by assumption) | exact Facts.g_balance_after (by assumption) | exact Facts.g_check_balance (by assumption) | exact Facts.g_sums_of_sets (by assumption) | exact Facts.g_number_of_groups (by assumption) | exact Facts.g_parted (by assumption) | exact Facts.g_payments_within (by assumption) | exact Facts.g_payments (by assumption) | exact Facts.g_fewest_payments (by assumption) | exact Facts.g_check_amount (by assumption) | exact Facts.g_check_seats (by assumption) | exact Facts.g_check_seat_count (by assumption) | exact Facts.g_check_mark (by assumption) | exact Facts.g_no_shares (by assumption) | exact Facts.g__law_random (by assumption) | exact Facts.g__law_below (by assumption) | exact Facts.g__law_shuffled (by assumption) | exact Facts.g__law_balance (by assumption) | exact Facts.g__law_shares (by assumption) | exact Facts.g__law_equal (by assumption) | exact Facts.g__law_error_of (by assumption) | exact Facts.g__law_all_raise (by assumption) | exact Facts.g_law (by assumption) | exact Facts.g_Shares (by assumption) | exact Facts.g_Bill (by assumption) | exact Facts.g_Page (by assumption) | exact Facts.g_Ledger (by assumption) | exact Facts.eg_InvalidBill (by assumption) | exact Facts.eg_InvalidEvening (by assumption) | exact Facts.eg_InvalidOperation (by assumption) | exact Facts.eg_InvalidMark (by assumption) | exact Facts.eg_UnknownSeat (by assumption) | exact Facts.eg_InvalidNumber (by assumption) | exact Facts.eg_NotBalanced (by assumption) | exact Facts.eg_EmptyGroup (by assumption) | exact Facts.eg_InvalidText (by assumption) | exact Facts.eg_InvalidReceipt (by assumption) | exact Facts.eg_DecodeError (by assumption))
local macro_rules | `(tactic| walk_at "kp") => `(tactic| first | assumption | exact (Facts.mk_Shares (by assumption)).kp | exact (Facts.mk_Bill (by assumption)).kp | exact (Facts.mk_Page (by assumption)).kp | exact (Facts.mk_Ledger (by assumption)).kp | exact Fun.kp (Facts.u__wall (by assumption)).choose_spec | exact Fun.kp (Facts.u_is_between (by assumption)).choose_spec | exact Fun.kp (Facts.u_check_seat (by assumption)).choose_spec | exact Fun.kp (Facts.u_seats_of (by assumption)).choose_spec | exact Fun.kp (Facts.u_check_payment (by assumption)).choose_spec | exact Fun.kp (Facts.u_balance_after (by assumption)).choose_spec | exact Fun.kp (Facts.u_check_balance (by assumption)).choose_spec | exact Fun.kp (Facts.u_sums_of_sets (by assumption)).choose_spec | exact Fun.kp (Facts.u_number_of_groups (by assumption)).choose_spec | exact Fun.kp (Facts.u_parted (by assumption)).choose_spec | exact Fun.kp (Facts.u_payments_within (by assumption)).choose_spec | exact Fun.kp (Facts.u_payments (by assumption)).choose_spec | exact Fun.kp (Facts.u_fewest_payments (by assumption)).choose_spec | exact Fun.kp (Facts.u_check_amount (by assumption)).choose_spec | exact Fun.kp (Facts.u_check_seats (by assumption)).choose_spec | exact Fun.kp (Facts.u_check_seat_count (by assumption)).choose_spec | exact Fun.kp (Facts.u_check_mark (by assumption)).choose_spec | exact Fun.kp (Facts.u_no_shares (by assumption)).choose_spec | exact Fun.kp (Facts.u__law_random (by assumption)).choose_spec | exact Fun.kp (Facts.u__law_below (by assumption)).choose_spec | exact Fun.kp (Facts.u__law_shuffled (by assumption)).choose_spec | exact Fun.kp (Facts.u__law_balance (by assumption)).choose_spec | exact Fun.kp (Facts.u__law_shares (by assumption)).choose_spec | exact Fun.kp (Facts.u__law_equal (by assumption)).choose_spec | exact Fun.kp (Facts.u__law_error_of (by assumption)).choose_spec | exact Fun.kp (Facts.u__law_all_raise (by assumption)).choose_spec | exact Fun.kp (Facts.u_law (by assumption)).choose_spec)
/-! ### the parting has as many groups as there can be -/
section
theorem sums_at : ∀ (k : Nat) (ds : List Int), ds.length = k → k ≤ 8 → ∀ m, m < 2 ^ k → (sumsV ds).getD m 0 = sumOf ds (bitSeats m)
  | 0, ds, h, _, m, hm => by
    rw [List.length_eq_zero_iff.1 h, show m = 0 by simp at hm; omega, bits_zero]
    rfl
  | k + 1, ds, h, h8, m, hm => by
    obtain ⟨l, c, rfl⟩ : ∃ l b, ds = l ++ [b] := ⟨ds.dropLast, ds.getLast (by intro z; rw [z] at h; cases h), (List.dropLast_concat_getLast _).symm⟩
    rw [List.length_append, List.length_singleton] at h
    have hk : l.length = k := by omega
    have hl := sumsV_len k l hk
    have same : ∀ {xs : List Nat}, (∀ s ∈ xs, s < k) → sumOf (l ++ [c]) xs = sumOf l xs := fun {xs} hx => sumOf_congr fun s hs => by
      unfold dueAt
      rw [List.getD_eq_getElem?_getD, List.getElem?_append_left (by rw [hk]; exact hx s hs), ← List.getD_eq_getElem?_getD]
    rw [sumsV_snoc]
    by_cases hlt : m < 2 ^ k
    · rw [List.getD_eq_getElem?_getD, List.getElem?_append_left (by rw [hl]; exact hlt), ← List.getD_eq_getElem?_getD, sums_at k l hk (by omega) m hlt, same (bits_lt k (by omega) m hlt)]
    · have hlt2 : m - 2 ^ k < 2 ^ k := by rw [Nat.pow_succ] at hm; omega
      have eb := bits_add k (by omega) (m - 2 ^ k) hlt2
      rw [Nat.sub_add_cancel (by omega)] at eb
      have ek : dueAt (l ++ [c]) k = c := by
        unfold dueAt
        rw [List.getD_eq_getElem?_getD, List.getElem?_append_right (by omega), hk, Nat.sub_self]
        rfl
      have ih := sums_at k l hk (by omega) (m - 2 ^ k) hlt2
      rw [List.getD_eq_getElem?_getD] at ih
      rw [List.getD_eq_getElem?_getD, List.getElem?_append_right (by omega), hl, List.getElem?_map, eb, sumOf_app, same (bits_lt k (by omega) _ hlt2), sumOf_cons, ek, ← ih, List.getElem?_eq_getElem (by rw [hl]; exact hlt2)]
      show _ = _ + (c + 0)
      rw [Int.add_zero]
      rfl
theorem pAt_app {ps : List Prt} {x : Prt} {m : Nat} (h : m < ps.length) : pAt (ps ++ [x]) m = pAt ps m := by
  unfold pAt
  rw [List.getD_eq_getElem?_getD, List.getElem?_append_left h, ← List.getD_eq_getElem?_getD]
theorem pAt_last {ps : List Prt} {x : Prt} : pAt (ps ++ [x]) ps.length = x := by
  unfold pAt
  rw [List.getD_eq_getElem?_getD, List.getElem?_append_right (Nat.le_refl _), Nat.sub_self]
  rfl
/-- what is true of the parting of each set -/
theorem parts_ind {sums : List Int} (G : Nat → Prt → Prop) (h0 : G 0 ([], [])) (hs : ∀ m, 0 < m → m < 256 → (∀ j, j < m → G j (pAt (partsV sums (m - 1)) j)) → G m (stepV sums (partsV sums (m - 1)) m)) : ∀ k, k < 256 → ∀ m, m ≤ k → G m (pAt (partsV sums k) m)
  | 0, _, m, hm => by rw [Nat.le_zero.1 hm]; exact h0
  | k + 1, hk, m, hm => by
    have ih := parts_ind G h0 hs k (by omega)
    show G m (pAt (partsV sums k ++ [stepV sums (partsV sums k) (k + 1)]) m)
    by_cases hlt : m ≤ k
    · rw [pAt_app (by rw [partsV_len]; omega)]
      exact ih m hlt
    · obtain rfl : m = k + 1 := by omega
      have e := pAt_last (ps := partsV sums k) (x := stepV sums (partsV sums k) (k + 1))
      rw [partsV_len] at e
      rw [e]
      exact hs (k + 1) (by omega) hk fun j hj => ih j (by omega)
theorem pick_max {ps : List Prt} {m : Nat} {s : Nat} (hs : s ∈ bitSeats m) : (pAt ps (m - 2 ^ s)).1.length ≤ (pickV (chsV ps m)).1.length := by
  obtain ⟨j, hj, e⟩ := List.getElem_of_mem hs
  have hl : (chsV ps m).length = (bitSeats m).length := by unfold chsV; rw [List.length_map]
  have hb : argBest (fun i j => decide (-keyG (chsV ps m) i < -keyG (chsV ps m) j)) ((chsV ps m).length - 1) = bestI (chsV ps m) := by
    unfold bestI
    refine argBest_congr _ fun i j _ _ => ?_
    by_cases z : keyG (chsV ps m) i > keyG (chsV ps m) j
    · rw [decide_eq_true z, decide_eq_true (by omega)]
    · rw [decide_eq_false z, decide_eq_false (by omega)]
  have hm := (argBest_min (fun i => -keyG (chsV ps m) i) ((chsV ps m).length - 1)).1 j (by omega)
  rw [hb] at hm
  have ek : keyG (chsV ps m) j = ((pAt ps (m - 2 ^ s)).1.length : Nat) := by
    unfold keyG pAt chsV
    rw [List.getD_eq_getElem?_getD, List.getElem?_map, List.getElem?_eq_getElem hj, e]
    rfl
  have ep : keyG (chsV ps m) (bestI (chsV ps m)) = ((pickV (chsV ps m)).1.length : Nat) := rfl
  omega
/-- prefixes that come to nothing -/
def zc (c : Int) : List Int → Nat
  | [] => 0
  | x :: l => (if c + x = 0 then 1 else 0) + zc (c + x) l
theorem zc_app : ∀ (l m : List Int) (c : Int), zc c (l ++ m) = zc c l + zc (c + l.sum) m
  | [], m, c => by show zc c m = 0 + zc (c + 0) m; rw [Int.add_zero, Nat.zero_add]
  | x :: l, m, c => by
    show (if c + x = 0 then 1 else 0) + zc (c + x) (l ++ m) = ((if c + x = 0 then 1 else 0) + zc (c + x) l) + zc (c + (x :: l).sum) m
    rw [zc_app l m, List.sum_cons, Nat.add_assoc, Int.add_assoc]
theorem zc_ends : ∀ (l : List Int) (c : Int), l ≠ [] → c + l.sum = 0 → 1 ≤ zc c l
  | [x], c, _, h => by
    have e : c + x = 0 := by simpa using h
    show 1 ≤ (if c + x = 0 then 1 else 0) + 0
    rw [if_pos e]
    exact Nat.le_refl _
  | x :: y :: l, c, _, h => by
    have := zc_ends (y :: l) (c + x) (by simp) (by rw [← h, List.sum_cons (a := x)]; omega)
    show 1 ≤ (if c + x = 0 then 1 else 0) + zc (c + x) (y :: l)
    omega
theorem zc_groups {ds : List Int} : ∀ gs : List (List Nat), (∀ g ∈ gs, g ≠ [] ∧ sumOf ds g = 0) → gs.length ≤ zc 0 (gs.flatten.map (dueAt ds)) ∧ (gs.flatten.map (dueAt ds)).sum = 0
  | [], _ => ⟨Nat.le_refl _, rfl⟩
  | g :: gs, h => by
    obtain ⟨h1, h2⟩ := h g (List.mem_cons_self ..)
    obtain ⟨i1, i2⟩ := zc_groups gs fun x hx => h x (List.mem_cons_of_mem _ hx)
    rw [List.flatten_cons, List.map_append, zc_app, List.sum_append, i2]
    have e : (g.map (dueAt ds)).sum = 0 := h2
    have := zc_ends (g.map (dueAt ds)) 0 (by simp [h1]) (by omega)
    rw [e]
    refine ⟨?_, rfl⟩
    rw [List.length_cons]
    show gs.length + 1 ≤ zc 0 (g.map (dueAt ds)) + zc (0 + 0) _
    rw [Int.add_zero]
    omega
structure GoodP (ds : List Int) (m : Nat) (p : Prt) : Prop where
  perm : (p.1.flatten ++ p.2).Perm (bitSeats m)
  zero : ∀ g ∈ p.1, g ≠ [] ∧ sumOf ds g = 0
  most : ∀ v : List Int, v.Perm ((bitSeats m).map (dueAt ds)) → zc 0 v ≤ p.1.length
  rest : 0 < m → sumOf ds (bitSeats m) = 0 → p.2 = []
theorem parts_good {ds : List Int} (h8 : ds.length ≤ 8) {m : Nat} (hm : m < 2 ^ ds.length) : GoodP ds m (pAt (partsV (sumsV ds) (2 ^ ds.length - 1)) m) := by
  have h256 : 2 ^ ds.length ≤ 256 := Nat.le_trans (Nat.pow_le_pow_right (by decide) h8) (by decide)
  refine parts_ind (sums := sumsV ds) (fun m p => m < 2 ^ ds.length → GoodP ds m p) (fun _ => ⟨by rw [bits_zero]; exact List.Perm.refl _, fun g h => by simp at h, fun v hv => ?_, fun _ _ => rfl⟩) (fun m h0 h2 ih hmk => ?_) (2 ^ ds.length - 1) (by omega) m (by omega) hm
  · rw [bits_zero] at hv
    rw [List.Perm.eq_nil hv]
    exact Nat.le_refl _
  · obtain ⟨s, hs, e⟩ := pick_in (ps := partsV (sumsV ds) (m - 1)) (bits_ne m h2 h0)
    obtain ⟨b1, b2, b3⟩ := bits_less m h2 s hs
    have hp1 : 1 ≤ 2 ^ s := Nat.one_le_two_pow
    have I := ih (m - 2 ^ s) (by omega) (by omega)
    have hsum := sums_at ds.length ds rfl h8 m hmk
    have pm : ((pickV (chsV (partsV (sumsV ds) (m - 1)) m)).1.flatten ++ (pickV (chsV (partsV (sumsV ds) (m - 1)) m)).2).Perm (bitSeats m) := by
      rw [e, ← List.append_assoc]
      have h1 := I.perm
      rw [b3] at h1
      exact ((h1.append_right [s]).trans List.perm_append_comm).trans (List.perm_cons_erase hs).symm
    have pz : ∀ g ∈ (pickV (chsV (partsV (sumsV ds) (m - 1)) m)).1, g ≠ [] ∧ sumOf ds g = 0 := by rw [e]; exact I.zero
    have po : (pickV (chsV (partsV (sumsV ds) (m - 1)) m)).2 ≠ [] := by rw [e]; simp
    have mx : ∀ s ∈ bitSeats m, (pAt (partsV (sumsV ds) (m - 1)) (m - 2 ^ s)).1.length ≤ (pickV (chsV (partsV (sumsV ds) (m - 1)) m)).1.length := fun s hs => pick_max hs
    have hst : stepV (sumsV ds) (partsV (sumsV ds) (m - 1)) m = if (sumsV ds).getD m 0 = 0 then ((pickV (chsV (partsV (sumsV ds) (m - 1)) m)).1 ++ [(pickV (chsV (partsV (sumsV ds) (m - 1)) m)).2], []) else pickV (chsV (partsV (sumsV ds) (m - 1)) m) := rfl
    rw [hst]
    generalize pickV (chsV (partsV (sumsV ds) (m - 1)) m) = pk at *
    have so : sumOf ds pk.2 = sumOf ds (bitSeats m) := by
      have h1 := sumOf_perm (ds := ds) pm
      rw [sumOf_app] at h1
      have h2 : sumOf ds pk.1.flatten = 0 := (zc_groups pk.1 pz).2
      omega
    have up : ∀ v : List Int, v.Perm ((bitSeats m).map (dueAt ds)) → zc 0 v ≤ pk.1.length + (if (sumsV ds).getD m 0 = 0 then 1 else 0) := fun v hv => by
      have hvn : v ≠ [] := fun z => by
        rw [z] at hv
        have := hv.length_eq
        rw [List.length_map] at this
        exact bits_ne m h2 h0 (List.length_eq_zero_iff.1 this.symm)
      obtain ⟨v', x, rfl⟩ : ∃ l b, v = l ++ [b] := ⟨v.dropLast, v.getLast hvn, (List.dropLast_concat_getLast _).symm⟩
      have hx : x ∈ (bitSeats m).map (dueAt ds) := hv.mem_iff.1 (List.mem_append_right _ (List.mem_singleton_self _))
      obtain ⟨s2, hs2, rfl⟩ := List.mem_map.1 hx
      obtain ⟨c1, c2, c3⟩ := bits_less m h2 s2 hs2
      have hq1 : 1 ≤ 2 ^ s2 := Nat.one_le_two_pow
      have hv' : v'.Perm ((bitSeats (m - 2 ^ s2)).map (dueAt ds)) := by
        rw [c3]
        have h1 := List.perm_append_comm.trans (hv.trans ((List.perm_cons_erase hs2).map (dueAt ds)))
        rw [List.map_cons] at h1
        exact List.Perm.cons_inv h1
      have i2 := (ih (m - 2 ^ s2) (by omega) (by omega)).most v' hv'
      have i3 := mx s2 hs2
      have es : v'.sum + dueAt ds s2 = (sumsV ds).getD m 0 := by
        rw [hsum]
        have := sum_perm hv
        rw [List.sum_append] at this
        show _ = ((bitSeats m).map (dueAt ds)).sum
        rw [← this]
        simp
      rw [zc_app]
      show zc 0 v' + ((if 0 + v'.sum + dueAt ds s2 = 0 then 1 else 0) + 0) ≤ _
      rw [Int.zero_add, es]
      split <;> omega
    by_cases hz : (sumsV ds).getD m 0 = 0
    · rw [if_pos hz]
      refine ⟨?_, fun g hg => ?_, fun v hv => ?_, fun _ _ => rfl⟩
      · show ((pk.1 ++ [pk.2]).flatten ++ []).Perm _
        rw [List.append_nil, List.flatten_append]
        simpa using pm
      · rcases List.mem_append.1 hg with z | z
        · exact pz g z
        · rw [List.mem_singleton.1 z]
          exact ⟨po, by rw [so, ← hsum, hz]⟩
      · have := up v hv
        rw [if_pos hz] at this
        show _ ≤ (pk.1 ++ [pk.2]).length
        rw [List.length_append]
        exact this
    · rw [if_neg hz]
      refine ⟨pm, pz, fun v hv => ?_, fun _ z => absurd (by rw [hsum]; exact z) hz⟩
      have := up v hv
      rw [if_neg hz] at this
      exact this
theorem range_due (ds : List Int) : (List.range ds.length).map (dueAt ds) = ds := by
  refine List.ext_getElem? fun i => ?_
  rw [List.getElem?_map]
  by_cases h : i < ds.length
  · rw [List.getElem?_range h]
    show some (dueAt ds i) = _
    unfold dueAt
    rw [List.getD_eq_getElem?_getD, List.getElem?_eq_getElem h]
    rfl
  · rw [List.getElem?_eq_none (by rw [List.length_range]; omega), List.getElem?_eq_none (by omega)]
    rfl
structure GoodG (ds : List Int) (gs : List (List Nat)) : Prop where
  perm : gs.flatten.Perm (List.range ds.length)
  zero : ∀ g ∈ gs, g ≠ [] ∧ sumOf ds g = 0
  most : ∀ v : List Int, v.Perm ds → zc 0 v ≤ gs.length
theorem parted_good {ds : List Int} (h1 : 1 ≤ ds.length) (h8 : ds.length ≤ 8) (h0 : ds.sum = 0) : GoodG ds (partedV ds) := by
  have h2 : 2 ≤ 2 ^ ds.length := Nat.le_trans (by decide) (Nat.pow_le_pow_right (by decide) h1)
  have G := parts_good h8 (m := 2 ^ ds.length - 1) (by omega)
  have hf := bits_full ds.length h8
  have hr : sumOf ds (List.range ds.length) = 0 := by unfold sumOf; rw [range_due]; exact h0
  have hn : (pAt (partsV (sumsV ds) (2 ^ ds.length - 1)) (2 ^ ds.length - 1)).2 = [] := G.rest (by omega) (by rw [hf]; exact hr)
  refine ⟨?_, G.zero, fun v hv => G.most v ?_⟩
  · have := G.perm
    rw [hn, hf, List.append_nil] at this
    exact this
  · rw [hf, range_due]
    exact hv
theorem GoodG.min {ds : List Int} {gs : List (List Nat)} (G : GoodG ds gs) {g : List Nat} (hg : g ∈ gs) : ∀ A C : List Nat, (A ++ C).Perm g → A ≠ [] → C ≠ [] → sumOf ds A ≠ 0 := fun A C hp hA hC h0 => by
  have p1 := List.perm_cons_erase hg
  have hz := (G.zero g hg).2
  have hs : sumOf ds C = 0 := by
    have := sumOf_perm (ds := ds) hp
    rw [sumOf_app] at this
    omega
  have hgs : ∀ b ∈ A :: C :: gs.erase g, b ≠ [] ∧ sumOf ds b = 0 := fun b hb => by
    rcases List.mem_cons.1 hb with e | e
    · rw [e]; exact ⟨hA, h0⟩
    · rcases List.mem_cons.1 e with e | e
      · rw [e]; exact ⟨hC, hs⟩
      · exact G.zero b (List.mem_of_mem_erase e)
  have hl := (zc_groups (A :: C :: gs.erase g) hgs).1
  have hperm : (A :: C :: gs.erase g).flatten.Perm (List.range ds.length) := by
    rw [List.flatten_cons, List.flatten_cons, ← List.append_assoc]
    have h1 := p1.flatten
    rw [List.flatten_cons] at h1
    exact ((hp.append_right _).trans h1.symm).trans G.perm
  have hm := G.most ((A :: C :: gs.erase g).flatten.map (dueAt ds)) (by have := hperm.map (dueAt ds); rw [range_due] at this; exact this)
  have e := p1.length_eq
  rw [List.length_cons] at e
  rw [List.length_cons, List.length_cons] at hl
  omega
/-- a group in ascending order -/
def sortN (g : List Nat) : List Nat := (List.range 8).filter fun s => decide (s ∈ g)
theorem sortN_perm {g : List Nat} (hn : g.Nodup) (h8 : ∀ s ∈ g, s < 8) : (sortN g).Perm g := by
  refine (List.perm_ext_iff_of_nodup (List.nodup_range.filter _) hn).2 fun s => ?_
  show s ∈ (List.range 8).filter (fun s => decide (s ∈ g)) ↔ s ∈ g
  rw [List.mem_filter, List.mem_range, decide_eq_true_eq]
  exact ⟨fun h => h.2, fun h => ⟨h8 s h, h⟩⟩
def paysV (ds : List Int) : List Pay := (partedV ds).flatMap fun g => withinV ds (sortN g)
/-- what payments change for a seat -/
def eff : List Pay → Nat → Int
  | [], _ => 0
  | x :: xs, s => (if s = x.2.1 then -x.2.2 else if s = x.1 then x.2.2 else 0) + eff xs s
theorem eff_app : ∀ (xs ys : List Pay) (s : Nat), eff (xs ++ ys) s = eff xs s + eff ys s
  | [], ys, s => by show eff ys s = 0 + eff ys s; omega
  | x :: xs, ys, s => by
    show _ + eff (xs ++ ys) s = (_ + eff xs s) + eff ys s
    rw [eff_app xs ys s]
    omega
theorem give_eff : ∀ (xs : List Pay) (r : List Int), (∀ x ∈ xs, x.1 < r.length ∧ x.2.1 < r.length ∧ x.1 ≠ x.2.1) → ∀ s, dueAt (giveAll r xs) s = dueAt r s + eff xs s
  | [], r, _, s => by show _ = _ + (0 : Int); rw [Int.add_zero]; rfl
  | x :: xs, r, h, s => by
    obtain ⟨i, t, c⟩ := x
    obtain ⟨h1, h2, h3⟩ : i < r.length ∧ t < r.length ∧ i ≠ t := h (i, t, c) (List.mem_cons_self ..)
    show dueAt (giveAll (give1 r (i, t, c)) xs) s = dueAt r s + ((if s = t then -c else if s = i then c else 0) + eff xs s)
    rw [give_eff xs (give1 r (i, t, c)) (fun x hx => by rw [give1_len]; exact h x (List.mem_cons_of_mem _ hx)) s, give_at h1 h2 h3]
    by_cases a1 : s = t
    · subst a1
      rw [if_pos rfl, if_pos rfl]
      omega
    · rw [if_neg a1, if_neg a1]
      by_cases a2 : s = i
      · subst a2
        rw [if_pos rfl, if_pos rfl]
        omega
      · rw [if_neg a2, if_neg a2]
        omega
theorem pays_ok {ds : List Int} (h1 : 1 ≤ ds.length) (h8 : ds.length ≤ 8) (h0 : ds.sum = 0) (hM : ∀ d ∈ ds, d ≤ 10 ^ 15) :
    (∀ x ∈ paysV ds, PayOk ds.length x) ∧ giveAll ds (paysV ds) = List.replicate ds.length 0 ∧ (paysV ds).length + (partedV ds).length = ds.length := by
  have G := parted_good h1 h8 h0
  have hnd : (partedV ds).flatten.Nodup := G.perm.nodup_iff.2 List.nodup_range
  have hin : ∀ g ∈ partedV ds, ∀ s ∈ g, s < ds.length := fun g hg s hs => List.mem_range.1 (G.perm.mem_iff.1 (List.mem_flatten.2 ⟨g, hg, hs⟩))
  have hng : ∀ g ∈ partedV ds, g.Nodup := fun g hg => (List.pairwise_flatten.1 hnd).1 g hg
  have sp : ∀ g ∈ partedV ds, (sortN g).Perm g := fun g hg => sortN_perm (hng g hg) fun s hs => by have := hin g hg s hs; omega
  have hM' : ∀ s, dueAt ds s ≤ 10 ^ 15 := fun s => by
    unfold dueAt
    rw [List.getD_eq_getElem?_getD]
    cases e : ds[s]? with
    | none => show (0 : Int) ≤ 10 ^ 15; decide
    | some d => exact hM d (List.mem_of_getElem? e)
  have W : ∀ g ∈ partedV ds, _ := fun g hg => within_ok (M := 10 ^ 15) ((sp g hg).nodup_iff.2 (hng g hg)) (fun z => (G.zero g hg).1 (by have := sp g hg; rw [z] at this; exact this.symm.eq_nil))
    (fun s hs => hin g hg s ((sp g hg).mem_iff.1 hs)) (fun s _ => hM' s) (by rw [sumOf_perm (sp g hg)]; exact (G.zero g hg).2)
  have C : ∀ g ∈ partedV ds, (withinV ds (sortN g)).length + 1 = g.length := fun g hg => by
    rw [within_count ((sp g hg).nodup_iff.2 (hng g hg)) (fun z => (G.zero g hg).1 (by have := sp g hg; rw [z] at this; exact this.symm.eq_nil))
      (fun s hs => hin g hg s ((sp g hg).mem_iff.1 hs)) (fun A C hp => G.min hg A C (hp.trans (sp g hg))) (by rw [sumOf_perm (sp g hg)]; exact (G.zero g hg).2)]
    exact (sp g hg).length_eq
  have ok : ∀ x ∈ paysV ds, PayOk ds.length x := fun x hx => by
    obtain ⟨g, hg, hx⟩ := List.mem_flatMap.1 hx
    obtain ⟨a1, a2, a3, a4, a5⟩ := (W g hg).1 x hx
    exact ⟨hin g hg _ ((sp g hg).mem_iff.1 a1), hin g hg _ ((sp g hg).mem_iff.1 a2), a3, a4, a5⟩
  refine ⟨ok, ?_, ?_⟩
  · have ew : ∀ g ∈ partedV ds, ∀ s, eff (withinV ds (sortN g)) s = if s ∈ g then -dueAt ds s else 0 := fun g hg s => by
      have h := give_eff (withinV ds (sortN g)) ds (fun x hx => by
        obtain ⟨a1, a2, a3, _⟩ := (W g hg).1 x hx
        exact ⟨hin g hg _ ((sp g hg).mem_iff.1 a1), hin g hg _ ((sp g hg).mem_iff.1 a2), a3⟩) s
      by_cases m : s ∈ g
      · rw [if_pos m]
        have := (W g hg).2.1 s ((sp g hg).mem_iff.2 m)
        omega
      · rw [if_neg m]
        have := (W g hg).2.2.1 s (fun z => m ((sp g hg).mem_iff.1 z))
        omega
    have es : ∀ gs : List (List Nat), (∀ g ∈ gs, g ∈ partedV ds) → gs.flatten.Nodup → ∀ s, eff (gs.flatMap fun g => withinV ds (sortN g)) s = if s ∈ gs.flatten then -dueAt ds s else 0 := fun gs => by
      induction gs with
      | nil => exact fun _ _ s => rfl
      | cons g gs ih =>
        intro hm hd s
        rw [List.flatten_cons] at hd ⊢
        obtain ⟨d1, d2, d3⟩ := List.nodup_append.1 hd
        rw [List.flatMap_cons, eff_app, ew g (hm g (List.mem_cons_self ..)), ih (fun x hx => hm x (List.mem_cons_of_mem _ hx)) d2]
        by_cases m1 : s ∈ g
        · have m2 : s ∉ gs.flatten := fun z => d3 s m1 s z rfl
          rw [if_pos m1, if_neg m2, if_pos (List.mem_append_left _ m1)]
          omega
        · by_cases m2 : s ∈ gs.flatten
          · rw [if_neg m1, if_pos m2, if_pos (List.mem_append_right _ m2)]
            omega
          · rw [if_neg m1, if_neg m2, if_neg (by intro z; rcases List.mem_append.1 z with z | z; exact m1 z; exact m2 z)]
            rfl
    refine List.ext_getElem? fun s => ?_
    by_cases h : s < ds.length
    · have hl : s < (giveAll ds (paysV ds)).length := by rw [giveAll_len]; exact h
      have h2 := give_eff (paysV ds) ds (fun x hx => ⟨(ok x hx).1, (ok x hx).2.1, (ok x hx).2.2.1⟩) s
      have h3 := es (partedV ds) (fun _ h => h) hnd s
      rw [if_pos (G.perm.mem_iff.2 (List.mem_range.2 h))] at h3
      have h4 : dueAt (giveAll ds (paysV ds)) s = 0 := by
        rw [h2]
        show dueAt ds s + eff ((partedV ds).flatMap fun g => withinV ds (sortN g)) s = 0
        rw [h3]
        omega
      unfold dueAt at h4
      rw [List.getD_eq_getElem?_getD, List.getElem?_eq_getElem hl] at h4
      rw [List.getElem?_eq_getElem hl, List.getElem?_replicate, if_pos h]
      exact congrArg some h4
    · rw [List.getElem?_eq_none (by rw [giveAll_len]; omega), List.getElem?_eq_none (by rw [List.length_replicate]; omega)]
  · have el : ∀ gs : List (List Nat), (∀ g ∈ gs, g ∈ partedV ds) → (gs.flatMap fun g => withinV ds (sortN g)).length + gs.length = gs.flatten.length := fun gs => by
      induction gs with
      | nil => exact fun _ => rfl
      | cons g gs ih =>
        intro hm
        have i1 := ih fun x hx => hm x (List.mem_cons_of_mem _ hx)
        have i2 := C g (hm g (List.mem_cons_self ..))
        rw [List.flatMap_cons, List.flatten_cons, List.length_append, List.length_append, List.length_cons]
        omega
    have := el (partedV ds) fun _ h => h
    rw [G.perm.length_eq, List.length_range] at this
    exact this
end

end Odd

namespace Odd
open PySem PySem.Spec PyProof.Rows L2
/-! tactics of this text: st one step, go as many as go -/
local macro_rules | `(tactic| walk_at "ar") => `(tactic| first | assumption | omega | (show (_ : Int) < _; omega) | decide)
local macro_rules | `(tactic| walk_at "st") => `(tactic| first
  | with_reducible refine' w_seq ?_
  | with_reducible refine' w_asg ?_
  | with_reducible refine' w_name ?_
  | with_reducible refine' w_c ?_
  | with_reducible refine' w_op ?_
  | with_reducible refine' w_ix ?_
  | with_reducible refine' w_at ?_
  | with_reducible refine' w_cons ?_
  | with_reducible refine' w_nil ?_
  | with_reducible refine' w_ret ?_
  | with_reducible refine' w_if ?_
  | with_reducible refine' w_test ?_
  | with_reducible refine' w_tr ?_
  | with_reducible refine' w_un ?_
  | with_reducible refine' w_andV ?_
  | with_reducible refine' w_orV ?_
  | with_reducible refine' w_notA ?_
  | with_reducible refine' w_ch ?_
  | with_reducible refine' w_and ?_
  | with_reducible refine' w_or ?_
  | with_reducible refine' w_not ?_
  | with_reducible refine' w_ifx ?_
  | with_reducible refine' w_tup ?_
  | with_reducible refine' w_lst ?_
  | with_reducible refine' w_next ?_
  | with_reducible refine' w_drop ?_
  | with_reducible refine' w_retN ?_
  | ((with_reducible refine' w_var ?h ?_); (case h => exact rfl))
  | ((with_reducible refine' w_bi ?h ?_); (case h => walk_at "mg"))
  | ((with_reducible refine' w_bv ?h ?_); (case h => walk_at "mg"))
  | ((with_reducible refine' w_gv ?h ?_); (case h => walk_at "mg"))
  | ((with_reducible refine' w_gl ?h ?k ?_); (case h => walk_at "mg"); (case k => walk_at "kp"))
  | ((with_reducible refine' w_glS ?h ?k ?_); (case h => walk_at "mg"); (case k => walk_at "kp"))
  | with_reducible refine' bl_ex ?_
  | with_reducible refine' iteT ?_
  | with_reducible refine' iteF ?_
  | with_reducible refine' ite_nf ?_
  | with_reducible refine' ite_nt ?_
  | with_reducible refine' s_add ?_
  | with_reducible refine' s_sub ?_
  | with_reducible refine' s_lt ?_
  | with_reducible refine' s_le ?_
  | with_reducible refine' s_gt ?_
  | with_reducible refine' s_ge ?_
  | with_reducible refine' s_eqI ?_
  | with_reducible refine' s_neI ?_
  | with_reducible refine' s_eqB ?_
  | with_reducible refine' s_neB ?_
  | with_reducible refine' s_truB ?_
  | with_reducible refine' s_truI ?_
  | with_reducible refine' s_neg ?_
  | ((with_reducible refine' s_mod ?h ?_); (case h => walk_at "ar")))
local macro_rules | `(tactic| walk_at "go") => `(tactic| repeat walk_at "st")

local macro_rules | `(tactic| walk_at "mg") => `(tactic| first | assumption | exact Facts.z_TypeError (by assumption) | exact Facts.z_ValueError (by assumption) | exact Facts.z_abs (by assumption) | exact Facts.z_all (by assumption) | exact Facts.z_bool (by assumption) | exact Facts.z_classmethod (by assumption) | exact Facts.z_enumerate (by assumption) | exact Facts.z_int (by assumption) | exact Facts.z_isinstance (by assumption) | exact Facts.z_len (by assumption) | exact Facts.z_list (by assumption) | exact Facts.z_max (by assumption) | exact Facts.z_min (by assumption) | exact Facts.z_property (by assumption) | exact Facts.z_range (by assumption) | exact Facts.z_sorted (by assumption) | exact Facts.z_str (by assumption) | exact Facts.z_sum (by assumption) | exact Facts.z_super (by assumption) | exact Facts.z_tuple (by assumption) | exact Facts.z_zip (by assumption) | exact Facts.g__wall (by assumption) | exact Facts.g_is_between (by assumption) | exact Facts.g_check_seat (by assumption) | exact Facts.g_seats_of (by assumption) | exact Facts.g_check_payment (by assumption) | exact Facts.g_balance_after (by assumption) | exact Facts.g_check_balance (by assumption) | exact Facts.g_sums_of_sets (by assumption) | exact Facts.g_number_of_groups (by assumption) | exact Facts.g_parted (by assumption) | exact Facts.g_payments_within (by assumption) | exact Facts.g_payments (by assumption) | exact Facts.g_fewest_payments (by assumption) | exact Facts.g_check_amount (by assumption) | exact Facts.g_check_seats (by assumption) | exact Facts.g_check_seat_count (by assumption) | exact Facts.g_check_mark (by assumption) | exact Facts.g_no_shares (by assumption) | exact Facts.g__law_random (by assumption) | exact Facts.g__law_below (by assumption) | exact Facts.g__law_shuffled (by assumption) | exact Facts.g__law_balance (by assumption) | exact Facts.g__law_shares (by assumption) | exact Facts.g__law_equal (by assumption) | exact Facts.g__law_error_of (by assumption) | exact Facts.g__law_all_raise (by assumption) | exact Facts.g_law (by assumption) | exact Facts.g_Shares (by assumption) | exact Facts.g_Bill (by assumption) | exact Facts.g_Page (by assumption) | exact Facts.g_Ledger (by assumption) | exact Facts.eg_InvalidBill (by assumption) | exact Facts.eg_InvalidEvening (by assumption) | exact Facts.eg_InvalidOperation (by assumption) | exact Facts.eg_InvalidMark (by assumption) | exact Facts.eg_UnknownSeat (by assumption) | exact Facts.eg_InvalidNumber (by assumption) | exact Facts.eg_NotBalanced (by assumption) | exact Facts.eg_EmptyGroup (by assumption) | exact Facts.eg_InvalidText (by assumption) | exact Facts.eg_InvalidReceipt (by assumption) | exact Facts.eg_DecodeError (by assumption))
local macro_rules | `(tactic| walk_at "kp") => `(tactic| first | assumption | exact (Facts.mk_Shares (by assumption)).kp | exact (Facts.mk_Bill (by assumption)).kp | exact (Facts.mk_Page (by assumption)).kp | exact (Facts.mk_Ledger (by assumption)).kp | exact Fun.kp (Facts.u__wall (by assumption)).choose_spec | exact Fun.kp (Facts.u_is_between (by assumption)).choose_spec | exact Fun.kp (Facts.u_check_seat (by assumption)).choose_spec | exact Fun.kp (Facts.u_seats_of (by assumption)).choose_spec | exact Fun.kp (Facts.u_check_payment (by assumption)).choose_spec | exact Fun.kp (Facts.u_balance_after (by assumption)).choose_spec | exact Fun.kp (Facts.u_check_balance (by assumption)).choose_spec | exact Fun.kp (Facts.u_sums_of_sets (by assumption)).choose_spec | exact Fun.kp (Facts.u_number_of_groups (by assumption)).choose_spec | exact Fun.kp (Facts.u_parted (by assumption)).choose_spec | exact Fun.kp (Facts.u_payments_within (by assumption)).choose_spec | exact Fun.kp (Facts.u_payments (by assumption)).choose_spec | exact Fun.kp (Facts.u_fewest_payments (by assumption)).choose_spec | exact Fun.kp (Facts.u_check_amount (by assumption)).choose_spec | exact Fun.kp (Facts.u_check_seats (by assumption)).choose_spec | exact Fun.kp (Facts.u_check_seat_count (by assumption)).choose_spec | exact Fun.kp (Facts.u_check_mark (by assumption)).choose_spec | exact Fun.kp (Facts.u_no_shares (by assumption)).choose_spec | exact Fun.kp (Facts.u__law_random (by assumption)).choose_spec | exact Fun.kp (Facts.u__law_below (by assumption)).choose_spec | exact Fun.kp (Facts.u__law_shuffled (by assumption)).choose_spec | exact Fun.kp (Facts.u__law_balance (by assumption)).choose_spec | exact Fun.kp (Facts.u__law_shares (by assumption)).choose_spec | exact Fun.kp (Facts.u__law_equal (by assumption)).choose_spec | exact Fun.kp (Facts.u__law_error_of (by assumption)).choose_spec | exact Fun.kp (Facts.u__law_all_raise (by assumption)).choose_spec | exact Fun.kp (Facts.u_law (by assumption)).choose_spec)
/-! ### as few payments as possible -/
section
variable {P : Program} {w : World} {K : PySem.W.Frag} {mg : Str → Option Value} {base : Heap} {a : Ad}
theorem w_lc2Q {K : PySem.W.Frag} {tl te : TE} {wi1 : TI} {g g1 : TG} {tt tt1 : TT} {vs vs1 : List Nat} {σ : L2.St} {H : Hp} {Q : VK} (h : tl σ H fun x H1 => tLc2 (iSeq K fun _ H R => R x H) g tt wi1 g1 tt1 te vs vs1 σ H1 Q) : tLc2 (iSeq K tl) g tt wi1 g1 tt1 te vs vs1 σ H Q := h
theorem w_isq2 {K : PySem.W.Frag} {tl : TE} {σ : L2.St} {H : Hp} {RR : It → Hp → Prop} (h : tl σ H fun x H1 => iSeq K (fun _ H R => R x H) σ H1 RR) : iSeq K tl σ H RR := h
def spCkBal (C : Addr) : Sp := fun vs H Q _ => ∃ (p : Addr) (ds : List Int), vs = [.ref p] ∧ ShAt C H p ds ∧ ds.length ≤ 8 ∧ ds.sum = 0 ∧ Q .non H
theorem ok_check_balance (T : Facts K mg a) : FnR P w K mg base (L2.CX P w) 3 a.f_check_balance (spCkBal a.c_Shares) := by
  obtain ⟨fd, F⟩ := T.u_check_balance
  have GL : FnR P w K mg base (L2.CX P w) 1 a.f_Shares__len_ (spShLen a.c_Shares) := ok_sh_len T
  have GW : FnR P w K mg base (L2.CX P w) 1 a.f_Shares_whole (spShWhole a.c_Shares) := ok_sh_whole T
  refine fnr_ok F sc_check_balance (F.binds fun _ _ _ _ _ _ us hl => match us, hl with | [_], _ => rfl) (fun vs H Q E h => ?_) (fun cdv A outer s H vs Q E hr h => ?_)
  · obtain ⟨p, ds, rfl, _⟩ := h
    rfl
  · obtain ⟨p, ds, rfl, sh, hn8, h0, q⟩ := h
    obtain ⟨dx, t, e1, e2⟩ := id sh
    refine ⟨_, (pss_cons (ps_if (pt_cmpA Like.refl pas_main (pe_biA (id := "len") Like.refl pas_main (by rfl) (by decide +kernel) (pa_cons (pv 0) pa_nil)) (pe_gvI Like.refl (by rfl)) (nomark _)) (pss_one (ps_raA rfl tk_main (by rfl))) pss_nil)
    (pss_one (ps_if (pt_cmpA Like.refl pas_main (pe_atA Like.refl pas_main (pv 0)) (pe_int) (nomark _)) (pss_one (ps_raA rfl tk_main (by rfl))) pss_nil))), ?_⟩
    walk_at "go"
    refine s_lenI T.m_Shares__len_ GL (hr.mono (by decide)) e1 ⟨p, ds, rfl, sh, _, rfl, by omega, by omega, ?_⟩
    walk_at "go"
    refine w_gvI T.i_MAX_SETTLED_SEATS.choose_spec ?_
    walk_at "go"
    refine ite_d (fun z => absurd z (by omega)) (fun _ => ?_)
    walk_at "go"
    refine s_prop T.cl_Shares T.pr_Shares_whole GW (hr.mono (by decide)) e1 ⟨p, ds, rfl, sh, ?_⟩
    rw [h0]
    walk_at "go"
    refine ite_n (fun z => absurd rfl z) (fun _ => ?_)
    walk_at "go"
    exact q
theorem parted_nil : partedV [] = [] := by decide
theorem parted_perm {ds : List Int} (h8 : ds.length ≤ 8) (h0 : ds.sum = 0) : (partedV ds).flatten.Perm (List.range ds.length) := by
  by_cases h : ds = []
  · subst h
    rw [parted_nil]
    exact .refl _
  · exact (parted_good (List.length_pos_iff.2 h) h8 h0).perm
theorem parted_few {ds : List Int} (h8 : ds.length ≤ 8) (h0 : ds.sum = 0) (hM : ∀ d ∈ ds, d ≤ 10 ^ 15) : (paysV ds).length + (partedV ds).length ≤ 8 := by
  by_cases h : ds = []
  · subst h
    unfold paysV
    rw [parted_nil]
    exact Nat.zero_le _
  · have := (pays_ok (List.length_pos_iff.2 h) h8 h0 hM).2.2
    omega
theorem pays_few {ds : List Int} (h8 : ds.length ≤ 8) (h0 : ds.sum = 0) (hM : ∀ d ∈ ds, d ≤ 10 ^ 15) : (paysV ds).length ≤ 8 := by
  have := parted_few h8 h0 hM
  omega
def spPaysA (C : Addr) : Sp := fun vs H Q _ => ∃ (p : Addr) (ds : List Int), vs = [.ref p] ∧ ShAt C H p ds ∧ ds.length ≤ 8 ∧ ds.sum = 0 ∧ (∀ d ∈ ds, d ≤ 10 ^ 15) ∧
  ∀ l ps H', H l = none → Same H H' → H' l = some (.lst (ps.map V.ref)) → PaysL H' ps (paysV ds) → Q (.ref l) H'
theorem ok_paymentsA (T : Facts K mg a) : FnR P w K mg base (L2.CX P w) 4 a.f_payments (spPaysA a.c_Shares) := by
  obtain ⟨fd, F⟩ := T.u_payments
  have GB : FnR P w K mg base (L2.CX P w) 3 a.f_check_balance (spCkBal a.c_Shares) := ok_check_balance T
  have GP : FnR P w K mg base (L2.CX P w) 3 a.f_parted (spParted K) := ok_parted T
  have GW : FnR P w K mg base (L2.CX P w) 1 a.f_payments_within (spWithin K) := ok_payments_within T
  have GC : FnR P w K mg base (L2.CX P w) 1 a.f_Shares_cents (spShCents a.c_Shares) := ok_sh_cents T
  refine fnr_ok F sc_payments (F.binds fun _ _ _ _ _ _ us hl => match us, hl with | [_], _ => rfl) (fun vs H Q E h => ?_) (fun cdv A outer s H vs Q E hr h => ?_)
  · obtain ⟨p, ds, rfl, _⟩ := h
    rfl
  · obtain ⟨p, ds, rfl, sh, hn8, h0, hM, q⟩ := h
    obtain ⟨dx, t, e1, e2⟩ := id sh
    have G := parted_perm hn8 h0
    have hnd : (partedV ds).flatten.Nodup := G.nodup_iff.2 List.nodup_range
    have hin : ∀ g ∈ partedV ds, ∀ s ∈ g, s < ds.length := fun g hg s hs => List.mem_range.1 (G.mem_iff.1 (List.mem_flatten.2 ⟨g, hg, hs⟩))
    have hng : ∀ g ∈ partedV ds, g.Nodup := fun g hg => (List.pairwise_flatten.1 hnd).1 g hg
    have sp : ∀ g ∈ partedV ds, (sortN g).Perm g := fun g hg => sortN_perm (hng g hg) fun s hs => by have := hin g hg s hs; omega
    have hlen : (paysV ds).length ≤ 8 := pays_few hn8 h0 hM
    refine ⟨_, (pss_cons (ps_expr (pe_glA Like.refl pas_main (by rfl) (pa_cons (pv 0) pa_nil)))
    (pss_cons (ps_set (i := 1) sc_payments.nd rfl (Or.inr rfl) (pe_atA Like.refl pas_main (pv 0)))
    (pss_one (ps_ret (pe_lc2 (own := [("group", 2), ("payment", 3)]) (vs1 := [3]) (g := gName 2) (g1 := gName 3) (tt := tYes) (tt1 := tYes) rfl sc_payments.nd (pi_seqA Like.refl (pe_glA Like.refl pas_main (by rfl) (pa_cons (pv 1) pa_nil))) (blkOk_by (own := [("group", 2), ("payment", 3)]) (N := N_payments) (sc := defScope s_payments) (by decide +kernel)) (by decide) (fun _ _ _ _ _ => (pg_name (i := 2) sc_payments.nd rfl (by first | exact Or.inl rfl | exact Or.inr rfl))) (fun _ _ _ _ _ => pts_nil) (fun _ _ _ _ _ => (pi_seqA ⟨rfl, rfl, rfl, rfl, rfl, rfl, rfl⟩ (pe_glA ⟨rfl, rfl, rfl, rfl, rfl, rfl, rfl⟩ passL (by rfl) (pa_cons (pe_biA (id := "sorted") ⟨rfl, rfl, rfl, rfl, rfl, rfl, rfl⟩ passL (by rfl) (by decide +kernel) (pa_cons (pv 2) pa_nil)) (pa_cons (pv 1) pa_nil))))) (fun _ _ _ _ _ => (pg_name (i := 3) sc_payments.nd rfl (by first | exact Or.inl rfl | exact Or.inr rfl))) (fun _ _ _ _ _ => pts_nil) (fun _ _ _ _ _ => (pv 3))))))), ?_⟩
    walk_at "go"
    refine s_fn GB (hr.mono (by decide)) ⟨p, ds, rfl, sh, hn8, h0, ?_⟩
    walk_at "go"
    refine s_prop T.cl_Shares T.pr_Shares_cents GC (hr.mono (by decide)) e1 ⟨p, dx, t, rfl, e1, ?_⟩
    walk_at "go"
    refine w_lc2Q ?_
    walk_at "go"
    refine s_fn GP hr ⟨t, ds, rfl, SqT.of e2, hn8, fun l H1 s1 hG => ?_⟩
    obtain ⟨as, _, h1, h2, h3⟩ := hG
    have hfl : ∀ i, ((partedV ds).take i).length ≤ 8 ∧ (((partedV ds).take i).flatMap fun g => withinV ds (sortN g)).length ≤ 8 := fun i => by
      have e : paysV ds = (((partedV ds).take i).flatMap fun g => withinV ds (sortN g)) ++ (((partedV ds).drop i).flatMap fun g => withinV ds (sortN g)) := by
        rw [← List.flatMap_append, List.take_append_drop]
        rfl
      have e2 := congrArg List.length e
      rw [List.length_append] at e2
      have := parted_few hn8 h0 hM
      rw [List.length_take]
      omega
    refine c_lc2 (a := l) (xs := as.map V.ref) (fun D i o H' => ∃ ps : List Addr, o = ps.map V.ref ∧ PaysL H' ps (((partedV ds).take i).flatMap fun g => withinV ds (sortN g)))
      (fun D hD => ⟨[], rfl, rfl, fun i p x z => by simp at z⟩) (SqL.of h1) (fun D i o H' pv => ?_) (fun _ => rfl) (fun _ _ => rfl) (fun x0 x R H' k => ?_) (fun D i x H2 o hD hx s2 hD2 pv R hR => ?_) (fun l2 o H2 hl2 s2 pv hL => ?_) (fun R k => k)
    · obtain ⟨ps, rfl, hp⟩ := pv
      have := (hfl i).2
      rw [List.length_map, hp.1]
      omega
    · walk_at "go"
      exact k
    · obtain ⟨ps, rfl, hp⟩ := pv
      rw [List.getElem?_map] at hx
      cases e : as[i]? with
      | none => rw [e] at hx; cases hx
      | some b =>
        rw [e] at hx
        cases hx
        obtain ⟨hil, _⟩ := List.getElem?_eq_some_iff.1 e
        obtain ⟨g, eg⟩ : ∃ g, (partedV ds)[i]? = some g := ⟨_, List.getElem?_eq_getElem (by rw [← h2]; exact hil)⟩
        have hg := List.mem_of_getElem? eg
        obtain ⟨_, hb⟩ := h3 i b g e eg
        refine w_isq2 ?_
        walk_at "go"
        refine s_sortI (ns := g.map Int.ofNat) (SqL.of (by rw [s2 _ _ hb, List.map_map]; rfl)) fun ns' pq hpm hpw hpq => ?_
        have ens : ns' = (sortN g).map Int.ofNat := by
          refine List.Perm.eq_of_pairwise (fun x y _ _ h1 h2 => by omega) hpw ?_ (hpm.trans ((sp g hg).map Int.ofNat).symm)
          rw [List.pairwise_map]
          exact (List.pairwise_lt_range.filter _).imp fun h => by show ((_ : Nat) : Int) ≤ ((_ : Nat) : Int); omega
        subst ens
        have s3 := same_new (o := .lst (((sortN g).map Int.ofNat).map V.int)) hpq
        have hg8 : (sortN g).length ≤ 8 := by
          unfold sortN
          exact Nat.le_trans (List.length_filter_le _ _) (by rw [List.length_range]; exact Nat.le_refl _)
        walk_at "go"
        refine s_fn GW (hr.mono (by decide)) ⟨pq, t, sortN g, ds, rfl, by rw [upd_same, List.map_map]; rfl, SqT.of (s3 _ _ (s2 _ _ (s1 _ _ e2))), hn8, hg8, fun s hs => hin g hg s ((sp g hg).mem_iff.1 hs), fun y qs H4 hy s4 hY hq => ?_⟩
        have s34 := s3.trans s4
        refine ⟨y, rfl, .inl ⟨⟨_, SqL.of hY⟩, hR y (qs.map V.ref) H4 s34 (s3.free hy) hY ⟨ps ++ qs, by rw [List.map_append], ?_⟩⟩⟩
        have hD4 := s34 _ _ hD2
        have kp : ∀ q vs, H4 q = some (.tup vs) → (upd H4 D (.lst (ps.map V.ref ++ qs.map V.ref))) q = some (.tup vs) := fun q vs z => by rw [upd_ne (fun z2 => by rw [z2, hD4] at z; cases z)]; exact z
        rw [List.take_add_one, eg, List.flatMap_append]
        refine ((hp.same fun q vs z => s34 _ _ z).same kp).app ?_
        have e1 : (Option.toList (some g)).flatMap (fun g => withinV ds (sortN g)) = withinV ds (sortN g) := by simp
        rw [e1]
        exact hq.same kp
    · obtain ⟨ps, rfl, hp⟩ := pv
      rw [List.length_map, h2, List.take_of_length_le (Nat.le_refl _)] at hp
      exact q l2 ps _ (s1.free hl2) (s1.trans s2) hL hp
def spPays (C : Addr) : Sp := fun vs H Q _ => ∃ (p : Addr) (ds : List Int), vs = [.ref p] ∧ ShAt C H p ds ∧ 1 ≤ ds.length ∧ ds.length ≤ 8 ∧ ds.sum = 0 ∧ (∀ d ∈ ds, d ≤ 10 ^ 15) ∧
  ∀ l ps H', H l = none → Same H H' → H' l = some (.lst (ps.map V.ref)) → PaysL H' ps (paysV ds) → Q (.ref l) H'
theorem ok_payments (T : Facts K mg a) : FnR P w K mg base (L2.CX P w) 4 a.f_payments (spPays a.c_Shares) := (ok_paymentsA T).imp fun vs H Q E h => by
  obtain ⟨p, ds, rfl, sh, hn1, hn8, h0, hM, q⟩ := h
  exact ⟨p, ds, rfl, sh, hn8, h0, hM, q⟩
def spFewestA (C : Addr) : Sp := fun vs H Q _ => ∃ (p : Addr) (ds : List Int), vs = [.ref p] ∧ ShAt C H p ds ∧ ds.length ≤ 8 ∧ ds.sum = 0 ∧ (∀ d ∈ ds, d ≤ 10 ^ 15) ∧ ∀ H', Same H H' → Q (.int ((paysV ds).length : Nat)) H'
theorem ok_fewestA (T : Facts K mg a) : FnR P w K mg base (L2.CX P w) 5 a.f_fewest_payments (spFewestA a.c_Shares) := by
  obtain ⟨fd, F⟩ := T.u_fewest_payments
  have GP : FnR P w K mg base (L2.CX P w) 4 a.f_payments (spPaysA a.c_Shares) := ok_paymentsA T
  refine fnr_ok F sc_fewest_payments (F.binds fun _ _ _ _ _ _ us hl => match us, hl with | [_], _ => rfl) (fun vs H Q E h => ?_) (fun cdv A outer s H vs Q E hr h => ?_)
  · obtain ⟨p, ds, rfl, _⟩ := h
    rfl
  · obtain ⟨p, ds, rfl, sh, hn8, h0, hM, q⟩ := h
    refine ⟨_, (pss_one (ps_ret (pe_biA (id := "len") Like.refl pas_main (by rfl) (by decide +kernel) (pa_cons (pe_glA Like.refl pas_main (by rfl) (pa_cons (pv 0) pa_nil)) pa_nil)))), ?_⟩
    walk_at "go"
    refine s_fn GP hr ⟨p, ds, rfl, sh, hn8, h0, hM, fun l ps H1 hl s1 hL hp => ?_⟩
    walk_at "go"
    refine s_lenL (SqL.of hL) ?_
    rw [List.length_map, hp.1]
    exact q _ s1
def spFewest (C : Addr) : Sp := fun vs H Q _ => ∃ (p : Addr) (ds : List Int), vs = [.ref p] ∧ ShAt C H p ds ∧ 1 ≤ ds.length ∧ ds.length ≤ 8 ∧ ds.sum = 0 ∧ (∀ d ∈ ds, d ≤ 10 ^ 15) ∧ ∀ H', Same H H' → Q (.int ((paysV ds).length : Nat)) H'
theorem ok_fewest (T : Facts K mg a) : FnR P w K mg base (L2.CX P w) 5 a.f_fewest_payments (spFewest a.c_Shares) := (ok_fewestA T).imp fun vs H Q E h => by
  obtain ⟨p, ds, rfl, sh, hn1, hn8, h0, hM, q⟩ := h
  exact ⟨p, ds, rfl, sh, hn8, h0, hM, q⟩
end

end Odd

namespace Odd
open PySem PySem.Spec PyProof.Rows L2
/-! tactics of this text: st one step, go as many as go -/
local macro_rules | `(tactic| walk_at "ar") => `(tactic| first | assumption | omega | (show (_ : Int) < _; omega) | decide)
local macro_rules | `(tactic| walk_at "st") => `(tactic| first
  | with_reducible refine' w_seq ?_
  | with_reducible refine' w_asg ?_
  | with_reducible refine' w_name ?_
  | with_reducible refine' w_c ?_
  | with_reducible refine' w_op ?_
  | with_reducible refine' w_ix ?_
  | with_reducible refine' w_at ?_
  | with_reducible refine' w_cons ?_
  | with_reducible refine' w_nil ?_
  | with_reducible refine' w_ret ?_
  | with_reducible refine' w_if ?_
  | with_reducible refine' w_test ?_
  | with_reducible refine' w_tr ?_
  | with_reducible refine' w_un ?_
  | with_reducible refine' w_andV ?_
  | with_reducible refine' w_orV ?_
  | with_reducible refine' w_notA ?_
  | with_reducible refine' w_ch ?_
  | with_reducible refine' w_and ?_
  | with_reducible refine' w_or ?_
  | with_reducible refine' w_not ?_
  | with_reducible refine' w_ifx ?_
  | with_reducible refine' w_tup ?_
  | with_reducible refine' w_lst ?_
  | with_reducible refine' w_next ?_
  | with_reducible refine' w_drop ?_
  | with_reducible refine' w_retN ?_
  | ((with_reducible refine' w_var ?h ?_); (case h => exact rfl))
  | ((with_reducible refine' w_bi ?h ?_); (case h => walk_at "mg"))
  | ((with_reducible refine' w_bv ?h ?_); (case h => walk_at "mg"))
  | ((with_reducible refine' w_gv ?h ?_); (case h => walk_at "mg"))
  | ((with_reducible refine' w_gl ?h ?k ?_); (case h => walk_at "mg"); (case k => walk_at "kp"))
  | ((with_reducible refine' w_glS ?h ?k ?_); (case h => walk_at "mg"); (case k => walk_at "kp"))
  | with_reducible refine' bl_ex ?_
  | with_reducible refine' iteT ?_
  | with_reducible refine' iteF ?_
  | with_reducible refine' ite_nf ?_
  | with_reducible refine' ite_nt ?_
  | with_reducible refine' s_add ?_
  | with_reducible refine' s_sub ?_
  | with_reducible refine' s_lt ?_
  | with_reducible refine' s_le ?_
  | with_reducible refine' s_gt ?_
  | with_reducible refine' s_ge ?_
  | with_reducible refine' s_eqI ?_
  | with_reducible refine' s_neI ?_
  | with_reducible refine' s_eqB ?_
  | with_reducible refine' s_neB ?_
  | with_reducible refine' s_truB ?_
  | with_reducible refine' s_truI ?_
  | with_reducible refine' s_neg ?_
  | ((with_reducible refine' s_mod ?h ?_); (case h => walk_at "ar")))
local macro_rules | `(tactic| walk_at "go") => `(tactic| repeat walk_at "st")

local macro_rules | `(tactic| walk_at "mg") => `(tactic| first | assumption | exact Facts.z_TypeError (by assumption) | exact Facts.z_ValueError (by assumption) | exact Facts.z_abs (by assumption) | exact Facts.z_all (by assumption) | exact Facts.z_bool (by assumption) | exact Facts.z_classmethod (by assumption) | exact Facts.z_enumerate (by assumption) | exact Facts.z_int (by assumption) | exact Facts.z_isinstance (by assumption) | exact Facts.z_len (by assumption) | exact Facts.z_list (by assumption) | exact Facts.z_max (by assumption) | exact Facts.z_min (by assumption) | exact Facts.z_property (by assumption) | exact Facts.z_range (by assumption) | exact Facts.z_sorted (by assumption) | exact Facts.z_str (by assumption) | exact Facts.z_sum (by assumption) | exact Facts.z_super (by assumption) | exact Facts.z_tuple (by assumption) | exact Facts.z_zip (by assumption) | exact Facts.g__wall (by assumption) | exact Facts.g_is_between (by assumption) | exact Facts.g_check_seat (by assumption) | exact Facts.g_seats_of (by assumption) | exact Facts.g_check_payment (by assumption) | exact Facts.g_balance_after (by assumption) | exact Facts.g_check_balance (by assumption) | exact Facts.g_sums_of_sets (by assumption) | exact Facts.g_number_of_groups (by assumption) | exact Facts.g_parted (by assumption) | exact Facts.g_payments_within (by assumption) | exact Facts.g_payments (by assumption) | exact Facts.g_fewest_payments (by assumption) | exact Facts.g_check_amount (by assumption) | exact Facts.g_check_seats (by assumption) | exact Facts.g_check_seat_count (by assumption) | exact Facts.g_check_mark (by assumption) | exact Facts.g_no_shares (by assumption) | exact Facts.g__law_random (by assumption) | exact Facts.g__law_below (by assumption) | exact Facts.g__law_shuffled (by assumption) | exact Facts.g__law_balance (by assumption) | exact Facts.g__law_shares (by assumption) | exact Facts.g__law_equal (by assumption) | exact Facts.g__law_error_of (by assumption) | exact Facts.g__law_all_raise (by assumption) | exact Facts.g_law (by assumption) | exact Facts.g_Shares (by assumption) | exact Facts.g_Bill (by assumption) | exact Facts.g_Page (by assumption) | exact Facts.g_Ledger (by assumption) | exact Facts.eg_InvalidBill (by assumption) | exact Facts.eg_InvalidEvening (by assumption) | exact Facts.eg_InvalidOperation (by assumption) | exact Facts.eg_InvalidMark (by assumption) | exact Facts.eg_UnknownSeat (by assumption) | exact Facts.eg_InvalidNumber (by assumption) | exact Facts.eg_NotBalanced (by assumption) | exact Facts.eg_EmptyGroup (by assumption) | exact Facts.eg_InvalidText (by assumption) | exact Facts.eg_InvalidReceipt (by assumption) | exact Facts.eg_DecodeError (by assumption))
local macro_rules | `(tactic| walk_at "kp") => `(tactic| first | assumption | exact (Facts.mk_Shares (by assumption)).kp | exact (Facts.mk_Bill (by assumption)).kp | exact (Facts.mk_Page (by assumption)).kp | exact (Facts.mk_Ledger (by assumption)).kp | exact Fun.kp (Facts.u__wall (by assumption)).choose_spec | exact Fun.kp (Facts.u_is_between (by assumption)).choose_spec | exact Fun.kp (Facts.u_check_seat (by assumption)).choose_spec | exact Fun.kp (Facts.u_seats_of (by assumption)).choose_spec | exact Fun.kp (Facts.u_check_payment (by assumption)).choose_spec | exact Fun.kp (Facts.u_balance_after (by assumption)).choose_spec | exact Fun.kp (Facts.u_check_balance (by assumption)).choose_spec | exact Fun.kp (Facts.u_sums_of_sets (by assumption)).choose_spec | exact Fun.kp (Facts.u_number_of_groups (by assumption)).choose_spec | exact Fun.kp (Facts.u_parted (by assumption)).choose_spec | exact Fun.kp (Facts.u_payments_within (by assumption)).choose_spec | exact Fun.kp (Facts.u_payments (by assumption)).choose_spec | exact Fun.kp (Facts.u_fewest_payments (by assumption)).choose_spec | exact Fun.kp (Facts.u_check_amount (by assumption)).choose_spec | exact Fun.kp (Facts.u_check_seats (by assumption)).choose_spec | exact Fun.kp (Facts.u_check_seat_count (by assumption)).choose_spec | exact Fun.kp (Facts.u_check_mark (by assumption)).choose_spec | exact Fun.kp (Facts.u_no_shares (by assumption)).choose_spec | exact Fun.kp (Facts.u__law_random (by assumption)).choose_spec | exact Fun.kp (Facts.u__law_below (by assumption)).choose_spec | exact Fun.kp (Facts.u__law_shuffled (by assumption)).choose_spec | exact Fun.kp (Facts.u__law_balance (by assumption)).choose_spec | exact Fun.kp (Facts.u__law_shares (by assumption)).choose_spec | exact Fun.kp (Facts.u__law_equal (by assumption)).choose_spec | exact Fun.kp (Facts.u__law_error_of (by assumption)).choose_spec | exact Fun.kp (Facts.u__law_all_raise (by assumption)).choose_spec | exact Fun.kp (Facts.u_law (by assumption)).choose_spec)
section
variable {P : Program} {w : World} {K : PySem.W.Frag} {mg : Str → Option Value} {base : Heap} {a : Ad}
/-- data of depth at most n, without dicts, short throughout -/
def okN : Nat → PyData → Prop
  | _, .none => True
  | _, .bool _ => True
  | _, .int _ => True
  | _, .str x => PyData.canLay0 (.str x) = true
  | _, .dict _ => False
  | 0, .list _ => False
  | 0, .tuple _ => False
  | n + 1, .list xs => xs.length < 1000 ∧ ∀ x ∈ xs, okN n x
  | n + 1, .tuple xs => xs.length < 1000 ∧ ∀ x ∈ xs, okN n x
theorem okN_all {n : Nat} : ∀ {xs : List PyData}, (∀ x ∈ xs, PyData.canLay0 x = true ∧ x.depth ≤ n) → PyData.canLayAll0 xs = true ∧ PyData.depthAll xs ≤ n
  | [], _ => ⟨by simp [PyData.canLayAll0], by simp [PyData.depthAll]⟩
  | x :: xs, h => by
    obtain ⟨a, b⟩ := h x (List.mem_cons_self ..)
    obtain ⟨c, d⟩ := okN_all (n := n) (xs := xs) fun y hy => h y (List.mem_cons_of_mem _ hy)
    exact ⟨by simp [PyData.canLayAll0, a, c], by simp only [PyData.depthAll]; omega⟩
theorem okN_lay : ∀ {n : Nat} {d : PyData}, okN n d → PyData.canLay0 d = true ∧ d.depth ≤ n
  | _, .none, _ => ⟨by simp [PyData.canLay0], by simp [PyData.depth]⟩
  | _, .bool _, _ => ⟨by simp [PyData.canLay0], by simp [PyData.depth]⟩
  | _, .int _, _ => ⟨by simp [PyData.canLay0], by simp [PyData.depth]⟩
  | _, .str _, h => ⟨by simpa [okN] using h, by simp [PyData.depth]⟩
  | _, .dict _, h => by simp [okN] at h
  | 0, .list _, h => by simp [okN] at h
  | 0, .tuple _, h => by simp [okN] at h
  | n + 1, .list xs, h => by
    have h' : xs.length < 1000 ∧ ∀ x ∈ xs, okN n x := by simpa [okN] using h
    obtain ⟨a, b⟩ := okN_all fun x hx => okN_lay (h'.2 x hx)
    exact ⟨by simpa [PyData.canLay0] using a, by simp only [PyData.depth]; omega⟩
  | n + 1, .tuple xs, h => by
    have h' : xs.length < 1000 ∧ ∀ x ∈ xs, okN n x := by simpa [okN] using h
    obtain ⟨a, b⟩ := okN_all fun x hx => okN_lay (h'.2 x hx)
    exact ⟨by simpa [PyData.canLay0] using a, by simp only [PyData.depth]; omega⟩
theorem okN_shaped {n : Nat} {d : PyData} (h : okN n d) (hn : n ≤ 64) : SeqAt.shaped d = true := by
  obtain ⟨a, b⟩ := okN_lay h
  simp only [SeqAt.shaped, a, Bool.true_and, decide_eq_true_eq]
  omega
/-- the parts of a list, a tuple -/
def parts : PyData → List PyData
  | .list xs => xs
  | .tuple xs => xs
  | _ => []
theorem isTL_parts {K : PySem.W.Frag} {H : Hp} {v : V} {d : PyData} (h : Dp K H v d) (t : isTL d = true) : ∃ p vs, v = .ref p ∧ (SqL K H p vs ∨ SqT K H p vs) ∧ DpAll K H vs (parts d) := by
  cases h with
  | lst h hs => exact ⟨_, _, rfl, .inl h, hs⟩
  | tup h hs => exact ⟨_, _, rfl, .inr h, hs⟩
  | _ => cases t
theorem okN_parts {n : Nat} {d : PyData} (h : okN n d) (t : isTL d = true) : ∃ m, n = m + 1 ∧ (parts d).length < 1000 ∧ ∀ x ∈ parts d, okN m x := by
  cases n with
  | zero => cases d <;> first | (simp [isTL] at t; done) | (simp [okN] at h)
  | succ n => cases d <;> first | (simp [isTL] at t; done) | exact ⟨n, rfl, by simpa [okN, parts] using h⟩
theorem s_lenS {X0 : Cx} {E : XK} {H : Hp} {Q : VK} {a : Addr} {xs : List V} (h : SqL X0.K H a xs ∨ SqT X0.K H a xs) (q : Q (.int xs.length) H) : ∃ r, CaD X0 E (.builtin "len") r ∧ r [.ref a] H Q :=
  h.elim (fun h => s_lenL h q) fun h => s_lenT h q
theorem s_ixS {X0 : Cx} {E : XK} {H : Hp} {Q : VK} {a : Addr} {xs : List V} {i : Int} {v : V} (h : SqL X0.K H a xs ∨ SqT X0.K H a xs) (ha : atI xs i = some v) (q : Q v H) : ∃ r, IxD X0 E r ∧ r (.ref a) (.int i) H Q :=
  h.elim (fun h => s_ixL h ha q) fun h => s_ixT h ha q
theorem sqS_same {K : PySem.W.Frag} {H H' : Hp} {a : Addr} {xs : List V} (s : Same H H') (h : SqL K H a xs ∨ SqT K H a xs) : SqL K H' a xs ∨ SqT K H' a xs := h.imp s.seq (same_t s)
/-- equal as lists, index by index -/
theorem list_ext_get {α : Type} {xs ys : List α} (h : xs.length = ys.length) : xs = ys ↔ ∀ (i : Nat) (x y : α), xs[i]? = some x → ys[i]? = some y → x = y := by
  constructor
  · rintro rfl i x y h1 h2
    rw [h1] at h2
    exact Option.some.inj h2
  · intro k
    refine List.ext_getElem? fun i => ?_
    by_cases hi : i < xs.length
    · have e1 := List.getElem?_eq_getElem hi
      have e2 := List.getElem?_eq_getElem (h ▸ hi : i < ys.length)
      rw [e1, e2, k i _ _ e1 e2]
    · rw [List.getElem?_eq_none (by omega), List.getElem?_eq_none (by omega)]
theorem eq_parts {d e : PyData} (hd : isTL d = true) (he : isTL e = true) (hl : isL d = isL e) : d = e ↔ parts d = parts e := by
  cases d <;> cases e <;> first | (simp [isTL] at hd; done) | (simp [isTL] at he; done) | (simp [isL] at hl; done) | (simp [parts])
theorem eqv_leaf {d e : PyData} (he : isTL e = false) (hB : isB d = isB e) (hI : isI d = isI e) (hn : ∀ kvs, e ≠ .dict kvs) : PyData.eqv d e = true ↔ d = e := by
  cases e with
  | dict kvs => exact absurd rfl (hn kvs)
  | list _ => exact absurd he (by simp [isTL])
  | tuple _ => exact absurd he (by simp [isTL])
  | none => cases d <;> simp_all [PyData.eqv, isI, isB]
  | bool b => cases d <;> simp_all [PyData.eqv, isI, isB]
  | int i => cases d <;> simp_all [PyData.eqv, isI, isB]
  | str x => cases d <;> simp_all [PyData.eqv, isI, isB]

end
/-! ### draws from the large cells of the script, then from a seed -/
section
theorem ixn_low {n : Nat} {k : Nat} (h : k < n) : ixN n (k : Int) = some k := by rw [ixN_of (by omega) (by omega), Int.toNat_natCast]
variable {P : Program} {w : World} {K : PySem.W.Frag} {mg : Str → Option Value} {base : Heap} {a : Ad}
/-- a state of draws at st -/
def DSt (st : Addr) (H : Hp) : Prop := ∃ (m r : Int) (cs : List Int), H st = some (.lst (.int m :: .int r :: cs.map V.int)) ∧ cs.length ≤ 63
theorem DSt.same {st : Addr} {H H' : Hp} (h : DSt st H) (s : Same H H') : DSt st H' := let ⟨a, b, c, h1, h2⟩ := h; ⟨a, b, c, s _ _ h1, h2⟩
theorem DSt.lst {st : Addr} {H : Hp} (h : DSt st H) : ∃ l, H st = some (.lst l) := let ⟨_, _, _, h1, _⟩ := h; ⟨_, h1⟩
theorem DSt.ne {st p : Addr} {H : Hp} (h : DSt st H) (e : H p = none) : ¬ p = st := fun z => by
  obtain ⟨l, h1⟩ := h.lst
  rw [z, h1] at e
  cases e
theorem DSt.ok {st : Addr} {H : Hp} (h : DSt st H) : ∀ b, b = st → H b ≠ none := fun b e z => h.ne (e ▸ z) rfl
theorem DSt.upd {st p : Addr} {H : Hp} {o : HO} (h : DSt st H) (n : ¬ p = st) : DSt st (upd H p o) := let ⟨a, b, c, h1, h2⟩ := h; ⟨a, b, c, by rw [upd_ne (fun z => n z.symm)]; exact h1, h2⟩
theorem DSt.keepT {st q : Addr} {H H' : Hp} {xs : List V} (h : DSt st H) (s : SameB (· = st) H H') (e : H q = some (.tup xs)) : H' q = some (.tup xs) := s _ _ (fun z => by obtain ⟨l, hl⟩ := h.lst; rw [show q = st from z, hl] at e; cases e) e
def spRandom (K : PySem.W.Frag) : Sp := fun vs H Q _ => ∃ (sc : Addr) (ns : List Int) (i : Int), vs = [.ref sc, .int i] ∧ SqL K H sc (ns.map V.int) ∧ ns.length ≤ 63 ∧ ∀ p H', H p = none → Same H H' → DSt p H' → Q (.ref p) H'
theorem ok_random (T : Facts K mg a) : FnR P w K mg base (L2.CX P w) 1 a.f__law_random (spRandom K) := by
  obtain ⟨fd, F⟩ := T.u__law_random
  refine fnr_ok F sc__law_random (F.binds fun _ _ _ _ _ _ us hl => match us, hl with | [_, _], _ => rfl) (fun vs H Q E h => ?_) (fun cdv A outer s H vs Q E hr h => ?_)
  · obtain ⟨sc, ns, i, rfl, _⟩ := h
    rfl
  · obtain ⟨sc, ns, i0, rfl, hs, hl, q⟩ := h
    refine ⟨_, (pss_cons (ps_set (i := 2) sc__law_random.nd rfl (Or.inl rfl) (pv 1))
    (pss_cons (ps_for own_main rfl (pi_seqA Like.refl (pv 0)) (pg_name (i := 3) sc__law_random.nd rfl (Or.inl rfl)) (pss_one (ps_set (i := 2) sc__law_random.nd rfl (Or.inl rfl) (pe_opA Like.refl pas_main (pe_opA Like.refl pas_main (pe_opA Like.refl pas_main (pv 2) (pe_int)) (pe_biA (id := "abs") Like.refl pas_main (by rfl) (by decide +kernel) (pa_cons (pv 3) pa_nil))) (pe_int)))))
    (pss_one (ps_ret (pe_opA Like.refl pas_main (pe_lst (pa_cons (pv 2) (pa_cons (pe_int) pa_nil))) (pe_lc (own := [("_law_cell", 3)]) (g := gName 3) (tt := _) rfl sc__law_random.nd (pi_seqA Like.refl (pv 0)) (blkOk_by (own := [("_law_cell", 3)]) (N := N__law_random) (sc := defScope s__law_random) (by decide +kernel)) (fun _ _ _ _ _ => (pg_name (i := 3) sc__law_random.nd rfl (by first | exact Or.inl rfl | exact Or.inr rfl))) (fun _ _ _ _ _ => pts_one (pt_cmpA ⟨rfl, rfl, rfl, rfl, rfl, rfl, rfl⟩ passL (pv 3) (pe_opA ⟨rfl, rfl, rfl, rfl, rfl, rfl, rfl⟩ passL (pe_int) (pe_int)) (nomark _))) (fun _ _ _ _ _ => (pv 3)))))))), ?_⟩
    walk_at "go"
    refine f_lst (xs := ns.map V.int) (a := sc) (fun i σ H' => H' = H ∧ ∃ (m : Int) (v : Option V), σ = [some (.ref sc), some (.int i0), some (.int m), v]) (fun R k => by walk_at "go"; exact k) ⟨rfl, i0, none, rfl⟩ (fun i σ H' _ ⟨e, _⟩ => by rw [e]; exact hs) ?_ ?_
    · rintro i x σ H' hx ⟨rfl, m, v, rfl⟩
      rw [List.getElem?_map] at hx
      cases e : ns[i]? with
      | none => rw [e] at hx; cases hx
      | some c =>
        rw [e] at hx
        cases hx
        refine w_name ?_
        walk_at "go"
        refine s_mul (.inr ⟨by decide, by decide⟩) ?_
        walk_at "go"
        refine s_absZ ?_
        walk_at "go"
        exact ⟨rfl, _, _, rfl⟩
    · rintro σ H' ⟨rfl, m, v, rfl⟩
      walk_at "go"
      refine ⟨by show 2 ≤ sizeLine; decide, fun l hl0 => ?_⟩
      have s1 := same_new (o := .lst [.int m, .int 0]) hl0
      walk_at "go"
      refine c_list (a := sc) (xs := ns.map V.int) (fun i => ((ns.take i).filter fun z => decide (z ≥ 10 ^ (18 : Int).toNat)).map V.int) rfl (fun i hi => ?_) (s1.seq hs) (fun _ => rfl) (fun i x H2 hx s2 => ?_) (fun p3 H3 hp3 s3 h3 => ?_) (fun R k => by walk_at "go"; exact k)
      · rw [List.length_map]
        have := List.length_filter_le (fun z : Int => decide (z ≥ 10 ^ (18 : Int).toNat)) (ns.take i)
        rw [List.length_take] at this
        omega
      · rw [List.getElem?_map] at hx
        cases e : ns[i]? with
        | none => rw [e] at hx; cases hx
        | some c =>
          rw [e] at hx
          cases hx
          have eo : ((ns.take (i + 1)).filter fun z => decide (z ≥ 10 ^ (18 : Int).toNat)).map V.int = if (decide (c ≥ 10 ^ (18 : Int).toNat)) = true then (((ns.take i).filter fun z => decide (z ≥ 10 ^ (18 : Int).toNat)).map V.int) ++ [V.int c] else ((ns.take i).filter fun z => decide (z ≥ 10 ^ (18 : Int).toNat)).map V.int := by
            rw [List.take_add_one, e, List.filter_append, List.map_append]
            simp only [Option.toList_some, List.filter_cons, List.filter_nil]
            split <;> simp
          show Turn1 _ _ _ _ (((ns.take i).filter fun z => decide (z ≥ 10 ^ (18 : Int).toNat)).map V.int) (((ns.take (i + 1)).filter fun z => decide (z ≥ 10 ^ (18 : Int).toNat)).map V.int)
          rw [eo]
          refine turn1_filter (fun R hR => ?_) (fun _ H3 _ R hR => ?_)
          · walk_at "go"
            refine s_pow ⟨by decide, by decide, by decide⟩ ?_
            walk_at "go"
            exact hR _ (Same.refl _)
          · walk_at "go"
            exact hR _ (Same.refl _)
      · rw [List.length_map, List.take_of_length_le (Nat.le_refl _)] at h3
        have hf := List.length_filter_le (fun z : Int => decide (z ≥ 10 ^ (18 : Int).toNat)) ns
        refine s_cat (s3 _ _ upd_same) h3 (by rw [List.length_map]; exact Nat.le_trans (show 2 + (ns.filter fun z => decide (z ≥ 10 ^ (18 : Int).toNat)).length ≤ 65 by omega) (by decide)) fun p hp => ?_
        have s4 := (s1.trans s3).trans (same_new (o := .lst ([V.int m, .int 0] ++ (ns.filter fun z => decide (z ≥ 10 ^ (18 : Int).toNat)).map V.int)) hp)
        exact q p _ ((s1.trans s3).free hp) s4 ⟨m, 0, _, upd_same, Nat.le_trans hf hl⟩
def spBelow : Sp := fun vs H Q _ => ∃ (st : Addr) (n : Int), vs = [.ref st, .int n] ∧ DSt st H ∧ 0 < n ∧ n < 2 ^ 80 ∧ ∀ (v : Int) H', 0 ≤ v → v < n → SameB (· = st) H H' → DSt st H' → Q (.int v) H'
theorem ok_below (T : Facts K mg a) : FnR P w K mg base (L2.CX P w) 1 a.f__law_below spBelow := by
  obtain ⟨fd, F⟩ := T.u__law_below
  refine fnr_ok F sc__law_below (F.binds fun _ _ _ _ _ _ us hl => match us, hl with | [_, _], _ => rfl) (fun vs H Q E h => ?_) (fun cdv A outer s H vs Q E hr h => ?_)
  · obtain ⟨st, n, rfl, _⟩ := h
    rfl
  · obtain ⟨st, n, rfl, ⟨m, r, cs, h1, hc⟩, hn, hn2, q⟩ := h
    have hW : ∀ i : Int, CDivW i n := fun i => wide_div (b := 80) hn (by omega) (by decide) (by decide)
    have sb : ∀ (H1 : Hp) o, SameB (· = st) H H1 → SameB (· = st) H (upd H1 st o) := fun H1 o s b u nb e => by rw [upd_ne nb]; exact s _ _ nb e
    refine ⟨_, (pss_cons (ps_if (PW.pt (pw_and (pt_cmpA Like.refl pas_main (pe_ixA Like.refl pas_main (pv 0) (pe_int)) (pe_int) (nomark _)) (pw_and1 (pt_cmpA Like.refl pas_main (pe_biA (id := "len") Like.refl pas_main (by rfl) (by decide +kernel) (pa_cons (pv 0) pa_nil)) (pe_int) (nomark _))))) (pss_one (ps_asg (pe_bm PySem.F.plainAttrs_list PySem.F.slot_list_pop PySem.F.type_list_pop mt_popAt (pv 0) (pa_cons (pe_int) pa_nil)) (pg_sub (pv 0) (pe_int) set_list))) pss_nil)
    (pss_cons (ps_if (pt_cmpA Like.refl pas_main (pe_ixA Like.refl pas_main (pv 0) (pe_int)) (pe_int) (nomark _)) (pss_cons (ps_set (i := 2) sc__law_below.nd rfl (Or.inl rfl) (pe_opA Like.refl pas_main (pe_ixA Like.refl pas_main (pv 0) (pe_int)) (pv 1)))
    (pss_cons (ps_asg (pe_opA Like.refl pas_main (pe_ixA Like.refl pas_main (pv 0) (pe_int)) (pv 1)) (pg_sub (pv 0) (pe_int) set_list))
    (pss_one (ps_ret (pv 2))))) pss_nil)
    (pss_cons (ps_asg (pe_opA Like.refl pas_main (pe_opA Like.refl pas_main (pe_opA Like.refl pas_main (pe_ixA Like.refl pas_main (pv 0) (pe_int)) (pe_int)) (pe_int)) (pe_int)) (pg_sub (pv 0) (pe_int) set_list))
    (pss_one (ps_ret (pe_opA Like.refl pas_main (pe_opA Like.refl pas_main (pe_ixA Like.refl pas_main (pv 0) (pe_int)) (pe_int)) (pv 1))))))), ?_⟩
    walk_at "go"
    refine s_ixL (SqL.of h1) (v := .int r) (at_of (j := 1) rfl rfl) ?_
    walk_at "go"
    refine ite_d (fun h0 => ?_) (fun h0 => ?_)
    · walk_at "go"
      refine s_lenL (SqL.of h1) ?_
      walk_at "go"
      refine ite_d (fun h2 => ?_) (fun h2 => ?_)
      · obtain ⟨c, cs2, rfl⟩ : ∃ c cs2, cs = c :: cs2 := by
          cases cs with
          | nil => simp at h2
          | cons c cs2 => exact ⟨c, cs2, rfl⟩
        walk_at "go"
        refine w_bm ?_
        walk_at "go"
        refine ⟨.inl ⟨rfl, _, SqL.of h1⟩, ?_⟩
        walk_at "go"
        refine ⟨st, _, 2, 2, .int c, rfl, rfl, h1, by decide, by decide, (ixN_seq (ixn_low (k := 2) (by simp))).1, rfl, ?_⟩
        refine w_gsub ?_
        walk_at "go"
        refine s_setL upd_same (j := 1) (ixn_low (k := 1) (by simp)) ?_
        generalize eH : upd (upd H st (HO.lst _)) st (HO.lst _) = H1
        have g1 : H1 st = some (.lst (.int m :: .int c :: cs2.map V.int)) := by rw [← eH]; exact upd_same
        have sb1 : SameB (· = st) H H1 := by rw [← eH]; exact sb _ _ (sb _ _ (SameB.refl _))
        have hc1 : cs2.length ≤ 63 := by simp at hc; omega
        walk_at "go"
        refine s_ixL (SqL.of g1) (v := .int c) (at_of (j := 1) rfl rfl) ?_
        walk_at "go"
        refine ite_d (fun hp => ?_) (fun hp => ?_)
        · walk_at "go"
          refine s_ixL (SqL.of g1) (v := .int c) (at_of (j := 1) rfl rfl) ?_
          walk_at "go"
          refine s_ixL (SqL.of g1) (v := .int c) (at_of (j := 1) rfl rfl) ?_
          walk_at "go"
          refine s_fdivW (hW _) ?_
          refine w_gsub ?_
          walk_at "go"
          refine s_setL g1 (j := 1) (ixn_low (k := 1) (by simp)) ?_
          walk_at "go"
          exact q _ _ (Int.emod_nonneg _ (by omega)) (Int.emod_lt_of_pos _ hn) (sb _ _ sb1) ⟨m, _, cs2, upd_same, hc1⟩
        · walk_at "go"
          refine s_ixL (SqL.of g1) (v := .int m) (at_of (j := 0) rfl rfl) ?_
          walk_at "go"
          refine s_mul (.inr ⟨by decide, by decide⟩) ?_
          walk_at "go"
          refine w_gsub ?_
          walk_at "go"
          refine s_setL g1 (j := 0) (ixn_low (k := 0) (by simp)) ?_
          walk_at "go"
          refine s_ixL (SqL.of upd_same) (v := .int ((m * 48271 + 11) % 2147483647)) (at_of (j := 0) rfl rfl) ?_
          walk_at "go"
          refine s_fdiv ⟨by decide, by decide⟩ ?_
          walk_at "go"
          exact q _ _ (Int.emod_nonneg _ (by omega)) (Int.emod_lt_of_pos _ hn) (sb _ _ sb1) ⟨_, c, cs2, upd_same, hc1⟩
      · have g1 := h1
        have sb1 : SameB (· = st) H H := SameB.refl _
        have hc1 := hc
        walk_at "go"
        refine s_ixL (SqL.of g1) (v := .int r) (at_of (j := 1) rfl rfl) ?_
        walk_at "go"
        refine ite_d (fun hp => ?_) (fun hp => ?_)
        · walk_at "go"
          refine s_ixL (SqL.of g1) (v := .int r) (at_of (j := 1) rfl rfl) ?_
          walk_at "go"
          refine s_ixL (SqL.of g1) (v := .int r) (at_of (j := 1) rfl rfl) ?_
          walk_at "go"
          refine s_fdivW (hW _) ?_
          refine w_gsub ?_
          walk_at "go"
          refine s_setL g1 (j := 1) (ixn_low (k := 1) (by simp)) ?_
          walk_at "go"
          exact q _ _ (Int.emod_nonneg _ (by omega)) (Int.emod_lt_of_pos _ hn) (sb _ _ sb1) ⟨m, _, cs, upd_same, hc1⟩
        · walk_at "go"
          refine s_ixL (SqL.of g1) (v := .int m) (at_of (j := 0) rfl rfl) ?_
          walk_at "go"
          refine s_mul (.inr ⟨by decide, by decide⟩) ?_
          walk_at "go"
          refine w_gsub ?_
          walk_at "go"
          refine s_setL g1 (j := 0) (ixn_low (k := 0) (by simp)) ?_
          walk_at "go"
          refine s_ixL (SqL.of upd_same) (v := .int ((m * 48271 + 11) % 2147483647)) (at_of (j := 0) rfl rfl) ?_
          walk_at "go"
          refine s_fdiv ⟨by decide, by decide⟩ ?_
          walk_at "go"
          exact q _ _ (Int.emod_nonneg _ (by omega)) (Int.emod_lt_of_pos _ hn) (sb _ _ sb1) ⟨_, r, cs, upd_same, hc1⟩
    · have g1 := h1
      have sb1 : SameB (· = st) H H := SameB.refl _
      have hc1 := hc
      walk_at "go"
      refine s_ixL (SqL.of g1) (v := .int r) (at_of (j := 1) rfl rfl) ?_
      walk_at "go"
      refine ite_d (fun hp => ?_) (fun hp => ?_)
      · walk_at "go"
        refine s_ixL (SqL.of g1) (v := .int r) (at_of (j := 1) rfl rfl) ?_
        walk_at "go"
        refine s_ixL (SqL.of g1) (v := .int r) (at_of (j := 1) rfl rfl) ?_
        walk_at "go"
        refine s_fdivW (hW _) ?_
        refine w_gsub ?_
        walk_at "go"
        refine s_setL g1 (j := 1) (ixn_low (k := 1) (by simp)) ?_
        walk_at "go"
        exact q _ _ (Int.emod_nonneg _ (by omega)) (Int.emod_lt_of_pos _ hn) (sb _ _ sb1) ⟨m, _, cs, upd_same, hc1⟩
      · walk_at "go"
        refine s_ixL (SqL.of g1) (v := .int m) (at_of (j := 0) rfl rfl) ?_
        walk_at "go"
        refine s_mul (.inr ⟨by decide, by decide⟩) ?_
        walk_at "go"
        refine w_gsub ?_
        walk_at "go"
        refine s_setL g1 (j := 0) (ixn_low (k := 0) (by simp)) ?_
        walk_at "go"
        refine s_ixL (SqL.of upd_same) (v := .int ((m * 48271 + 11) % 2147483647)) (at_of (j := 0) rfl rfl) ?_
        walk_at "go"
        refine s_fdiv ⟨by decide, by decide⟩ ?_
        walk_at "go"
        exact q _ _ (Int.emod_nonneg _ (by omega)) (Int.emod_lt_of_pos _ hn) (sb _ _ sb1) ⟨_, r, cs, upd_same, hc1⟩
end

/-! ### the laws' comparison, kind by kind -/
section
variable {P : Program} {w : World} {K : PySem.W.Frag} {mg : Str → Option Value} {base : Heap} {a : Ad}
def isS : PyData → Bool
  | .str _ => true
  | _ => false
def isT : PyData → Bool
  | .tuple _ => true
  | _ => false
theorem kit_S (d : PyData) (hd : ∀ kvs, d ≠ .dict kvs) : kitB (tyn d) "str" = some (isS d) := by
  cases d with
  | dict kvs => exact absurd rfl (hd kvs)
  | list xs => exact (by decide +kernel : kitB "list" "str" = some false)
  | tuple xs => exact (by decide +kernel : kitB "tuple" "str" = some false)
  | none => exact (by decide +kernel : kitB "NoneType" "str" = some false)
  | bool b => exact (by decide +kernel : kitB "bool" "str" = some false)
  | int i => exact (by decide +kernel : kitB "int" "str" = some false)
  | str x => exact (by decide +kernel : kitB "str" "str" = some true)
theorem kit_T (d : PyData) (hd : ∀ kvs, d ≠ .dict kvs) : kitB (tyn d) "tuple" = some (isT d) := by
  cases d with
  | dict kvs => exact absurd rfl (hd kvs)
  | list xs => exact (by decide +kernel : kitB "list" "tuple" = some false)
  | tuple xs => exact (by decide +kernel : kitB "tuple" "tuple" = some true)
  | none => exact (by decide +kernel : kitB "NoneType" "tuple" = some false)
  | bool b => exact (by decide +kernel : kitB "bool" "tuple" = some false)
  | int i => exact (by decide +kernel : kitB "int" "tuple" = some false)
  | str x => exact (by decide +kernel : kitB "str" "tuple" = some false)
theorem s_isNon {X0 : Cx} {E : XK} {H : Hp} {Q : VK} {x : V} (q : Q (.bl (decide (x = .non))) H) : ∃ r, OpD X0 E (compareOp .Is) r ∧ r x .non H Q := ⟨_, fun _ _ _ => op_isN, rfl, q⟩
theorem dp_non {K : PySem.W.Frag} {H : Hp} {v : V} {d : PyData} (h : Dp K H v d) : v = .non ↔ d = .none := by
  constructor
  · rintro rfl; cases h; rfl
  · rintro rfl; cases h; rfl
def spEqual (K : PySem.W.Frag) (n : Nat) : Sp := fun vs H Q _ => ∃ x y d e, vs = [x, y] ∧ Dp K H x d ∧ Dp K H y e ∧ okN n d ∧ okN n e ∧ ∀ b H', Same H H' → (b = true ↔ d = e) → Q (.bl b) H'
open Classical in
theorem ok_equal_at (T : Facts K mg a) (n : Nat) (hn : n ≤ 20) (ih : ∀ m, n = m + 1 → FnR P w K mg base (L2.CX P w) (m + 1) a.f__law_equal (spEqual K m)) : FnR P w K mg base (L2.CX P w) (n + 1) a.f__law_equal (spEqual K n) := by
  obtain ⟨fd, F⟩ := T.u__law_equal
  refine fnr_ok F sc__law_equal (F.binds fun _ _ _ _ _ _ us hl => match us, hl with | [_, _], _ => rfl) (fun vs H Q E h => ?_) (fun cdv A outer s H vs Q E hr h => ?_)
  · obtain ⟨x, y, d, e, rfl, _⟩ := h
    rfl
  · obtain ⟨x, y, d, e, rfl, hd, he, od, oe, q⟩ := h
    have hr' := hr.units
    have nd := dp_nd hd
    have ne := dp_nd he
    have no : ∀ {p : Prop} (b : Bool), b = false → ¬ p → (b = true ↔ p) := fun b hb hp => ⟨fun z => (by rw [hb] at z; cases z), fun z => absurd z hp⟩
    have leaf : isTL e = false → isB d = isB e → isI d = isI e → (PyData.eqv d e = true ↔ d = e) := fun h1 h2 h3 => eqv_leaf h1 h2 h3 ne
    refine ⟨_, (pss_cons (ps_if (pt_cmpA Like.refl pas_main (pv 1) (pe_non) (nomark _)) (pss_one (ps_ret (pe_cmpA Like.refl pas_main (pv 0) (pe_non) (nomark _)))) pss_nil)
    (pss_cons (ps_if (pt_trA Like.refl pas_main (pe_biA (id := "isinstance") Like.refl pas_main (by rfl) (by decide +kernel) (pa_cons (pv 1) (pa_cons (pe_bvA (v := .ty "bool") Like.refl (by rfl) (by decide +kernel) rfl) pa_nil)))) (pss_one (ps_ret (pe_and (pe_biA (id := "isinstance") Like.refl pas_main (by rfl) (by decide +kernel) (pa_cons (pv 0) (pa_cons (pe_bvA (v := .ty "bool") Like.refl (by rfl) (by decide +kernel) rfl) pa_nil))) (pe_one (pe_cmpA Like.refl pas_main (pv 0) (pv 1) (nomark _)))))) pss_nil)
    (pss_cons (ps_if (pt_trA Like.refl pas_main (pe_biA (id := "isinstance") Like.refl pas_main (by rfl) (by decide +kernel) (pa_cons (pv 1) (pa_cons (pe_bvA (v := .ty "int") Like.refl (by rfl) (by decide +kernel) rfl) pa_nil)))) (pss_one (ps_ret (pe_and (pe_biA (id := "isinstance") Like.refl pas_main (by rfl) (by decide +kernel) (pa_cons (pv 0) (pa_cons (pe_bvA (v := .ty "int") Like.refl (by rfl) (by decide +kernel) rfl) pa_nil))) (pe_and (pe_notA Like.refl pas_main (pe_biA (id := "isinstance") Like.refl pas_main (by rfl) (by decide +kernel) (pa_cons (pv 0) (pa_cons (pe_bvA (v := .ty "bool") Like.refl (by rfl) (by decide +kernel) rfl) pa_nil)))) (pe_one (pe_cmpA Like.refl pas_main (pv 0) (pv 1) (nomark _))))))) pss_nil)
    (pss_cons (ps_if (pt_trA Like.refl pas_main (pe_biA (id := "isinstance") Like.refl pas_main (by rfl) (by decide +kernel) (pa_cons (pv 1) (pa_cons (pe_bvA (v := .ty "str") Like.refl (by rfl) (by decide +kernel) rfl) pa_nil)))) (pss_one (ps_ret (pe_and (pe_biA (id := "isinstance") Like.refl pas_main (by rfl) (by decide +kernel) (pa_cons (pv 0) (pa_cons (pe_bvA (v := .ty "str") Like.refl (by rfl) (by decide +kernel) rfl) pa_nil))) (pe_one (pe_cmpA Like.refl pas_main (pv 0) (pv 1) (nomark _)))))) pss_nil)
    (pss_cons (ps_if (pt_cmpA Like.refl pas_main (pe_biA (id := "isinstance") Like.refl pas_main (by rfl) (by decide +kernel) (pa_cons (pv 1) (pa_cons (pe_bvA (v := .ty "tuple") Like.refl (by rfl) (by decide +kernel) rfl) pa_nil))) (pe_biA (id := "isinstance") Like.refl pas_main (by rfl) (by decide +kernel) (pa_cons (pv 0) (pa_cons (pe_bvA (v := .ty "tuple") Like.refl (by rfl) (by decide +kernel) rfl) pa_nil))) (nomark _)) (pss_one (ps_ret (pe_bl))) pss_nil)
    (pss_cons (ps_if (pt_cmpA Like.refl pas_main (pe_biA (id := "isinstance") Like.refl pas_main (by rfl) (by decide +kernel) (pa_cons (pv 1) (pa_cons (pe_bvA (v := .ty "list") Like.refl (by rfl) (by decide +kernel) rfl) pa_nil))) (pe_biA (id := "isinstance") Like.refl pas_main (by rfl) (by decide +kernel) (pa_cons (pv 0) (pa_cons (pe_bvA (v := .ty "list") Like.refl (by rfl) (by decide +kernel) rfl) pa_nil))) (nomark _)) (pss_one (ps_ret (pe_bl))) pss_nil)
    (pss_cons (ps_if (pt_cmpA Like.refl pas_main (pe_biA (id := "len") Like.refl pas_main (by rfl) (by decide +kernel) (pa_cons (pv 0) pa_nil)) (pe_biA (id := "len") Like.refl pas_main (by rfl) (by decide +kernel) (pa_cons (pv 1) pa_nil)) (nomark _)) (pss_one (ps_ret (pe_bl))) pss_nil)
    (pss_one (ps_ret (pe_biA (id := "all") Like.refl pas_main (by rfl) (by decide +kernel) (pa_cons (pe_lc (own := [("_law_k", 2)]) (g := gName 2) (tt := tYes) rfl sc__law_equal.nd (pi_range1 (by rfl) T.z_range (pa_cons (pe_biA (id := "len") Like.refl pas_main (by rfl) (by decide +kernel) (pa_cons (pv 1) pa_nil)) pa_nil)) (blkOk_by (own := [("_law_k", 2)]) (N := N__law_equal) (sc := defScope s__law_equal) (by decide +kernel)) (fun _ _ _ _ _ => (pg_name (i := 2) sc__law_equal.nd rfl (by first | exact Or.inl rfl | exact Or.inr rfl))) (fun _ _ _ _ _ => pts_nil) (fun _ _ _ _ _ => (pe_glA ⟨rfl, rfl, rfl, rfl, rfl, rfl, rfl⟩ passL (by rfl) (pa_cons (pe_ixA ⟨rfl, rfl, rfl, rfl, rfl, rfl, rfl⟩ passL (pv 0) (pv 2)) (pa_cons (pe_ixA ⟨rfl, rfl, rfl, rfl, rfl, rfl, rfl⟩ passL (pv 1) (pv 2)) pa_nil))))) pa_nil))))))))))), ?_⟩
    walk_at "go"
    refine s_isNon ?_
    walk_at "go"
    refine ite_d (fun hN => ?_) (fun hN => ?_)
    · walk_at "go"
      refine s_isNon ?_
      refine q _ _ (Same.refl _) ?_
      have eN := (dp_non he).1 hN
      rw [decide_eq_true_iff, dp_non hd, eN]
    · have eN : e ≠ .none := fun z => hN ((dp_non he).2 z)
      walk_at "go"
      refine s_isiD he (kit_B e ne) ?_
      walk_at "go"
      cases eB : isB e with
      | true =>
        walk_at "go"
        refine s_isiD hd (kit_B d nd) ?_
        walk_at "go"
        cases dB : isB d with
        | false =>
          walk_at "go"
          exact q false _ (Same.refl _) (no false rfl fun z => by rw [z, eB] at dB; cases dB)
        | true =>
          walk_at "go"
          refine s_eqD hr' hd he (okN_shaped od (by omega)) (okN_shaped oe (by omega)) ?_
          exact q _ _ (Same.refl _) (leaf (by cases e <;> simp_all [isB, isTL]) (by rw [eB, dB]) (by cases e <;> cases d <;> simp_all [isB, isI]))
      | false =>
        walk_at "go"
        refine s_isiD he (kit_I e ne) ?_
        walk_at "go"
        cases eI : isI e with
        | true =>
          walk_at "go"
          refine s_isiD hd (kit_I d nd) ?_
          walk_at "go"
          cases dI : isI d with
          | false =>
            walk_at "go"
            exact q false _ (Same.refl _) (no false rfl fun z => by rw [z, eI] at dI; cases dI)
          | true =>
            walk_at "go"
            refine s_isiD hd (kit_B d nd) ?_
            walk_at "go"
            cases dB : isB d with
            | true =>
              walk_at "go"
              exact q false _ (Same.refl _) (no false rfl fun z => by rw [z, eB] at dB; cases dB)
            | false =>
              walk_at "go"
              refine s_eqD hr' hd he (okN_shaped od (by omega)) (okN_shaped oe (by omega)) ?_
              exact q _ _ (Same.refl _) (leaf (by cases e <;> simp_all [isI, isTL]) (by rw [eB, dB]) (by rw [eI, dI]))
        | false =>
          walk_at "go"
          refine s_isiD he (kit_S e ne) ?_
          walk_at "go"
          cases eS : isS e with
          | true =>
            walk_at "go"
            refine s_isiD hd (kit_S d nd) ?_
            walk_at "go"
            cases dS : isS d with
            | false =>
              walk_at "go"
              exact q false _ (Same.refl _) (no false rfl fun z => by rw [z, eS] at dS; cases dS)
            | true =>
              walk_at "go"
              refine s_eqD hr' hd he (okN_shaped od (by omega)) (okN_shaped oe (by omega)) ?_
              exact q _ _ (Same.refl _) (leaf (by cases e <;> simp_all [isS, isTL]) (by cases e <;> cases d <;> simp_all [isS, isB]) (by cases e <;> cases d <;> simp_all [isS, isI]))
          | false =>
            have te : isTL e = true := by cases e <;> simp_all [isS, isI, isB, isTL]
            walk_at "go"
            refine s_isiD he (kit_T e ne) ?_
            walk_at "go"
            refine s_isiD hd (kit_T d nd) ?_
            walk_at "go"
            refine ite_n (fun hT => ?_) (fun hT => ?_)
            · walk_at "go"
              exact q false _ (Same.refl _) (no false rfl fun z => hT (by rw [z]))
            · walk_at "go"
              refine s_isiD he (kit_L e ne) ?_
              walk_at "go"
              refine s_isiD hd (kit_L d nd) ?_
              walk_at "go"
              refine ite_n (fun hl => ?_) (fun hl => ?_)
              · walk_at "go"
                exact q false _ (Same.refl _) (no false rfl fun z => hl (by rw [z]))
              · have td : isTL d = true := by cases e <;> cases d <;> simp_all [isT, isL, isTL]
                obtain ⟨p, xs, rfl, hx, px⟩ := isTL_parts hd td
                obtain ⟨p2, ys, rfl, hy, py⟩ := isTL_parts he te
                obtain ⟨m, em, lx, ox⟩ := okN_parts od td
                obtain ⟨m2, em2, ly, oy⟩ := okN_parts oe te
                obtain rfl : m = m2 := by omega
                have elx := dpAll_len px
                have ely := dpAll_len py
                walk_at "go"
                refine s_lenS hx ?_
                walk_at "go"
                refine s_lenS hy ?_
                walk_at "go"
                refine ite_n (fun hn => ?_) (fun hn => ?_)
                · walk_at "go"
                  exact q false _ (Same.refl _) (no false rfl fun z => hn (by rw [elx, ely, z]))
                · have hxy : xs.length = ys.length := by omega
                  walk_at "go"
                  refine c_rng (n := ys.length) (fun k => ((List.range k).map fun i => decide ((parts d)[i]? = (parts e)[i]?)).map V.bl) rfl (by omega) (fun k hk => ?_) (fun _ => rfl) (fun k H' hk s3 => ?_) (fun r H' hr0 s3 hL => ?_) (fun R k => ?_)
                  · rw [List.length_map, List.length_map, List.length_range]
                    omega
                  · obtain ⟨dk, ek⟩ : ∃ dk, (parts d)[k]? = some dk := ⟨_, List.getElem?_eq_getElem (by omega)⟩
                    obtain ⟨de, ee⟩ : ∃ de, (parts e)[k]? = some de := ⟨_, List.getElem?_eq_getElem (by omega)⟩
                    obtain ⟨vk, evk, dvk⟩ := dpAll_get px ek
                    obtain ⟨ve, eve, dve⟩ := dpAll_get py ee
                    show Turn1 _ _ _ _ _ (((List.range (k + 1)).map fun i => decide ((parts d)[i]? = (parts e)[i]?)).map V.bl)
                    rw [List.range_succ, List.map_append, List.map_append]
                    refine turn1_map fun R hR => ?_
                    refine w_gl T.g__law_equal (Fun.kp F) ?_
                    walk_at "go"
                    refine s_ixS (sqS_same s3 hx) (at_of (j := k) (by omega) evk) ?_
                    walk_at "go"
                    refine s_ixS (sqS_same s3 hy) (at_of (j := k) (by omega) eve) ?_
                    walk_at "go"
                    refine s_fn (ih m em) (by rw [em] at hr; exact hr) ⟨vk, ve, dk, de, rfl, dp_same s3 dvk, dp_same s3 dve, ox _ (List.mem_of_getElem? ek), oy _ (List.mem_of_getElem? ee), fun b H4 s4 hb => ?_⟩
                    have eb : b = decide ((parts d)[k]? = (parts e)[k]?) := by rw [Bool.eq_iff_iff, hb, decide_eq_true_iff, ek, ee, Option.some.injEq]
                    rw [eb]
                    exact hR _ s4
                  · refine s_allL rfl (SqL.of hL) (q _ _ s3 ?_)
                    rw [List.all_eq_true, eq_parts td te hl.symm, list_ext_get (xs := parts d) (ys := parts e) (by omega)]
                    constructor
                    · intro g i dx ey h1 h2
                      have := g (decide ((parts d)[i]? = (parts e)[i]?)) (List.mem_map.2 ⟨i, by rw [List.mem_range]; have := (List.getElem?_eq_some_iff.1 h2).1; omega, rfl⟩)
                      rw [h1, h2] at this
                      simpa using this
                    · intro g b hb
                      obtain ⟨i, hi, rfl⟩ := List.mem_map.1 hb
                      rw [List.mem_range] at hi
                      have e1 := List.getElem?_eq_getElem (show i < (parts d).length by omega)
                      have e2 := List.getElem?_eq_getElem (show i < (parts e).length by omega)
                      rw [e1, e2, g i _ _ e1 e2]
                      simp
                  · walk_at "go"
                    exact s_lenS hy k
theorem ok_equal (T : Facts K mg a) : ∀ n : Nat, n ≤ 20 → FnR P w K mg base (L2.CX P w) (n + 1) a.f__law_equal (spEqual K n) := by
  intro n
  induction n with
  | zero => exact fun h => ok_equal_at T 0 h fun m e => nomatch e
  | succ n ih =>
    intro h
    refine ok_equal_at T (n + 1) h fun m e => ?_
    obtain rfl : n = m := by omega
    exact ih (by omega)
end

end Odd

namespace Odd
open PySem PySem.Spec PyProof.Rows L2
/-! tactics of this text: st one step, go as many as go -/
local macro_rules | `(tactic| walk_at "ar") => `(tactic| first | assumption | omega | (show (_ : Int) < _; omega) | decide)
local macro_rules | `(tactic| walk_at "st") => `(tactic| first
  | with_reducible refine' w_seq ?_
  | with_reducible refine' w_asg ?_
  | with_reducible refine' w_name ?_
  | with_reducible refine' w_c ?_
  | with_reducible refine' w_op ?_
  | with_reducible refine' w_ix ?_
  | with_reducible refine' w_at ?_
  | with_reducible refine' w_cons ?_
  | with_reducible refine' w_nil ?_
  | with_reducible refine' w_ret ?_
  | with_reducible refine' w_if ?_
  | with_reducible refine' w_test ?_
  | with_reducible refine' w_tr ?_
  | with_reducible refine' w_un ?_
  | with_reducible refine' w_andV ?_
  | with_reducible refine' w_orV ?_
  | with_reducible refine' w_notA ?_
  | with_reducible refine' w_ch ?_
  | with_reducible refine' w_and ?_
  | with_reducible refine' w_or ?_
  | with_reducible refine' w_not ?_
  | with_reducible refine' w_ifx ?_
  | with_reducible refine' w_tup ?_
  | with_reducible refine' w_lst ?_
  | with_reducible refine' w_next ?_
  | with_reducible refine' w_drop ?_
  | with_reducible refine' w_retN ?_
  | ((with_reducible refine' w_var ?h ?_); (case h => exact rfl))
  | ((with_reducible refine' w_bi ?h ?_); (case h => walk_at "mg"))
  | ((with_reducible refine' w_bv ?h ?_); (case h => walk_at "mg"))
  | ((with_reducible refine' w_gv ?h ?_); (case h => walk_at "mg"))
  | ((with_reducible refine' w_gl ?h ?k ?_); (case h => walk_at "mg"); (case k => walk_at "kp"))
  | ((with_reducible refine' w_glS ?h ?k ?_); (case h => walk_at "mg"); (case k => walk_at "kp"))
  | with_reducible refine' bl_ex ?_
  | with_reducible refine' iteT ?_
  | with_reducible refine' iteF ?_
  | with_reducible refine' ite_nf ?_
  | with_reducible refine' ite_nt ?_
  | with_reducible refine' s_add ?_
  | with_reducible refine' s_sub ?_
  | with_reducible refine' s_lt ?_
  | with_reducible refine' s_le ?_
  | with_reducible refine' s_gt ?_
  | with_reducible refine' s_ge ?_
  | with_reducible refine' s_eqI ?_
  | with_reducible refine' s_neI ?_
  | with_reducible refine' s_eqB ?_
  | with_reducible refine' s_neB ?_
  | with_reducible refine' s_truB ?_
  | with_reducible refine' s_truI ?_
  | with_reducible refine' s_neg ?_
  | ((with_reducible refine' s_mod ?h ?_); (case h => walk_at "ar")))
local macro_rules | `(tactic| walk_at "go") => `(tactic| repeat walk_at "st")

local macro_rules | `(tactic| walk_at "mg") => `(tactic| first | assumption | exact Facts.z_TypeError (by assumption) | exact Facts.z_ValueError (by assumption) | exact Facts.z_abs (by assumption) | exact Facts.z_all (by assumption) | exact Facts.z_bool (by assumption) | exact Facts.z_classmethod (by assumption) | exact Facts.z_enumerate (by assumption) | exact Facts.z_int (by assumption) | exact Facts.z_isinstance (by assumption) | exact Facts.z_len (by assumption) | exact Facts.z_list (by assumption) | exact Facts.z_max (by assumption) | exact Facts.z_min (by assumption) | exact Facts.z_property (by assumption) | exact Facts.z_range (by assumption) | exact Facts.z_sorted (by assumption) | exact Facts.z_str (by assumption) | exact Facts.z_sum (by assumption) | exact Facts.z_super (by assumption) | exact Facts.z_tuple (by assumption) | exact Facts.z_zip (by assumption) | exact Facts.g__wall (by assumption) | exact Facts.g_is_between (by assumption) | exact Facts.g_check_seat (by assumption) | exact Facts.g_seats_of (by assumption) | exact Facts.g_check_payment (by assumption) | exact Facts.g_balance_after (by assumption) | exact Facts.g_check_balance (by assumption) | exact Facts.g_sums_of_sets (by assumption) | exact Facts.g_number_of_groups (by assumption) | exact Facts.g_parted (by assumption) | exact Facts.g_payments_within (by assumption) | exact Facts.g_payments (by assumption) | exact Facts.g_fewest_payments (by assumption) | exact Facts.g_check_amount (by assumption) | exact Facts.g_check_seats (by assumption) | exact Facts.g_check_seat_count (by assumption) | exact Facts.g_check_mark (by assumption) | exact Facts.g_no_shares (by assumption) | exact Facts.g__law_random (by assumption) | exact Facts.g__law_below (by assumption) | exact Facts.g__law_shuffled (by assumption) | exact Facts.g__law_balance (by assumption) | exact Facts.g__law_shares (by assumption) | exact Facts.g__law_equal (by assumption) | exact Facts.g__law_error_of (by assumption) | exact Facts.g__law_all_raise (by assumption) | exact Facts.g_law (by assumption) | exact Facts.g_Shares (by assumption) | exact Facts.g_Bill (by assumption) | exact Facts.g_Page (by assumption) | exact Facts.g_Ledger (by assumption) | exact Facts.eg_InvalidBill (by assumption) | exact Facts.eg_InvalidEvening (by assumption) | exact Facts.eg_InvalidOperation (by assumption) | exact Facts.eg_InvalidMark (by assumption) | exact Facts.eg_UnknownSeat (by assumption) | exact Facts.eg_InvalidNumber (by assumption) | exact Facts.eg_NotBalanced (by assumption) | exact Facts.eg_EmptyGroup (by assumption) | exact Facts.eg_InvalidText (by assumption) | exact Facts.eg_InvalidReceipt (by assumption) | exact Facts.eg_DecodeError (by assumption))
local macro_rules | `(tactic| walk_at "kp") => `(tactic| first | assumption | exact (Facts.mk_Shares (by assumption)).kp | exact (Facts.mk_Bill (by assumption)).kp | exact (Facts.mk_Page (by assumption)).kp | exact (Facts.mk_Ledger (by assumption)).kp | exact Fun.kp (Facts.u__wall (by assumption)).choose_spec | exact Fun.kp (Facts.u_is_between (by assumption)).choose_spec | exact Fun.kp (Facts.u_check_seat (by assumption)).choose_spec | exact Fun.kp (Facts.u_seats_of (by assumption)).choose_spec | exact Fun.kp (Facts.u_check_payment (by assumption)).choose_spec | exact Fun.kp (Facts.u_balance_after (by assumption)).choose_spec | exact Fun.kp (Facts.u_check_balance (by assumption)).choose_spec | exact Fun.kp (Facts.u_sums_of_sets (by assumption)).choose_spec | exact Fun.kp (Facts.u_number_of_groups (by assumption)).choose_spec | exact Fun.kp (Facts.u_parted (by assumption)).choose_spec | exact Fun.kp (Facts.u_payments_within (by assumption)).choose_spec | exact Fun.kp (Facts.u_payments (by assumption)).choose_spec | exact Fun.kp (Facts.u_fewest_payments (by assumption)).choose_spec | exact Fun.kp (Facts.u_check_amount (by assumption)).choose_spec | exact Fun.kp (Facts.u_check_seats (by assumption)).choose_spec | exact Fun.kp (Facts.u_check_seat_count (by assumption)).choose_spec | exact Fun.kp (Facts.u_check_mark (by assumption)).choose_spec | exact Fun.kp (Facts.u_no_shares (by assumption)).choose_spec | exact Fun.kp (Facts.u__law_random (by assumption)).choose_spec | exact Fun.kp (Facts.u__law_below (by assumption)).choose_spec | exact Fun.kp (Facts.u__law_shuffled (by assumption)).choose_spec | exact Fun.kp (Facts.u__law_balance (by assumption)).choose_spec | exact Fun.kp (Facts.u__law_shares (by assumption)).choose_spec | exact Fun.kp (Facts.u__law_equal (by assumption)).choose_spec | exact Fun.kp (Facts.u__law_error_of (by assumption)).choose_spec | exact Fun.kp (Facts.u__law_all_raise (by assumption)).choose_spec | exact Fun.kp (Facts.u_law (by assumption)).choose_spec)
/-! ### a new ledger -/
section
variable {P : Program} {w : World} {K : PySem.W.Frag} {mg : Str → Option Value} {base : Heap} {a : Ad}
theorem put_end {k : Str} {v : V} : ∀ {fs : List (Str × V)}, (∀ p ∈ fs, p.1 ≠ k) → putF k v fs = fs ++ [(k, v)]
  | [], _ => rfl
  | (k1, v1) :: fs, h => by
    have h1 : k1 ≠ k := h (k1, v1) (List.mem_cons_self ..)
    have ih := put_end (k := k) (v := v) (fs := fs) fun p hp => h p (List.mem_cons_of_mem _ hp)
    show (if k1 = k then _ else _) = _
    rw [if_neg h1, ih]
    rfl
def pgF (op due mk : V) : List (Str × V) := [("operation", op), ("due", due), ("mark", mk)]
def PgAt (C : Addr) (H : Hp) (p : Addr) (op due mk : V) : Prop := ∃ dx, H p = some (.ins C dx (pgF op due mk))
def spPgInit (C : Addr) : Sp := fun vs H Q _ => ∃ x dx op due mk, vs = [.ref x, op, due, mk] ∧ H x = some (.ins C dx []) ∧ Q .non (upd H x (.ins C dx (pgF op due mk)))
theorem ok_pg_init (T : Facts K mg a) : FnR P w K mg base (L2.CX P w) 1 a.f_Page__init_ (spPgInit a.c_Page) := by
  obtain ⟨fd, F⟩ := T.u_Page__init_
  refine fnr_ok F sc_Page__init_ (F.binds fun _ _ _ _ _ _ us hl => match us, hl with | [_, _, _, _], _ => rfl) (fun vs H Q E h => ?_) (fun cdv A outer s H vs Q E hr h => ?_)
  · obtain ⟨x, dx, op, due, mk, rfl, _⟩ := h
    rfl
  · obtain ⟨x, dx, op, due, mk, rfl, hx, q⟩ := h
    refine ⟨_, (pss_cons (ps_fld (pv 0) (pv 1) rfl)
    (pss_cons (ps_fld (pv 0) (pv 2) rfl)
    (pss_one (ps_fld (pv 0) (pv 3) rfl)))), ?_⟩
    walk_at "go"
    with_reducible refine' w_fld ?_
    walk_at "go"
    refine ⟨x, a.c_Page, dx, [], rfl, hx, T.cl_Page, T.na_Page_operation, by decide, ?_⟩
    dsimp only
    with_reducible refine' w_seq ?_
    with_reducible refine' w_fld ?_
    walk_at "go"
    refine ⟨x, a.c_Page, dx, _, rfl, upd_same, T.cl_Page, T.na_Page_due, by show 1 < 1000; decide, ?_⟩
    with_reducible refine' w_fld ?_
    walk_at "go"
    refine ⟨x, a.c_Page, dx, _, rfl, upd_same, T.cl_Page, T.na_Page_mark, by show 2 < 1000; decide, ?_⟩
    have e1 : putF "due" due (putF "operation" op []) = [(("operation" : Str), op), ("due", due)] := put_end (by intro p hp; rw [List.mem_singleton.1 hp]; dsimp only; decide)
    have e2 : putF "mark" mk (putF "due" due (putF "operation" op [])) = pgF op due mk := by
      rw [e1]
      refine put_end ?_
      intro p hp
      simp only [List.mem_cons, List.not_mem_nil, or_false] at hp
      rcases hp with rfl | rfl <;> (dsimp only; decide)
    show Q .non _
    rw [upd_upd, upd_upd, e2]
    exact q
theorem s_page {X0 : Cx} {E : XK} {H : Hp} {Q : VK} {op due mk : V} (T : Facts X0.K X0.mg a) (F : Fn X0 1 a.f_Page__init_ (spPgInit a.c_Page)) (hr : Room 2 X0.A)
    (q : ∀ p H', H p = none → Same H H' → PgAt a.c_Page H' p op due mk → Q (.ref p) H') : ∃ r, CaD X0 E (.ref a.c_Page) r ∧ r [op, due, mk] H Q := by
  refine s_mk T.mk_Page F hr fun x dx hx hdx hne => ⟨x, dx, op, due, mk, rfl, upd_same, rfl, ?_⟩
  refine q x _ hx (fun b o e => ?_) ⟨dx, upd_same⟩
  rw [upd_ne (ne_of_none e hx), upd_ne (ne_of_none e hx), upd_ne (ne_of_none e hdx)]
  exact e
def leF (n : Nat) (pl : Addr) (k : Int) : List (Str × V) := [("_seat_count", .int n), ("_pages", .ref pl), ("_at", .int k)]
def spLeInit (C CP CS : Addr) : Sp := fun vs H Q _ => ∃ (x dx : Addr) (n m : Nat), vs = [.ref x, .int n, .int m] ∧ H x = some (.ins C dx []) ∧ 2 ≤ n ∧ n ≤ 8 ∧ m < n ∧
  ∀ H2 pl pg sh op, Same (upd H x (.ins C dx [("_seat_count", .int n)])) H2 → pl ≠ x → pg ≠ x → sh ≠ x → op ≠ x → H2 pl = some (.lst [.ref pg]) → H2 op = some (.tup []) → PgAt CP H2 pg (.ref op) (.ref sh) (.int m) → ShAt CS H2 sh (List.replicate n 0) → Q .non (upd H2 x (.ins C dx (leF n pl 0)))
theorem ok_le_init_at (T : Facts K mg a) {fd : FuncData} (F : Fun K "__init__" "Ledger.__init__" s_Ledger__init_ a.f_Ledger__init_ fd) : FnOk P w K mg base (L2.CX P w) 4 a.f_Ledger__init_ fd ["self", "seat_count", "mark"] (spLeInit a.c_Ledger a.c_Page a.c_Shares) := by
  have GC : FnR P w K mg base (L2.CX P w) 2 a.f_check_seat_count spCkCount := ok_check_seat_count T
  have GM : FnR P w K mg base (L2.CX P w) 2 a.f_check_mark spCkMark := ok_check_mark T
  have GN : FnR P w K mg base (L2.CX P w) 3 a.f_no_shares (spNoShares a.c_Shares) := ok_no_shares T
  have GP : FnR P w K mg base (L2.CX P w) 1 a.f_Page__init_ (spPgInit a.c_Page) := ok_pg_init T
  refine F.okX sc_Ledger__init_ (fun vs H Q E h => ?_) (fun cdv A outer s H vs Q E hr h => ?_)
  · obtain ⟨x, dx, n, m, rfl, _⟩ := h
    rfl
  · obtain ⟨x, dx, n, m, rfl, hx, hn2, hn8, hm, q⟩ := h
    refine ⟨_, (pss_cons (ps_expr (pe_glA Like.refl pas_main (by rfl) (pa_cons (pv 1) pa_nil)))
    (pss_cons (ps_expr (pe_glA Like.refl pas_main (by rfl) (pa_cons (pv 2) (pa_cons (pv 1) pa_nil))))
    (pss_cons (ps_fld (pv 0) (pv 1) rfl)
    (pss_cons (ps_fld (pv 0) (pe_lst (pa_cons (pe_glA Like.refl pas_main (by rfl) (pa_cons (pe_tup pa_nil) (pa_cons (pe_glA Like.refl pas_main (by rfl) (pa_cons (pv 1) pa_nil)) (pa_cons (pv 2) pa_nil)))) pa_nil)) rfl)
    (pss_one (ps_fld (pv 0) (pe_int) rfl)))))), ?_⟩
    walk_at "go"
    refine s_fn GC (hr.mono (by decide)) ⟨n, rfl, by omega, by omega, ?_⟩
    walk_at "go"
    refine s_fn GM (hr.mono (by decide)) ⟨m, n, rfl, by omega, by omega, ?_⟩
    walk_at "go"
    with_reducible refine' w_fld ?_
    walk_at "go"
    refine ⟨x, a.c_Ledger, dx, [], rfl, hx, T.cl_Ledger, T.na_Ledger_seat_count, by decide, ?_⟩
    have hx1 : (upd H x (.ins a.c_Ledger dx (putF "_seat_count" (.int n) []))) x = some (.ins a.c_Ledger dx [("_seat_count", .int n)]) := upd_same
    have e0 : (upd H x (.ins a.c_Ledger dx (putF "_seat_count" (.int n) []))) = upd H x (.ins a.c_Ledger dx [("_seat_count", .int n)]) := rfl
    generalize upd H x (.ins a.c_Ledger dx (putF "_seat_count" (.int n) [])) = H1 at *
    dsimp only
    with_reducible refine' w_seq ?_
    with_reducible refine' w_fld ?_
    walk_at "go"
    refine ⟨by show 0 ≤ sizeLine; decide, fun op hop => ?_⟩
    have s2 := same_new (o := .tup []) hop
    walk_at "go"
    refine s_fn GN (hr.mono (by decide)) ⟨n, rfl, by omega, fun sh H3 hsh s3 shA => ?_⟩
    walk_at "go"
    refine s_page T GP (hr.mono (by decide)) fun pg H4 hpg s4 pgA => ?_
    walk_at "go"
    refine ⟨by show 1 ≤ sizeLine; decide, fun pl hpl => ?_⟩
    have s5 := same_new (o := .lst [.ref pg]) hpl
    have sA := ((s2.trans s3).trans s4).trans s5
    have hx5 := sA _ _ hx1
    have f0 : op ≠ x := fun z => by rw [z, hx1] at hop; cases hop
    have f1 : sh ≠ x := fun z => by rw [z, s2 _ _ hx1] at hsh; cases hsh
    have f2 : pg ≠ x := fun z => by rw [z, (s2.trans s3) _ _ hx1] at hpg; cases hpg
    have f3 : pl ≠ x := fun z => by rw [z, ((s2.trans s3).trans s4) _ _ hx1] at hpl; cases hpl
    have hP5 : (upd H4 pl (.lst [.ref pg])) pl = some (.lst [.ref pg]) := upd_same
    have hO5 := ((s3.trans s4).trans s5) _ _ (upd_same : (upd H1 op (.tup [])) op = some (.tup []))
    obtain ⟨dp, g1⟩ := pgA
    have g5 := s5 _ _ g1
    have shB := (shA.same s4).same s5
    generalize upd H4 pl (.lst [.ref pg]) = H5 at *
    walk_at "go"
    refine ⟨x, a.c_Ledger, dx, _, rfl, hx5, T.cl_Ledger, T.na_Ledger_pages, by show 1 < 1000; decide, ?_⟩
    with_reducible refine' w_fld ?_
    walk_at "go"
    refine ⟨x, a.c_Ledger, dx, _, rfl, upd_same, T.cl_Ledger, T.na_Ledger_at, by show 2 < 1000; decide, ?_⟩
    have e1 : putF "_pages" (.ref pl) [(("_seat_count" : Str), V.int n)] = [(("_seat_count" : Str), V.int n), ("_pages", .ref pl)] := put_end (by intro p hp; rw [List.mem_singleton.1 hp]; dsimp only; decide)
    have e2 : putF "_at" (.int 0) (putF "_pages" (.ref pl) [(("_seat_count" : Str), V.int n)]) = leF n pl 0 := by
      rw [e1]
      refine put_end ?_
      intro p hp
      simp only [List.mem_cons, List.not_mem_nil, or_false] at hp
      rcases hp with rfl | rfl <;> (dsimp only; decide)
    show Q .non _
    rw [upd_upd, e2]
    exact q H5 pl pg sh op (by rw [← e0]; exact sA) f3 f2 f1 f0 hP5 hO5 ⟨dp, g5⟩ shB
/-- a ledger of n seats, nothing done, the mark at m -/
def Le0At (C CP CS : Addr) (H : Hp) (p : Addr) (n m : Nat) : Prop := ∃ dx pl pg sh op, H p = some (.ins C dx (leF n pl 0)) ∧ H pl = some (.lst [.ref pg]) ∧ PgAt CP H pg (.ref op) (.ref sh) (.int m) ∧ ShAt CS H sh (List.replicate n 0)
theorem ok_le_init0 (T : Facts K mg a) : FnR P w K mg base (L2.CX P w) 4 a.f_Ledger__init_ (fun vs H Q E => spLeInit a.c_Ledger a.c_Page a.c_Shares (vs ++ [.int 0]) H Q E) := by
  obtain ⟨fd, F, D⟩ := T.ud_Ledger__init_
  obtain ⟨ds, hv, hb⟩ := D.binds0 (ps := ["self", "seat_count", "mark"]) 2 (by simp) rfl fun D doc pm an cdv ct us ks h1 h2 => match us, h1, ks, h2 with
    | [x, y], _, [z], _ => ⟨_, _, _, _, _, _, rfl, rfl, rfl⟩
  exact (ok_le_init_at T F).raw hb hv
/-- Ledger(n) -/
theorem s_ledger0 {X0 : Cx} {E : XK} {H : Hp} {Q : VK} {n : Nat} (T : Facts X0.K X0.mg a) (F : Fn X0 4 a.f_Ledger__init_ (fun vs H Q E => spLeInit a.c_Ledger a.c_Page a.c_Shares (vs ++ [.int 0]) H Q E)) (hr : Room 5 X0.A) (hn2 : 2 ≤ n) (hn8 : n ≤ 8)
    (q : ∀ p H', H p = none → Same H H' → Le0At a.c_Ledger a.c_Page a.c_Shares H' p n 0 → Q (.ref p) H') : ∃ r, CaD X0 E (.ref a.c_Ledger) r ∧ r [.int n] H Q := by
  refine s_mk T.mk_Ledger F hr fun x dx hx hdx hne => ⟨x, dx, n, 0, rfl, upd_same, hn2, hn8, by omega, fun H2 pl pg sh op s f1 f2 f3 f4 hP hO hpg hsh => ⟨rfl, ?_⟩⟩
  obtain ⟨dp, g1⟩ := hpg
  obtain ⟨ds, t, i1, i2⟩ := hsh
  have hx2 := s _ _ (upd_same : (upd (upd (upd H dx (.own x)) x (.ins a.c_Ledger dx [])) x (.ins a.c_Ledger dx [("_seat_count", .int n)])) x = some _)
  have ft : t ≠ x := fun z => by rw [z, hx2] at i2; cases i2
  refine q x _ hx (fun b o e => ?_) ⟨dx, pl, pg, sh, op, upd_same, by rw [upd_ne f1]; exact hP, ⟨dp, by rw [upd_ne f2]; exact g1⟩, ⟨ds, t, by rw [upd_ne f3]; exact i1, by rw [upd_ne ft]; exact i2⟩⟩
  have nb := ne_of_none e hx
  rw [upd_ne nb]
  exact s _ _ (by rw [upd_ne nb, upd_ne nb, upd_ne (ne_of_none e hdx)]; exact e)
theorem look_le {n : Nat} {pl : Addr} {k : Int} : List.lookup ("_pages" : Str) (leF n pl k) = some (.ref pl) ∧ List.lookup ("_at" : Str) (leF n pl k) = some (.int k) ∧ List.lookup ("_seat_count" : Str) (leF n pl k) = some (.int n) := by
  have e1 : (("_pages" : Str) == "_seat_count") = false := by decide
  have e2 : (("_at" : Str) == "_seat_count") = false := by decide
  have e3 : (("_at" : Str) == "_pages") = false := by decide
  refine ⟨?_, ?_, ?_⟩ <;> simp [leF, List.lookup, e1, e2, e3]
theorem look_pg {op due mk : V} : List.lookup ("due" : Str) (pgF op due mk) = some due ∧ List.lookup ("mark" : Str) (pgF op due mk) = some mk ∧ List.lookup ("operation" : Str) (pgF op due mk) = some op := by
  have e1 : (("due" : Str) == "operation") = false := by decide
  have e2 : (("mark" : Str) == "operation") = false := by decide
  have e3 : (("mark" : Str) == "due") = false := by decide
  refine ⟨?_, ?_, ?_⟩ <;> simp [pgF, List.lookup, e1, e2, e3]
/-- the balance where the ledger is -/
def spLeBal (C CP : Addr) : Sp := fun vs H Q _ => ∃ (p dx pl pg : Addr) (n : Nat) (k : Nat) (pgs : List V) (op due mk : V), vs = [.ref p] ∧ H p = some (.ins C dx (leF n pl k)) ∧ H pl = some (.lst pgs) ∧ pgs[k]? = some (.ref pg) ∧ PgAt CP H pg op due mk ∧ Q due H
theorem ok_le_balance (T : Facts K mg a) : FnR P w K mg base (L2.CX P w) 1 a.f_Ledger_balance (spLeBal a.c_Ledger a.c_Page) := by
  obtain ⟨fd, F⟩ := T.u_Ledger_balance
  refine fnr_ok F sc_Ledger_balance (F.binds fun _ _ _ _ _ _ us hl => match us, hl with | [_], _ => rfl) (fun vs H Q E h => ?_) (fun cdv A outer s H vs Q E hr h => ?_)
  · obtain ⟨p, dx, pl, pg, n, k, pgs, op, due, mk, rfl, _⟩ := h
    rfl
  · obtain ⟨p, dx, pl, pg, n, k, pgs, op, due, mk, rfl, h1, h2, h3, ⟨dp, h4⟩, q⟩ := h
    refine ⟨_, (pss_one (ps_ret (pe_atA Like.refl pas_main (pe_ixA Like.refl pas_main (pe_atA Like.refl pas_main (pv 0)) (pe_atA Like.refl pas_main (pv 0)))))), ?_⟩
    walk_at "go"
    refine s_fld h1 T.cl_Ledger T.na_Ledger_pages look_le.1 ?_
    walk_at "go"
    refine s_fld h1 T.cl_Ledger T.na_Ledger_at look_le.2.1 ?_
    walk_at "go"
    refine s_ixL (SqL.of h2) (v := .ref pg) (at_of (j := k) rfl h3) ?_
    exact s_fld h4 T.cl_Page T.na_Page_due look_pg.1 q
end

end Odd

namespace Odd
open PySem PySem.Spec PyProof.Rows L2
/-! tactics of this text: st one step, go as many as go -/
local macro_rules | `(tactic| walk_at "ar") => `(tactic| first | assumption | omega | (show (_ : Int) < _; omega) | decide)
local macro_rules | `(tactic| walk_at "st") => `(tactic| first
  | with_reducible refine' w_seq ?_
  | with_reducible refine' w_asg ?_
  | with_reducible refine' w_name ?_
  | with_reducible refine' w_c ?_
  | with_reducible refine' w_op ?_
  | with_reducible refine' w_ix ?_
  | with_reducible refine' w_at ?_
  | with_reducible refine' w_cons ?_
  | with_reducible refine' w_nil ?_
  | with_reducible refine' w_ret ?_
  | with_reducible refine' w_if ?_
  | with_reducible refine' w_test ?_
  | with_reducible refine' w_tr ?_
  | with_reducible refine' w_un ?_
  | with_reducible refine' w_andV ?_
  | with_reducible refine' w_orV ?_
  | with_reducible refine' w_notA ?_
  | with_reducible refine' w_ch ?_
  | with_reducible refine' w_and ?_
  | with_reducible refine' w_or ?_
  | with_reducible refine' w_not ?_
  | with_reducible refine' w_ifx ?_
  | with_reducible refine' w_tup ?_
  | with_reducible refine' w_lst ?_
  | with_reducible refine' w_next ?_
  | with_reducible refine' w_drop ?_
  | with_reducible refine' w_retN ?_
  | ((with_reducible refine' w_var ?h ?_); (case h => exact rfl))
  | ((with_reducible refine' w_bi ?h ?_); (case h => walk_at "mg"))
  | ((with_reducible refine' w_bv ?h ?_); (case h => walk_at "mg"))
  | ((with_reducible refine' w_gv ?h ?_); (case h => walk_at "mg"))
  | ((with_reducible refine' w_gl ?h ?k ?_); (case h => walk_at "mg"); (case k => walk_at "kp"))
  | ((with_reducible refine' w_glS ?h ?k ?_); (case h => walk_at "mg"); (case k => walk_at "kp"))
  | with_reducible refine' bl_ex ?_
  | with_reducible refine' iteT ?_
  | with_reducible refine' iteF ?_
  | with_reducible refine' ite_nf ?_
  | with_reducible refine' ite_nt ?_
  | with_reducible refine' s_add ?_
  | with_reducible refine' s_sub ?_
  | with_reducible refine' s_lt ?_
  | with_reducible refine' s_le ?_
  | with_reducible refine' s_gt ?_
  | with_reducible refine' s_ge ?_
  | with_reducible refine' s_eqI ?_
  | with_reducible refine' s_neI ?_
  | with_reducible refine' s_eqB ?_
  | with_reducible refine' s_neB ?_
  | with_reducible refine' s_truB ?_
  | with_reducible refine' s_truI ?_
  | with_reducible refine' s_neg ?_
  | ((with_reducible refine' s_mod ?h ?_); (case h => walk_at "ar")))
local macro_rules | `(tactic| walk_at "go") => `(tactic| repeat walk_at "st")

local macro_rules | `(tactic| walk_at "mg") => `(tactic| first | assumption | exact Facts.z_TypeError (by assumption) | exact Facts.z_ValueError (by assumption) | exact Facts.z_abs (by assumption) | exact Facts.z_all (by assumption) | exact Facts.z_bool (by assumption) | exact Facts.z_classmethod (by assumption) | exact Facts.z_enumerate (by assumption) | exact Facts.z_int (by assumption) | exact Facts.z_isinstance (by assumption) | exact Facts.z_len (by assumption) | exact Facts.z_list (by assumption) | exact Facts.z_max (by assumption) | exact Facts.z_min (by assumption) | exact Facts.z_property (by assumption) | exact Facts.z_range (by assumption) | exact Facts.z_sorted (by assumption) | exact Facts.z_str (by assumption) | exact Facts.z_sum (by assumption) | exact Facts.z_super (by assumption) | exact Facts.z_tuple (by assumption) | exact Facts.z_zip (by assumption) | exact Facts.g__wall (by assumption) | exact Facts.g_is_between (by assumption) | exact Facts.g_check_seat (by assumption) | exact Facts.g_seats_of (by assumption) | exact Facts.g_check_payment (by assumption) | exact Facts.g_balance_after (by assumption) | exact Facts.g_check_balance (by assumption) | exact Facts.g_sums_of_sets (by assumption) | exact Facts.g_number_of_groups (by assumption) | exact Facts.g_parted (by assumption) | exact Facts.g_payments_within (by assumption) | exact Facts.g_payments (by assumption) | exact Facts.g_fewest_payments (by assumption) | exact Facts.g_check_amount (by assumption) | exact Facts.g_check_seats (by assumption) | exact Facts.g_check_seat_count (by assumption) | exact Facts.g_check_mark (by assumption) | exact Facts.g_no_shares (by assumption) | exact Facts.g__law_random (by assumption) | exact Facts.g__law_below (by assumption) | exact Facts.g__law_shuffled (by assumption) | exact Facts.g__law_balance (by assumption) | exact Facts.g__law_shares (by assumption) | exact Facts.g__law_equal (by assumption) | exact Facts.g__law_error_of (by assumption) | exact Facts.g__law_all_raise (by assumption) | exact Facts.g_law (by assumption) | exact Facts.g_Shares (by assumption) | exact Facts.g_Bill (by assumption) | exact Facts.g_Page (by assumption) | exact Facts.g_Ledger (by assumption) | exact Facts.eg_InvalidBill (by assumption) | exact Facts.eg_InvalidEvening (by assumption) | exact Facts.eg_InvalidOperation (by assumption) | exact Facts.eg_InvalidMark (by assumption) | exact Facts.eg_UnknownSeat (by assumption) | exact Facts.eg_InvalidNumber (by assumption) | exact Facts.eg_NotBalanced (by assumption) | exact Facts.eg_EmptyGroup (by assumption) | exact Facts.eg_InvalidText (by assumption) | exact Facts.eg_InvalidReceipt (by assumption) | exact Facts.eg_DecodeError (by assumption))
local macro_rules | `(tactic| walk_at "kp") => `(tactic| first | assumption | exact (Facts.mk_Shares (by assumption)).kp | exact (Facts.mk_Bill (by assumption)).kp | exact (Facts.mk_Page (by assumption)).kp | exact (Facts.mk_Ledger (by assumption)).kp | exact Fun.kp (Facts.u__wall (by assumption)).choose_spec | exact Fun.kp (Facts.u_is_between (by assumption)).choose_spec | exact Fun.kp (Facts.u_check_seat (by assumption)).choose_spec | exact Fun.kp (Facts.u_seats_of (by assumption)).choose_spec | exact Fun.kp (Facts.u_check_payment (by assumption)).choose_spec | exact Fun.kp (Facts.u_balance_after (by assumption)).choose_spec | exact Fun.kp (Facts.u_check_balance (by assumption)).choose_spec | exact Fun.kp (Facts.u_sums_of_sets (by assumption)).choose_spec | exact Fun.kp (Facts.u_number_of_groups (by assumption)).choose_spec | exact Fun.kp (Facts.u_parted (by assumption)).choose_spec | exact Fun.kp (Facts.u_payments_within (by assumption)).choose_spec | exact Fun.kp (Facts.u_payments (by assumption)).choose_spec | exact Fun.kp (Facts.u_fewest_payments (by assumption)).choose_spec | exact Fun.kp (Facts.u_check_amount (by assumption)).choose_spec | exact Fun.kp (Facts.u_check_seats (by assumption)).choose_spec | exact Fun.kp (Facts.u_check_seat_count (by assumption)).choose_spec | exact Fun.kp (Facts.u_check_mark (by assumption)).choose_spec | exact Fun.kp (Facts.u_no_shares (by assumption)).choose_spec | exact Fun.kp (Facts.u__law_random (by assumption)).choose_spec | exact Fun.kp (Facts.u__law_below (by assumption)).choose_spec | exact Fun.kp (Facts.u__law_shuffled (by assumption)).choose_spec | exact Fun.kp (Facts.u__law_balance (by assumption)).choose_spec | exact Fun.kp (Facts.u__law_shares (by assumption)).choose_spec | exact Fun.kp (Facts.u__law_equal (by assumption)).choose_spec | exact Fun.kp (Facts.u__law_error_of (by assumption)).choose_spec | exact Fun.kp (Facts.u__law_all_raise (by assumption)).choose_spec | exact Fun.kp (Facts.u_law (by assumption)).choose_spec)
/-! ### drawn balances -/
section
variable {P : Program} {w : World} {K : PySem.W.Frag} {mg : Str → Option Value} {base : Heap} {a : Ad}
theorem erase_map {f : Int → V} : ∀ (l : List Int) (i : Nat), (l.map f).eraseIdx i = (l.eraseIdx i).map f
  | [], _ => rfl
  | _ :: _, 0 => rfl
  | x :: l, i + 1 => by
    show f x :: (l.map f).eraseIdx i = f x :: (l.eraseIdx i).map f
    rw [erase_map l i]
theorem erase_perm : ∀ (l : List Int) (i : Nat) (h : i < l.length), (l[i] :: l.eraseIdx i).Perm l
  | _ :: _, 0, _ => List.Perm.refl _
  | x :: l, i + 1, h => by
    have ih := erase_perm l i (by simpa using h)
    exact (List.Perm.swap x _ _).trans (ih.cons x)
def spShuf : Sp := fun vs H Q _ => ∃ (st l : Addr) (xs : List Int), vs = [.ref st, .ref l] ∧ DSt st H ∧ H l = some (.lst (xs.map V.int)) ∧ l ≠ st ∧ xs.length ≤ 100 ∧ ∀ p (ys : List Int) H', H p = none → SameB (· = st) H H' → DSt st H' → H' p = some (.lst (ys.map V.int)) → ys.Perm xs → Q (.ref p) H'
theorem ok_shuffled (T : Facts K mg a) : FnR P w K mg base (L2.CX P w) 2 a.f__law_shuffled spShuf := by
  obtain ⟨fd, F⟩ := T.u__law_shuffled
  have GD : FnR P w K mg base (L2.CX P w) 1 a.f__law_below spBelow := ok_below T
  refine fnr_ok F sc__law_shuffled (F.binds fun _ _ _ _ _ _ us hl => match us, hl with | [_, _], _ => rfl) (fun vs H Q E h => ?_) (fun cdv A outer s H vs Q E hr h => ?_)
  · obtain ⟨st, l, xs, rfl, _⟩ := h
    rfl
  · obtain ⟨st, l, xs, rfl, D0, hl, hne, hx, q⟩ := h
    have hr' := hr.units
    refine ⟨_, (pss_cons (ps_set (i := 2) sc__law_shuffled.nd rfl (Or.inl rfl) (pe_tyA (T := "list") Like.refl pas_main (by rfl) (by decide +kernel) (pa_cons (pv 1) pa_nil)))
    (pss_cons (ps_set (i := 3) sc__law_shuffled.nd rfl (Or.inl rfl) (pe_lst pa_nil))
    (pss_cons (ps_while own_main (pt_cmpA Like.refl pas_main (pv 2) (pe_lst pa_nil) (nomark _)) (pss_one (ps_expr (pe_bm PySem.F.plainAttrs_list PySem.F.slot_list_append PySem.F.type_list_append mt_append (pv 3) (pa_cons (pe_bm PySem.F.plainAttrs_list PySem.F.slot_list_pop PySem.F.type_list_pop mt_popAt (pv 2) (pa_cons (pe_glA Like.refl pas_main (by rfl) (pa_cons (pv 0) (pa_cons (pe_biA (id := "len") Like.refl pas_main (by rfl) (by decide +kernel) (pa_cons (pv 2) pa_nil)) pa_nil))) pa_nil)) pa_nil)))))
    (pss_one (ps_ret (pv 3)))))), ?_⟩
    walk_at "go"
    refine s_listOf (.inl (SqL.of hl)) fun pl hpl => ?_
    have s1 := same_new (o := .lst (xs.map V.int)) hpl
    have hP1 : (upd H pl (.lst (xs.map V.int))) pl = some (.lst (xs.map V.int)) := upd_same
    have D1 := D0.same s1
    have npl : ¬ pl = st := D0.ne hpl
    generalize upd H pl (.lst (xs.map V.int)) = H1 at *
    walk_at "go"
    refine ⟨by show 0 ≤ sizeLine; decide, fun rl hrl => ?_⟩
    have s2 := same_new (o := .lst []) hrl
    have hP2 := s2 _ _ hP1
    have hR2 : (upd H1 rl (.lst [])) rl = some (.lst (([] : List Int).map V.int)) := upd_same
    have D2 := D1.same s2
    have nrl : ¬ rl = st := D1.ne hrl
    have hrl0 : H rl = none := s1.free hrl
    have npr : pl ≠ rl := fun z => by rw [← z, hP1] at hrl; cases hrl
    have s12 := s1.trans s2
    generalize upd H1 rl (.lst []) = H2 at *
    walk_at "go"
    refine ⟨fun mm σ H3 => ∃ Ps Rs : List Int, mm = Ps.length ∧ SameB (· = st) H H3 ∧ DSt st H3 ∧ H3 pl = some (.lst (Ps.map V.int)) ∧ H3 rl = some (.lst (Rs.map V.int)) ∧ (Rs ++ Ps).Perm xs ∧ σ = [some (.ref st), some (.ref l), some (.ref pl), some (.ref rl)],
      ⟨xs.length, xs, [], rfl, Same.b s12, D2, hP2, hR2, List.Perm.refl _, rfl⟩, ?_⟩
    rintro mm σ H3 ⟨Ps, Rs, rfl, sb, D3, hP, hR, hp, rfl⟩
    have hlen : Rs.length + Ps.length = xs.length := by rw [← hp.length_eq, List.length_append]
    walk_at "go"
    refine ⟨by show 0 ≤ sizeLine; decide, fun z hz => ?_⟩
    have s3 := same_new (o := .lst []) hz
    refine s_neLsts (ds := []) hr' (SqL.of (s3 _ _ hP)) (SqL.of upd_same) ?_
    have sb3 : SameB (· = st) H (upd H3 z (.lst [])) := sb.trans (Same.b s3)
    have hP3 := s3 _ _ hP
    have hR3 := s3 _ _ hR
    have D4 := D3.same s3
    generalize upd H3 z (.lst []) = H4 at *
    walk_at "go"
    refine ite_n (fun hnz => ?_) (fun hz0 => ?_)
    · refine ⟨fun σ' H' => ∃ m', m' < Ps.length ∧ ∃ Ps' Rs' : List Int, m' = Ps'.length ∧ SameB (· = st) H H' ∧ DSt st H' ∧ H' pl = some (.lst (Ps'.map V.int)) ∧ H' rl = some (.lst (Rs'.map V.int)) ∧ (Rs' ++ Ps').Perm xs ∧ σ' = [some (.ref st), some (.ref l), some (.ref pl), some (.ref rl)], fun _ _ h => h, ?_⟩
      have hpos : 0 < Ps.length := List.length_pos_iff.2 hnz
      have h80 : (100 : Int) < 2 ^ 80 := by decide
      walk_at "go"
      refine w_bm ?_
      walk_at "go"
      refine ⟨.inl ⟨rfl, _, SqL.of hR3⟩, ?_⟩
      walk_at "go"
      refine w_bm ?_
      walk_at "go"
      refine ⟨.inl ⟨rfl, _, SqL.of hP3⟩, ?_⟩
      walk_at "go"
      refine s_lenL (SqL.of hP3) ?_
      rw [List.length_map]
      walk_at "go"
      refine s_fn GD hr ⟨st, Ps.length, rfl, D4, by omega, by omega, fun v H5 v0 v1 sb5 D5 => ?_⟩
      have hP5 := sb5 _ _ npl hP3
      have hR5 := sb5 _ _ nrl hR3
      obtain ⟨j, rfl⟩ := Int.eq_ofNat_of_zero_le v0
      have hj : j < Ps.length := by omega
      walk_at "go"
      refine ⟨pl, _, (j : Nat), j, .int Ps[j], rfl, rfl, hP5, by omega, by omega, (ixN_seq (ixn_low (k := j) (by rw [List.length_map]; exact hj))).1, by rw [List.getElem?_map, List.getElem?_eq_getElem hj]; rfl, ?_⟩
      walk_at "go"
      refine ⟨rl, _, _, rfl, rfl, by rw [upd_ne npr.symm]; exact hR5, by rw [List.length_map]; exact Nat.lt_of_lt_of_le (show Rs.length < 1000 by omega) (by decide), ?_⟩
      walk_at "go"
      refine ⟨(Ps.eraseIdx j).length, by rw [List.length_eraseIdx_of_lt hj]; omega, Ps.eraseIdx j, Rs ++ [Ps[j]], rfl, fun b o nb e => ?_, (D5.upd npl).upd nrl, ?_, ?_, ?_, rfl⟩
      · rw [upd_ne (ne_of_none e hrl0), upd_ne (ne_of_none e hpl)]
        exact sb5 _ _ nb (sb3 _ _ nb e)
      · rw [upd_ne npr, upd_same]
        congr 2
        exact erase_map _ _
      · rw [upd_same, List.map_append]
        rfl
      · rw [List.append_assoc]
        exact ((erase_perm Ps j hj).append_left Rs).trans hp
    · subst hz0
      rw [List.append_nil] at hp
      walk_at "go"
      exact q rl Rs _ hrl0 sb3 D4 hR3 hp
def spLBal : Sp := fun vs H Q _ => ∃ st : Addr, vs = [.ref st] ∧ DSt st H ∧ ∀ p (ds : List Int) H', H p = none → SameB (· = st) H H' → DSt st H' → H' p = some (.lst (ds.map V.int)) → 2 ≤ ds.length → ds.length ≤ 8 → ds.sum = 0 → (∀ d ∈ ds, -(10 ^ 7) ≤ d ∧ d ≤ 10 ^ 7) → Q (.ref p) H'
theorem sum_bound {b : Int} : ∀ {l : List Int}, (∀ d ∈ l, -b ≤ d ∧ d ≤ b) → -(b * (l.length : Int)) ≤ l.sum ∧ l.sum ≤ b * (l.length : Int)
  | [], _ => by simp
  | x :: l, h => by
    have ih := sum_bound fun d hd => h d (List.mem_cons_of_mem _ hd)
    have hx := h x (List.mem_cons_self ..)
    rw [List.sum_cons, List.length_cons]
    have e : b * ((l.length + 1 : Nat) : Int) = b * (l.length : Int) + b := by rw [Int.natCast_add, Int.mul_add]; simp
    rw [e]
    omega
theorem ok_lbalance (T : Facts K mg a) : FnR P w K mg base (L2.CX P w) 3 a.f__law_balance spLBal := by
  obtain ⟨fd, F⟩ := T.u__law_balance
  have GD : FnR P w K mg base (L2.CX P w) 1 a.f__law_below spBelow := ok_below T
  have GS : FnR P w K mg base (L2.CX P w) 2 a.f__law_shuffled spShuf := ok_shuffled T
  refine fnr_ok F sc__law_balance (F.binds fun _ _ _ _ _ _ us hl => match us, hl with | [_], _ => rfl) (fun vs H Q E h => ?_) (fun cdv A outer s H vs Q E hr h => ?_)
  · obtain ⟨st, rfl, _⟩ := h
    rfl
  · obtain ⟨st, rfl, D0, q⟩ := h
    have h80 : (10000000 : Int) < 2 ^ 80 := by decide
    refine ⟨_, (pss_cons (ps_par (i := 1) (j := 2) rfl sc__law_balance.nd rfl rfl (by decide) rfl rfl (pa_cons (pe_opA Like.refl pas_main (pe_int) (pe_glA Like.refl pas_main (by rfl) (pa_cons (pv 0) (pa_cons (pe_int) pa_nil)))) (pa_cons (pe_lst pa_nil) pa_nil)) (by rfl))
    (pss_cons (ps_set (i := 3) sc__law_balance.nd rfl (Or.inl rfl) (pe_ixA Like.refl pas_main (pe_lst (pa_cons (pe_int) (pa_cons (pe_int) (pa_cons (pe_opA Like.refl pas_main (pe_int) (pe_int)) pa_nil)))) (pe_glA Like.refl pas_main (by rfl) (pa_cons (pv 0) (pa_cons (pe_int) pa_nil)))))
    (pss_cons (ps_for own_main rfl (pi_range1 (by rfl) T.z_range (pa_cons (pe_opA Like.refl pas_main (pv 1) (pe_int)) pa_nil)) (pg_name (i := 4) sc__law_balance.nd rfl (Or.inl rfl)) (pss_one (ps_expr (pe_bm PySem.F.plainAttrs_list PySem.F.slot_list_append PySem.F.type_list_append mt_append (pv 2) (pa_cons (pe_ifExp (pt_cmpA Like.refl pas_main (pe_glA Like.refl pas_main (by rfl) (pa_cons (pv 0) (pa_cons (pe_int) pa_nil))) (pe_int) (nomark _)) (pe_opA Like.refl pas_main (pe_glA Like.refl pas_main (by rfl) (pa_cons (pv 0) (pa_cons (pe_opA Like.refl pas_main (pe_opA Like.refl pas_main (pe_int) (pv 3)) (pe_int)) pa_nil))) (pv 3)) (pe_int)) pa_nil)))))
    (pss_one (ps_ret (pe_glA Like.refl pas_main (by rfl) (pa_cons (pv 0) (pa_cons (pe_opA Like.refl pas_main (pv 2) (pe_lst (pa_cons (pe_opA Like.refl pas_main (pe_int) (pe_biA (id := "sum") Like.refl pas_main (by rfl) (by decide +kernel) (pa_cons (pv 2) pa_nil))) pa_nil))) pa_nil)))))))), ?_⟩
    walk_at "go"
    refine w_par ?_
    walk_at "go"
    refine s_fn GD (hr.mono (by decide)) ⟨st, 7, rfl, D0, by decide, by decide, fun v H1 v0 v1 sb1 D1 => ?_⟩
    obtain ⟨n, hn⟩ : ∃ n : Nat, 2 + v = (n : Int) := Int.eq_ofNat_of_zero_le (by omega)
    have hn2 : 2 ≤ n := by omega
    have hn8 : n ≤ 8 := by omega
    walk_at "go"
    rw [hn]
    refine ⟨by show 0 ≤ sizeLine; decide, fun fl hfl => ?_⟩
    have s2 := same_new (o := .lst []) hfl
    have nfl : ¬ fl = st := D1.ne hfl
    have D2 := D1.same s2
    have hF2 : (upd H1 fl (.lst [])) fl = some (.lst (([] : List Int).map V.int)) := upd_same
    have sb2 : SameB (· = st) H (upd H1 fl (.lst [])) := sb1.trans (Same.b s2)
    have hfl0 : H fl = none := by
      cases e : H fl with
      | none => rfl
      | some o => exact absurd (sb1 _ _ nfl e) (by rw [hfl]; simp)
    generalize upd H1 fl (.lst []) = H2 at *
    walk_at "go"
    refine ⟨_, _, rfl, ?_⟩
    dsimp only [List.set]
    walk_at "go"
    refine s_pow ⟨by decide, by decide⟩ ?_
    walk_at "go"
    refine ⟨by show 3 ≤ sizeLine; decide, fun ll hll => ?_⟩
    have s3 := same_new (o := .lst [.int 4, .int 9, .int ((10 : Int) ^ (6 : Int).toNat)]) hll
    have hL3 : (upd H2 ll (.lst [.int 4, .int 9, .int ((10 : Int) ^ (6 : Int).toNat)])) ll = some (.lst [.int 4, .int 9, .int 1000000]) := upd_same
    have D3 := D2.same s3
    have nll : ¬ ll = st := D2.ne hll
    have hF3 := s3 _ _ hF2
    have sb3 := sb2.trans (Same.b s3)
    generalize upd H2 ll (.lst [.int 4, .int 9, .int ((10 : Int) ^ (6 : Int).toNat)]) = H3 at *
    walk_at "go"
    refine s_fn GD (hr.mono (by decide)) ⟨st, 3, rfl, D3, by decide, by decide, fun u H4 u0 u1 sb4 D4 => ?_⟩
    have hF4 := sb4 _ _ nfl hF3
    have hL4 := sb4 _ _ nll hL3
    have sb34 := sb3.trans sb4
    obtain ⟨tp, htp, t0, t1⟩ : ∃ tp : Int, atI [V.int 4, V.int 9, V.int 1000000] u = some (.int tp) ∧ 0 < tp ∧ tp ≤ 1000000 := by
      have : u = 0 ∨ u = 1 ∨ u = 2 := by omega
      rcases this with rfl | rfl | rfl
      · exact ⟨4, rfl, by decide, by decide⟩
      · exact ⟨9, rfl, by decide, by decide⟩
      · exact ⟨1000000, rfl, by decide, by decide⟩
    refine s_ixL (SqL.of hL4) htp ?_
    walk_at "go"
    dsimp only [List.set]
    refine f_rng (n := n - 1) (fun k σ H' => SameB (· = st) H H' ∧ DSt st H' ∧ ∃ (fs : List Int) (x4 : Option V), σ = [some (.ref st), some (.int n), some (.ref fl), some (.int tp), x4] ∧ H' fl = some (.lst (fs.map V.int)) ∧ fs.length = k ∧ ∀ d ∈ fs, -(1000000) ≤ d ∧ d ≤ 1000000)
      (fun R z => ?_) (by omega) ⟨sb34, D4, [], none, rfl, hF4, rfl, by simp⟩ (fun k σ H5 hk pv => ?_) (fun σ H5 pv => ?_)
    · walk_at "go"
      rw [show (n : Int) - 1 = ((n - 1 : Nat) : Int) by omega]
      exact z
    · obtain ⟨sb5, D5, fs, x4, rfl, hF, hfl5, hb⟩ := pv
      refine w_name ?_
      dsimp only [List.set]
      walk_at "go"
      refine w_bm ?_
      walk_at "go"
      refine ⟨.inl ⟨rfl, _, SqL.of hF⟩, ?_⟩
      refine w_ifJ (fun v H' => ∃ z : Int, v = .int z ∧ -(1000000) ≤ z ∧ z ≤ 1000000 ∧ SameB (· = st) H H' ∧ DSt st H' ∧ H' fl = some (.lst (fs.map V.int))) (fun R hR => ?_) (fun v H6 hv => ?_)
      · walk_at "go"
        refine s_fn GD (hr.mono (by decide)) ⟨st, 4, rfl, D5, by decide, by decide, fun r H6 r0 r1 sb6 D6 => ?_⟩
        have hF6 := sb6 _ _ nfl hF
        walk_at "go"
        refine ite_d (fun hz => ?_) (fun hz => ?_)
        · walk_at "go"
          refine s_mul (.inl ⟨by decide, by decide⟩) ?_
          walk_at "go"
          refine s_fn GD (hr.mono (by decide)) ⟨st, 2 * tp + 1, rfl, D6, by omega, by omega, fun y H7 y0 y1 sb7 D7 => ?_⟩
          walk_at "go"
          exact hR _ _ ⟨y - tp, rfl, by omega, by omega, (sb5.trans sb6).trans sb7, D7, sb7 _ _ nfl hF6⟩
        · walk_at "go"
          exact hR _ _ ⟨0, rfl, by decide, by decide, sb5.trans sb6, D6, hF6⟩
      · obtain ⟨z, rfl, z0, z1, sb6, D6, hF6⟩ := hv
        walk_at "go"
        refine ⟨fl, _, _, rfl, rfl, hF6, by rw [List.length_map]; exact Nat.lt_of_lt_of_le (show fs.length < 1000 by omega) (by decide), ?_⟩
        walk_at "go"
        refine ⟨fun b o nb e => ?_, D6.upd nfl, fs ++ [z], _, rfl, by rw [upd_same, List.map_append]; rfl, by rw [List.length_append, hfl5]; rfl, fun d hd => ?_⟩
        · rw [upd_ne (ne_of_none e hfl0)]
          exact sb6 _ _ nb e
        · rcases List.mem_append.1 hd with w | w
          · exact hb d w
          · rw [List.mem_singleton.1 w]
            exact ⟨z0, z1⟩
    · obtain ⟨sb5, D5, fs, x4, rfl, hF, hfl5, hb⟩ := pv
      have hsb := sum_bound (b := 1000000) hb
      have e7 : (10 : Int) ^ 7 = 10000000 := by decide
      walk_at "go"
      refine s_sumL rfl (SqL.of hF) ?_
      walk_at "go"
      refine ⟨by show 1 ≤ sizeLine; decide, fun sl hsl => ?_⟩
      have s6 := same_new (o := .lst [.int (0 - fs.sum)]) hsl
      refine s_cat (s6 _ _ hF) upd_same (by rw [List.length_map]; exact Nat.le_trans (show fs.length + 1 ≤ 1000 by omega) (by decide)) fun cl hcl => ?_
      have s7 := s6.trans (same_new (o := .lst (fs.map V.int ++ [.int (0 - fs.sum)])) hcl)
      have ncl : ¬ cl = st := (D5.same s6).ne hcl
      refine s_fn GS hr ⟨st, cl, fs ++ [0 - fs.sum], rfl, D5.same s7, by rw [upd_same, List.map_append]; rfl, ncl, by rw [List.length_append, List.length_singleton]; omega, fun p ys H8 hp sb8 D8 hY hperm => ?_⟩
      have hyl : ys.length = n := by rw [hperm.length_eq, List.length_append, List.length_singleton]; omega
      have hp0 : H p = none := by
        cases e : H p with
        | none => rfl
        | some o =>
          have np : ¬ p = st := (D5.same s7).ne hp
          exact absurd (s7 _ _ (sb5 _ _ np e)) (by rw [hp]; simp)
      refine q p ys H8 hp0 ((sb5.trans (Same.b s7)).trans sb8) D8 hY (by omega) (by omega) ?_ fun d hd => ?_
      · have e : ys.sum = (fs ++ [0 - fs.sum]).sum := by
          have : ∀ {l m : List Int}, l.Perm m → l.sum = m.sum := fun h => sum_perm h
          exact this hperm
        rw [e, List.sum_append]
        simp
        omega
      · have hm := hperm.mem_iff.1 hd
        rw [e7]
        rcases List.mem_append.1 hm with w | w
        · have := hb d w
          omega
        · rw [List.mem_singleton.1 w]
          have : (1000000 : Int) * (fs.length : Int) ≤ 1000000 * 7 := by omega
          omega
end

end Odd

namespace Odd
open PySem PySem.Spec PyProof.Rows L2
/-! tactics of this text: st one step, go as many as go -/
local macro_rules | `(tactic| walk_at "ar") => `(tactic| first | assumption | omega | (show (_ : Int) < _; omega) | decide)
local macro_rules | `(tactic| walk_at "st") => `(tactic| first
  | with_reducible refine' w_seq ?_
  | with_reducible refine' w_asg ?_
  | with_reducible refine' w_name ?_
  | with_reducible refine' w_c ?_
  | with_reducible refine' w_op ?_
  | with_reducible refine' w_ix ?_
  | with_reducible refine' w_at ?_
  | with_reducible refine' w_cons ?_
  | with_reducible refine' w_nil ?_
  | with_reducible refine' w_ret ?_
  | with_reducible refine' w_if ?_
  | with_reducible refine' w_test ?_
  | with_reducible refine' w_tr ?_
  | with_reducible refine' w_un ?_
  | with_reducible refine' w_andV ?_
  | with_reducible refine' w_orV ?_
  | with_reducible refine' w_notA ?_
  | with_reducible refine' w_ch ?_
  | with_reducible refine' w_and ?_
  | with_reducible refine' w_or ?_
  | with_reducible refine' w_not ?_
  | with_reducible refine' w_ifx ?_
  | with_reducible refine' w_tup ?_
  | with_reducible refine' w_lst ?_
  | with_reducible refine' w_next ?_
  | with_reducible refine' w_drop ?_
  | with_reducible refine' w_retN ?_
  | ((with_reducible refine' w_var ?h ?_); (case h => exact rfl))
  | ((with_reducible refine' w_bi ?h ?_); (case h => walk_at "mg"))
  | ((with_reducible refine' w_bv ?h ?_); (case h => walk_at "mg"))
  | ((with_reducible refine' w_gv ?h ?_); (case h => walk_at "mg"))
  | ((with_reducible refine' w_gl ?h ?k ?_); (case h => walk_at "mg"); (case k => walk_at "kp"))
  | ((with_reducible refine' w_glS ?h ?k ?_); (case h => walk_at "mg"); (case k => walk_at "kp"))
  | with_reducible refine' bl_ex ?_
  | with_reducible refine' iteT ?_
  | with_reducible refine' iteF ?_
  | with_reducible refine' ite_nf ?_
  | with_reducible refine' ite_nt ?_
  | with_reducible refine' s_add ?_
  | with_reducible refine' s_sub ?_
  | with_reducible refine' s_lt ?_
  | with_reducible refine' s_le ?_
  | with_reducible refine' s_gt ?_
  | with_reducible refine' s_ge ?_
  | with_reducible refine' s_eqI ?_
  | with_reducible refine' s_neI ?_
  | with_reducible refine' s_eqB ?_
  | with_reducible refine' s_neB ?_
  | with_reducible refine' s_truB ?_
  | with_reducible refine' s_truI ?_
  | with_reducible refine' s_neg ?_
  | ((with_reducible refine' s_mod ?h ?_); (case h => walk_at "ar")))
local macro_rules | `(tactic| walk_at "go") => `(tactic| repeat walk_at "st")

local macro_rules | `(tactic| walk_at "mg") => `(tactic| first | assumption | exact Facts.z_TypeError (by assumption) | exact Facts.z_ValueError (by assumption) | exact Facts.z_abs (by assumption) | exact Facts.z_all (by assumption) | exact Facts.z_bool (by assumption) | exact Facts.z_classmethod (by assumption) | exact Facts.z_enumerate (by assumption) | exact Facts.z_int (by assumption) | exact Facts.z_isinstance (by assumption) | exact Facts.z_len (by assumption) | exact Facts.z_list (by assumption) | exact Facts.z_max (by assumption) | exact Facts.z_min (by assumption) | exact Facts.z_property (by assumption) | exact Facts.z_range (by assumption) | exact Facts.z_sorted (by assumption) | exact Facts.z_str (by assumption) | exact Facts.z_sum (by assumption) | exact Facts.z_super (by assumption) | exact Facts.z_tuple (by assumption) | exact Facts.z_zip (by assumption) | exact Facts.g__wall (by assumption) | exact Facts.g_is_between (by assumption) | exact Facts.g_check_seat (by assumption) | exact Facts.g_seats_of (by assumption) | exact Facts.g_check_payment (by assumption) | exact Facts.g_balance_after (by assumption) | exact Facts.g_check_balance (by assumption) | exact Facts.g_sums_of_sets (by assumption) | exact Facts.g_number_of_groups (by assumption) | exact Facts.g_parted (by assumption) | exact Facts.g_payments_within (by assumption) | exact Facts.g_payments (by assumption) | exact Facts.g_fewest_payments (by assumption) | exact Facts.g_check_amount (by assumption) | exact Facts.g_check_seats (by assumption) | exact Facts.g_check_seat_count (by assumption) | exact Facts.g_check_mark (by assumption) | exact Facts.g_no_shares (by assumption) | exact Facts.g__law_random (by assumption) | exact Facts.g__law_below (by assumption) | exact Facts.g__law_shuffled (by assumption) | exact Facts.g__law_balance (by assumption) | exact Facts.g__law_shares (by assumption) | exact Facts.g__law_equal (by assumption) | exact Facts.g__law_error_of (by assumption) | exact Facts.g__law_all_raise (by assumption) | exact Facts.g_law (by assumption) | exact Facts.g_Shares (by assumption) | exact Facts.g_Bill (by assumption) | exact Facts.g_Page (by assumption) | exact Facts.g_Ledger (by assumption) | exact Facts.eg_InvalidBill (by assumption) | exact Facts.eg_InvalidEvening (by assumption) | exact Facts.eg_InvalidOperation (by assumption) | exact Facts.eg_InvalidMark (by assumption) | exact Facts.eg_UnknownSeat (by assumption) | exact Facts.eg_InvalidNumber (by assumption) | exact Facts.eg_NotBalanced (by assumption) | exact Facts.eg_EmptyGroup (by assumption) | exact Facts.eg_InvalidText (by assumption) | exact Facts.eg_InvalidReceipt (by assumption) | exact Facts.eg_DecodeError (by assumption))
local macro_rules | `(tactic| walk_at "kp") => `(tactic| first | assumption | exact (Facts.mk_Shares (by assumption)).kp | exact (Facts.mk_Bill (by assumption)).kp | exact (Facts.mk_Page (by assumption)).kp | exact (Facts.mk_Ledger (by assumption)).kp | exact Fun.kp (Facts.u__wall (by assumption)).choose_spec | exact Fun.kp (Facts.u_is_between (by assumption)).choose_spec | exact Fun.kp (Facts.u_check_seat (by assumption)).choose_spec | exact Fun.kp (Facts.u_seats_of (by assumption)).choose_spec | exact Fun.kp (Facts.u_check_payment (by assumption)).choose_spec | exact Fun.kp (Facts.u_balance_after (by assumption)).choose_spec | exact Fun.kp (Facts.u_check_balance (by assumption)).choose_spec | exact Fun.kp (Facts.u_sums_of_sets (by assumption)).choose_spec | exact Fun.kp (Facts.u_number_of_groups (by assumption)).choose_spec | exact Fun.kp (Facts.u_parted (by assumption)).choose_spec | exact Fun.kp (Facts.u_payments_within (by assumption)).choose_spec | exact Fun.kp (Facts.u_payments (by assumption)).choose_spec | exact Fun.kp (Facts.u_fewest_payments (by assumption)).choose_spec | exact Fun.kp (Facts.u_check_amount (by assumption)).choose_spec | exact Fun.kp (Facts.u_check_seats (by assumption)).choose_spec | exact Fun.kp (Facts.u_check_seat_count (by assumption)).choose_spec | exact Fun.kp (Facts.u_check_mark (by assumption)).choose_spec | exact Fun.kp (Facts.u_no_shares (by assumption)).choose_spec | exact Fun.kp (Facts.u__law_random (by assumption)).choose_spec | exact Fun.kp (Facts.u__law_below (by assumption)).choose_spec | exact Fun.kp (Facts.u__law_shuffled (by assumption)).choose_spec | exact Fun.kp (Facts.u__law_balance (by assumption)).choose_spec | exact Fun.kp (Facts.u__law_shares (by assumption)).choose_spec | exact Fun.kp (Facts.u__law_equal (by assumption)).choose_spec | exact Fun.kp (Facts.u__law_error_of (by assumption)).choose_spec | exact Fun.kp (Facts.u__law_all_raise (by assumption)).choose_spec | exact Fun.kp (Facts.u_law (by assumption)).choose_spec)
/-! ### the law's way to a balance -/
section
variable {P : Program} {w : World} {K : PySem.W.Frag} {mg : Str → Option Value} {base : Heap} {a : Ad}
def g1V (ds : List Int) (s : Nat) : List Pay := if dueAt ds s > 0 then [(s, ds.length - 1, dueAt ds s)] else if dueAt ds s < 0 then [(ds.length - 1, s, 0 - dueAt ds s)] else []
def lgV (ds : List Int) (k : Nat) : List Pay := (List.range k).flatMap (g1V ds)
theorem lgV_snoc (ds : List Int) (k : Nat) : lgV ds (k + 1) = lgV ds k ++ g1V ds k := by
  unfold lgV
  rw [List.range_succ, List.flatMap_append]
  simp
theorem lgV_len (ds : List Int) : ∀ k, (lgV ds k).length ≤ k
  | 0 => Nat.le_refl _
  | k + 1 => by
    have ih := lgV_len ds k
    rw [lgV_snoc, List.length_append]
    have : (g1V ds k).length ≤ 1 := by
      unfold g1V
      split
      · exact Nat.le_refl _
      · split
        · exact Nat.le_refl _
        · exact Nat.zero_le _
    omega
theorem lgV_ok {ds : List Int} (h2 : 2 ≤ ds.length) (hb : ∀ d ∈ ds, -(10 ^ 7) ≤ d ∧ d ≤ 10 ^ 7) : ∀ k, k ≤ ds.length - 1 → ∀ x ∈ lgV ds k, PayOk ds.length x
  | 0, _, x, hx => by simp [lgV] at hx
  | k + 1, hk, x, hx => by
    rw [lgV_snoc] at hx
    rcases List.mem_append.1 hx with h | h
    · exact lgV_ok h2 hb k (by omega) x h
    · have hd : -(10 ^ 7) ≤ dueAt ds k ∧ dueAt ds k ≤ 10 ^ 7 := by
        refine hb _ ?_
        unfold dueAt
        rw [List.getD_eq_getElem?_getD, List.getElem?_eq_getElem (show k < ds.length by omega)]
        exact List.getElem_mem _
      have e7 : (10 : Int) ^ 7 = 10000000 := by decide
      have e15 : (10 : Int) ^ 15 = 1000000000000000 := by decide
      unfold g1V at h
      unfold PayOk
      split at h
      · rw [List.mem_singleton.1 h]
        refine ⟨?_, ?_, ?_, ?_, ?_⟩ <;> dsimp only <;> omega
      · split at h
        · rw [List.mem_singleton.1 h]
          refine ⟨?_, ?_, ?_, ?_, ?_⟩ <;> dsimp only <;> omega
        · simp at h
theorem lgV_eff {ds : List Int} : ∀ k, k ≤ ds.length - 1 → ∀ s, eff (lgV ds k) s = if s < k then dueAt ds s else if s = ds.length - 1 then -sumOf ds (List.range k) else 0
  | 0, _, s => by
    show (0 : Int) = _
    rw [if_neg (by omega)]
    split <;> rfl
  | k + 1, hk, s => by
    rw [lgV_snoc, eff_app, lgV_eff k (by omega) s]
    have hs : sumOf ds (List.range (k + 1)) = sumOf ds (List.range k) + dueAt ds k := by
      rw [List.range_succ, sumOf_app]
      show _ + (dueAt ds k + 0) = _
      rw [Int.add_zero]
    have hg : eff (g1V ds k) s = if s = ds.length - 1 then -dueAt ds k else if s = k then dueAt ds k else 0 := by
      unfold g1V
      split
      · show (if s = ds.length - 1 then -dueAt ds k else if s = k then dueAt ds k else 0) + 0 = _
        rw [Int.add_zero]
      · split
        · show (if s = k then -(0 - dueAt ds k) else if s = ds.length - 1 then (0 - dueAt ds k) else 0) + 0 = _
          by_cases a1 : s = k
          · rw [if_pos a1, if_neg (by omega), if_pos a1]; omega
          · rw [if_neg a1]
            by_cases a2 : s = ds.length - 1
            · rw [if_pos a2, if_pos a2]; omega
            · rw [if_neg a2, if_neg a2, if_neg a1]; rfl
        · have z : dueAt ds k = 0 := by omega
          show (0 : Int) = _
          rw [z]
          split
          · rfl
          · split <;> rfl
    rw [hg, hs]
    by_cases a1 : s < k
    · rw [if_pos a1, if_neg (by omega), if_neg (by omega), if_pos (by omega)]; omega
    · rw [if_neg a1]
      by_cases a2 : s = ds.length - 1
      · rw [if_pos a2, if_pos a2, if_neg (by omega), if_pos a2]; omega
      · rw [if_neg a2, if_neg a2]
        by_cases a3 : s = k
        · rw [if_pos a3, if_pos (by omega), a3]; omega
        · rw [if_neg a3, if_neg (by omega), if_neg a2]; rfl
theorem lgV_all {ds : List Int} (h2 : 2 ≤ ds.length) (h0 : ds.sum = 0) (hb : ∀ d ∈ ds, -(10 ^ 7) ≤ d ∧ d ≤ 10 ^ 7) : giveAll (List.replicate ds.length 0) (lgV ds (ds.length - 1)) = ds := by
  refine List.ext_getElem? fun s => ?_
  by_cases h : s < ds.length
  · have hl : s < (giveAll (List.replicate ds.length 0) (lgV ds (ds.length - 1))).length := by rw [giveAll_len, List.length_replicate]; exact h
    have e := give_eff (lgV ds (ds.length - 1)) (List.replicate ds.length 0) (fun x hx => by
      rw [List.length_replicate]
      have := lgV_ok h2 hb _ (Nat.le_refl _) x hx
      exact ⟨this.1, this.2.1, this.2.2.1⟩) s
    have ez : dueAt (List.replicate ds.length 0) s = 0 := by
      unfold dueAt
      rw [List.getD_eq_getElem?_getD, List.getElem?_replicate, if_pos h]
      rfl
    rw [ez, lgV_eff _ (Nat.le_refl _), Int.zero_add] at e
    have ev : (if s < ds.length - 1 then dueAt ds s else if s = ds.length - 1 then -sumOf ds (List.range (ds.length - 1)) else 0) = dueAt ds s := by
      by_cases a1 : s < ds.length - 1
      · rw [if_pos a1]
      · rw [if_neg a1, if_pos (by omega)]
        have hr : sumOf ds (List.range ds.length) = 0 := by unfold sumOf; rw [range_due]; exact h0
        have hsp : List.range ds.length = List.range (ds.length - 1) ++ [ds.length - 1] := by
          conv => lhs; rw [show ds.length = (ds.length - 1) + 1 by omega]
          rw [List.range_succ]
        rw [hsp, sumOf_app] at hr
        have : sumOf ds [ds.length - 1] = dueAt ds (ds.length - 1) := by show _ + 0 = _; rw [Int.add_zero]
        rw [show s = ds.length - 1 by omega]
        omega
    rw [ev] at e
    unfold dueAt at e
    rw [List.getD_eq_getElem?_getD, List.getD_eq_getElem?_getD, List.getElem?_eq_getElem hl, List.getElem?_eq_getElem h] at e
    rw [List.getElem?_eq_getElem hl, List.getElem?_eq_getElem h]
    exact congrArg some e
  · rw [List.getElem?_eq_none (by rw [giveAll_len, List.length_replicate]; omega), List.getElem?_eq_none (by omega)]
def spLShares (CS : Addr) : Sp := fun vs H Q _ => ∃ (l : Addr) (ds : List Int), vs = [.ref l] ∧ H l = some (.lst (ds.map V.int)) ∧ 2 ≤ ds.length ∧ ds.length ≤ 8 ∧ ds.sum = 0 ∧ (∀ d ∈ ds, -(10 ^ 7) ≤ d ∧ d ≤ 10 ^ 7) ∧
  ∀ r H', H r = none → Same H H' → ShAt CS H' r ds → Q (.ref r) H'
theorem ok_lshares (T : Facts K mg a) : FnR P w K mg base (L2.CX P w) 6 a.f__law_shares (spLShares a.c_Shares) := by
  obtain ⟨fd, F⟩ := T.u__law_shares
  have GI : FnR P w K mg base (L2.CX P w) 4 a.f_Ledger__init_ (fun vs H Q E => spLeInit a.c_Ledger a.c_Page a.c_Shares (vs ++ [.int 0]) H Q E) := ok_le_init0 T
  have GB : FnR P w K mg base (L2.CX P w) 1 a.f_Ledger_balance (spLeBal a.c_Ledger a.c_Page) := ok_le_balance T
  have GA : FnR P w K mg base (L2.CX P w) 4 a.f_balance_after (spBalAfter a.c_Shares) := ok_balance_after T
  refine fnr_ok F sc__law_shares (F.binds fun _ _ _ _ _ _ us hl => match us, hl with | [_], _ => rfl) (fun vs H Q E h => ?_) (fun cdv A outer s H vs Q E hr h => ?_)
  · obtain ⟨l, ds, rfl, _⟩ := h
    rfl
  · obtain ⟨l, ds, rfl, hl, h2, h8, h0, hb, q⟩ := h
    refine ⟨_, (pss_cons (ps_par (i := 1) (j := 2) rfl sc__law_shares.nd rfl rfl (by decide) rfl rfl (pa_cons (pe_opA Like.refl pas_main (pe_biA (id := "len") Like.refl pas_main (by rfl) (by decide +kernel) (pa_cons (pv 0) pa_nil)) (pe_int)) (pa_cons (pe_lst pa_nil) pa_nil)) (by rfl))
    (pss_cons (ps_for own_main rfl (pi_range1 (by rfl) T.z_range (pa_cons (pv 1) pa_nil)) (pg_name (i := 3) sc__law_shares.nd rfl (Or.inl rfl)) (pss_cons (ps_if (pt_cmpA Like.refl pas_main (pe_ixA Like.refl pas_main (pv 0) (pv 3)) (pe_int) (nomark _)) (pss_one (ps_expr (pe_bm PySem.F.plainAttrs_list PySem.F.slot_list_append PySem.F.type_list_append mt_append (pv 2) (pa_cons (pe_tup (pa_cons (pv 3) (pa_cons (pv 1) (pa_cons (pe_ixA Like.refl pas_main (pv 0) (pv 3)) pa_nil)))) pa_nil)))) pss_nil)
    (pss_one (ps_if (pt_cmpA Like.refl pas_main (pe_ixA Like.refl pas_main (pv 0) (pv 3)) (pe_int) (nomark _)) (pss_one (ps_expr (pe_bm PySem.F.plainAttrs_list PySem.F.slot_list_append PySem.F.type_list_append mt_append (pv 2) (pa_cons (pe_tup (pa_cons (pv 1) (pa_cons (pv 3) (pa_cons (pe_opA Like.refl pas_main (pe_int) (pe_ixA Like.refl pas_main (pv 0) (pv 3))) pa_nil)))) pa_nil)))) pss_nil))))
    (pss_one (ps_ret (pe_glA Like.refl pas_main (by rfl) (pa_cons (pe_atA Like.refl pas_main (pe_glA Like.refl pas_main (by rfl) (pa_cons (pe_biA (id := "len") Like.refl pas_main (by rfl) (by decide +kernel) (pa_cons (pv 0) pa_nil)) pa_nil))) (pa_cons (pv 2) pa_nil))))))), ?_⟩
    walk_at "go"
    refine w_par ?_
    walk_at "go"
    refine s_lenL (SqL.of hl) ?_
    rw [List.length_map]
    walk_at "go"
    rw [show ((ds.length : Nat) : Int) - 1 = ((ds.length - 1 : Nat) : Int) by omega]
    refine ⟨by show 0 ≤ sizeLine; decide, fun gl hgl => ?_⟩
    have s1 := same_new (o := .lst []) hgl
    have hG1 : (upd H gl (.lst [])) gl = some (.lst (([] : List Addr).map V.ref)) := upd_same
    generalize upd H gl (.lst []) = H1 at *
    walk_at "go"
    refine ⟨_, _, rfl, ?_⟩
    dsimp only [List.set]
    walk_at "go"
    refine f_rng (n := ds.length - 1) (fun k σ H' => Same H H' ∧ ∃ (ps : List Addr) (x3 : Option V), σ = [some (.ref l), some (.int (ds.length - 1 : Nat)), some (.ref gl), x3] ∧ H' gl = some (.lst (ps.map V.ref)) ∧ PaysL H' ps (lgV ds k))
      (fun R z => by walk_at "go"; exact z) (by omega) ⟨s1, [], none, rfl, hG1, rfl, fun i p x z => by simp at z⟩ (fun k σ H2 hk pv => ?_) (fun σ H2 pv => ?_)
    · obtain ⟨s2, ps, x3, rfl, hG, hp⟩ := pv
      have hL2 := s2 _ _ hl
      have hcut := lgV_len ds k
      have hsn := lgV_snoc ds k
      have add : ∀ (u : Addr) (x : Pay), H2 u = none → g1V ds k = [x] → Same H (upd (upd H2 u (.tup [.int (x.1 : Nat), .int (x.2.1 : Nat), .int x.2.2])) gl (.lst (ps.map V.ref ++ [.ref u]))) ∧ (upd (upd H2 u (.tup [.int (x.1 : Nat), .int (x.2.1 : Nat), .int x.2.2])) gl (.lst (ps.map V.ref ++ [.ref u]))) gl = some (.lst ((ps ++ [u]).map V.ref)) ∧
          PaysL (upd (upd H2 u (.tup [.int (x.1 : Nat), .int (x.2.1 : Nat), .int x.2.2])) gl (.lst (ps.map V.ref ++ [.ref u]))) (ps ++ [u]) (lgV ds (k + 1)) ∧ (upd (upd H2 u (.tup [.int (x.1 : Nat), .int (x.2.1 : Nat), .int x.2.2])) gl (.lst (ps.map V.ref ++ [.ref u]))) l = some (.lst (ds.map V.int)) := fun u x hu hx => by
        have sU := same_new (o := .tup [.int (x.1 : Nat), .int (x.2.1 : Nat), .int x.2.2]) hu
        have hGU := sU _ _ hG
        have s3 := same_mut (o := .lst (ps.map V.ref ++ [.ref u])) (s2.trans sU) hgl
        refine ⟨s3, by rw [upd_same, List.map_append]; rfl, ?_, s3 _ _ hl⟩
        rw [hsn, hx]
        exact (hp.same fun q vs e => by rw [upd_ne (fun z => by rw [z, hG] at e; cases e)]; exact sU _ _ e).app (PaysL.one (by show _ = _; rw [upd_ne (fun z => by rw [z, hG] at hu; cases hu), upd_same]))
      refine w_name ?_
      dsimp only [List.set]
      walk_at "go"
      refine s_ixL (SqL.of hL2) (v := .int (dueAt ds k)) (at_of (j := k) rfl (mapGet (by omega))) ?_
      walk_at "go"
      refine ite_d (fun hpos => ?_) (fun hnp => ?_)
      · have hx : g1V ds k = [(k, ds.length - 1, dueAt ds k)] := by unfold g1V; rw [if_pos hpos]
        walk_at "go"
        refine w_bm ?_
        walk_at "go"
        refine ⟨.inl ⟨rfl, _, SqL.of hG⟩, ?_⟩
        walk_at "go"
        refine s_ixL (SqL.of hL2) (v := .int (dueAt ds k)) (at_of (j := k) rfl (mapGet (by omega))) ?_
        walk_at "go"
        refine ⟨by show 3 ≤ sizeLine; decide, fun u hu => ?_⟩
        obtain ⟨a1, a2, a3, a4⟩ := add u (k, ds.length - 1, dueAt ds k) hu hx
        walk_at "go"
        refine ⟨gl, _, _, rfl, rfl, (same_new hu) _ _ hG, by rw [List.length_map, hp.1]; exact Nat.lt_of_lt_of_le (show (lgV ds k).length < 1000 by omega) (by decide), ?_⟩
        walk_at "go"
        refine s_ixL (SqL.of a4) (v := .int (dueAt ds k)) (at_of (j := k) rfl (mapGet (by omega))) ?_
        walk_at "go"
        refine ite_d (fun z => absurd z (by omega)) (fun _ => ?_)
        walk_at "go"
        exact ⟨a1, _, _, rfl, a2, a3⟩
      · walk_at "go"
        refine s_ixL (SqL.of hL2) (v := .int (dueAt ds k)) (at_of (j := k) rfl (mapGet (by omega))) ?_
        walk_at "go"
        refine ite_d (fun hneg => ?_) (fun hnn => ?_)
        · have hx : g1V ds k = [(ds.length - 1, k, 0 - dueAt ds k)] := by unfold g1V; rw [if_neg hnp, if_pos hneg]
          walk_at "go"
          refine w_bm ?_
          walk_at "go"
          refine ⟨.inl ⟨rfl, _, SqL.of hG⟩, ?_⟩
          walk_at "go"
          refine s_ixL (SqL.of hL2) (v := .int (dueAt ds k)) (at_of (j := k) rfl (mapGet (by omega))) ?_
          walk_at "go"
          refine ⟨by show 3 ≤ sizeLine; decide, fun u hu => ?_⟩
          obtain ⟨a1, a2, a3, a4⟩ := add u (ds.length - 1, k, 0 - dueAt ds k) hu hx
          walk_at "go"
          refine ⟨gl, _, _, rfl, rfl, (same_new hu) _ _ hG, by rw [List.length_map, hp.1]; exact Nat.lt_of_lt_of_le (show (lgV ds k).length < 1000 by omega) (by decide), ?_⟩
          walk_at "go"
          exact ⟨a1, _, _, rfl, a2, a3⟩
        · have hx : g1V ds k = [] := by unfold g1V; rw [if_neg hnp, if_neg hnn]
          walk_at "go"
          exact ⟨s2, _, _, rfl, hG, by rw [hsn, hx, List.append_nil]; exact hp⟩
    · obtain ⟨s2, ps, x3, rfl, hG, hp⟩ := pv
      have hok := lgV_ok h2 hb _ (Nat.le_refl _)
      have hall := lgV_all h2 h0 hb
      have hll := lgV_len ds (ds.length - 1)
      walk_at "go"
      refine s_lenL (SqL.of (s2 _ _ hl)) ?_
      rw [List.length_map]
      refine s_ledger0 T GI (hr.mono (by decide)) h2 h8 fun le H3 hle s3 leA => ?_
      obtain ⟨dx, pl, pg, sh, op, b1, b2, b3, b4⟩ := leA
      walk_at "go"
      refine s_prop T.cl_Ledger T.pr_Ledger_balance GB (hr.mono (by decide)) b1 ⟨le, dx, pl, pg, ds.length, 0, _, .ref op, .ref sh, .int 0, rfl, b1, b2, rfl, b3, ?_⟩
      walk_at "go"
      refine s_fn GA (hr.mono (by decide)) ⟨sh, gl, List.replicate ds.length 0, ps, lgV ds (ds.length - 1), rfl, b4, s3 _ _ hG, hp.same fun q vs e => s3 _ _ e, by rw [List.length_replicate]; exact h8, by omega, by rw [List.length_replicate]; exact hok, fun r H4 hr4 s4 shr => ?_⟩
      rw [hall] at shr
      exact q r H4 (s2.free (s3.free hr4)) ((s2.trans s3).trans s4) shr
end

end Odd

namespace Odd
open PySem PySem.Spec PyProof.Rows L2 LamX NdefX
/-! tactics of this text: st one step, go as many as go -/
local macro_rules | `(tactic| walk_at "ar") => `(tactic| first | assumption | omega | (show (_ : Int) < _; omega) | decide)
local macro_rules | `(tactic| walk_at "st") => `(tactic| first
  | with_reducible refine' w_seq ?_
  | with_reducible refine' w_asg ?_
  | with_reducible refine' w_name ?_
  | with_reducible refine' w_c ?_
  | with_reducible refine' w_op ?_
  | with_reducible refine' w_ix ?_
  | with_reducible refine' w_at ?_
  | with_reducible refine' w_cons ?_
  | with_reducible refine' w_nil ?_
  | with_reducible refine' w_ret ?_
  | with_reducible refine' w_if ?_
  | with_reducible refine' w_test ?_
  | with_reducible refine' w_tr ?_
  | with_reducible refine' w_un ?_
  | with_reducible refine' w_andV ?_
  | with_reducible refine' w_orV ?_
  | with_reducible refine' w_notA ?_
  | with_reducible refine' w_ch ?_
  | with_reducible refine' w_and ?_
  | with_reducible refine' w_or ?_
  | with_reducible refine' w_not ?_
  | with_reducible refine' w_ifx ?_
  | with_reducible refine' w_tup ?_
  | with_reducible refine' w_lst ?_
  | with_reducible refine' w_next ?_
  | with_reducible refine' w_drop ?_
  | with_reducible refine' w_retN ?_
  | ((with_reducible refine' w_var ?h ?_); (case h => exact rfl))
  | ((with_reducible refine' w_bi ?h ?_); (case h => walk_at "mg"))
  | ((with_reducible refine' w_bv ?h ?_); (case h => walk_at "mg"))
  | ((with_reducible refine' w_gv ?h ?_); (case h => walk_at "mg"))
  | ((with_reducible refine' w_gl ?h ?k ?_); (case h => walk_at "mg"); (case k => walk_at "kp"))
  | ((with_reducible refine' w_glS ?h ?k ?_); (case h => walk_at "mg"); (case k => walk_at "kp"))
  | with_reducible refine' bl_ex ?_
  | with_reducible refine' iteT ?_
  | with_reducible refine' iteF ?_
  | with_reducible refine' ite_nf ?_
  | with_reducible refine' ite_nt ?_
  | with_reducible refine' s_add ?_
  | with_reducible refine' s_sub ?_
  | with_reducible refine' s_lt ?_
  | with_reducible refine' s_le ?_
  | with_reducible refine' s_gt ?_
  | with_reducible refine' s_ge ?_
  | with_reducible refine' s_eqI ?_
  | with_reducible refine' s_neI ?_
  | with_reducible refine' s_eqB ?_
  | with_reducible refine' s_neB ?_
  | with_reducible refine' s_truB ?_
  | with_reducible refine' s_truI ?_
  | with_reducible refine' s_neg ?_
  | ((with_reducible refine' s_mod ?h ?_); (case h => walk_at "ar")))
local macro_rules | `(tactic| walk_at "go") => `(tactic| repeat walk_at "st")

local macro_rules | `(tactic| walk_at "mg") => `(tactic| first | assumption | exact Facts.z_TypeError (by assumption) | exact Facts.z_ValueError (by assumption) | exact Facts.z_abs (by assumption) | exact Facts.z_all (by assumption) | exact Facts.z_bool (by assumption) | exact Facts.z_classmethod (by assumption) | exact Facts.z_enumerate (by assumption) | exact Facts.z_int (by assumption) | exact Facts.z_isinstance (by assumption) | exact Facts.z_len (by assumption) | exact Facts.z_list (by assumption) | exact Facts.z_max (by assumption) | exact Facts.z_min (by assumption) | exact Facts.z_property (by assumption) | exact Facts.z_range (by assumption) | exact Facts.z_sorted (by assumption) | exact Facts.z_str (by assumption) | exact Facts.z_sum (by assumption) | exact Facts.z_super (by assumption) | exact Facts.z_tuple (by assumption) | exact Facts.z_zip (by assumption) | exact Facts.g__wall (by assumption) | exact Facts.g_is_between (by assumption) | exact Facts.g_check_seat (by assumption) | exact Facts.g_seats_of (by assumption) | exact Facts.g_check_payment (by assumption) | exact Facts.g_balance_after (by assumption) | exact Facts.g_check_balance (by assumption) | exact Facts.g_sums_of_sets (by assumption) | exact Facts.g_number_of_groups (by assumption) | exact Facts.g_parted (by assumption) | exact Facts.g_payments_within (by assumption) | exact Facts.g_payments (by assumption) | exact Facts.g_fewest_payments (by assumption) | exact Facts.g_check_amount (by assumption) | exact Facts.g_check_seats (by assumption) | exact Facts.g_check_seat_count (by assumption) | exact Facts.g_check_mark (by assumption) | exact Facts.g_no_shares (by assumption) | exact Facts.g__law_random (by assumption) | exact Facts.g__law_below (by assumption) | exact Facts.g__law_shuffled (by assumption) | exact Facts.g__law_balance (by assumption) | exact Facts.g__law_shares (by assumption) | exact Facts.g__law_equal (by assumption) | exact Facts.g__law_error_of (by assumption) | exact Facts.g__law_all_raise (by assumption) | exact Facts.g_law (by assumption) | exact Facts.g_Shares (by assumption) | exact Facts.g_Bill (by assumption) | exact Facts.g_Page (by assumption) | exact Facts.g_Ledger (by assumption) | exact Facts.eg_InvalidBill (by assumption) | exact Facts.eg_InvalidEvening (by assumption) | exact Facts.eg_InvalidOperation (by assumption) | exact Facts.eg_InvalidMark (by assumption) | exact Facts.eg_UnknownSeat (by assumption) | exact Facts.eg_InvalidNumber (by assumption) | exact Facts.eg_NotBalanced (by assumption) | exact Facts.eg_EmptyGroup (by assumption) | exact Facts.eg_InvalidText (by assumption) | exact Facts.eg_InvalidReceipt (by assumption) | exact Facts.eg_DecodeError (by assumption))
local macro_rules | `(tactic| walk_at "kp") => `(tactic| first | assumption | exact (Facts.mk_Shares (by assumption)).kp | exact (Facts.mk_Bill (by assumption)).kp | exact (Facts.mk_Page (by assumption)).kp | exact (Facts.mk_Ledger (by assumption)).kp | exact Fun.kp (Facts.u__wall (by assumption)).choose_spec | exact Fun.kp (Facts.u_is_between (by assumption)).choose_spec | exact Fun.kp (Facts.u_check_seat (by assumption)).choose_spec | exact Fun.kp (Facts.u_seats_of (by assumption)).choose_spec | exact Fun.kp (Facts.u_check_payment (by assumption)).choose_spec | exact Fun.kp (Facts.u_balance_after (by assumption)).choose_spec | exact Fun.kp (Facts.u_check_balance (by assumption)).choose_spec | exact Fun.kp (Facts.u_sums_of_sets (by assumption)).choose_spec | exact Fun.kp (Facts.u_number_of_groups (by assumption)).choose_spec | exact Fun.kp (Facts.u_parted (by assumption)).choose_spec | exact Fun.kp (Facts.u_payments_within (by assumption)).choose_spec | exact Fun.kp (Facts.u_payments (by assumption)).choose_spec | exact Fun.kp (Facts.u_fewest_payments (by assumption)).choose_spec | exact Fun.kp (Facts.u_check_amount (by assumption)).choose_spec | exact Fun.kp (Facts.u_check_seats (by assumption)).choose_spec | exact Fun.kp (Facts.u_check_seat_count (by assumption)).choose_spec | exact Fun.kp (Facts.u_check_mark (by assumption)).choose_spec | exact Fun.kp (Facts.u_no_shares (by assumption)).choose_spec | exact Fun.kp (Facts.u__law_random (by assumption)).choose_spec | exact Fun.kp (Facts.u__law_below (by assumption)).choose_spec | exact Fun.kp (Facts.u__law_shuffled (by assumption)).choose_spec | exact Fun.kp (Facts.u__law_balance (by assumption)).choose_spec | exact Fun.kp (Facts.u__law_shares (by assumption)).choose_spec | exact Fun.kp (Facts.u__law_equal (by assumption)).choose_spec | exact Fun.kp (Facts.u__law_error_of (by assumption)).choose_spec | exact Fun.kp (Facts.u__law_all_raise (by assumption)).choose_spec | exact Fun.kp (Facts.u_law (by assumption)).choose_spec)
/-! ### the errors that calls raise -/
section
variable {P : Program} {w : World} {K : PySem.W.Frag} {mg : Str → Option Value} {base : Heap} {a : Ad}
def errN : List Str := ["bill", "evening", "operation", "mark", "seat", "number", "balance", "group", "text", "receipt", "decode"]
abbrev bsJ (j : Nat) : List Bool := [decide (0 = j), decide (1 = j), decide (2 = j), decide (3 = j), decide (4 = j), decide (5 = j), decide (6 = j), decide (7 = j), decide (8 = j), decide (9 = j), decide (10 = j)]
theorem bsJ_count : ∀ j, j < 11 → (bsJ j).count true = 1 := by decide
theorem bsJ_at : ∀ j, j < 11 → (bsJ j)[j]? = some true := by decide
theorem bsJ_no : ∀ j, j < 11 → ∀ m, m < j → (bsJ j)[m]? = some false := by decide
theorem errN_at : ∀ j, j < 11 → (errN.map V.str)[j]? = some (.str (errN.getD j Str.empty)) := fun j h => by
  rw [List.getElem?_map, List.getD_eq_getElem?_getD, List.getElem?_eq_getElem (show j < errN.length from h)]
  rfl
theorem errN_sh (j : Nat) (h3 : 3 ≤ j) (h7 : j < 8) : SeqAt.shaped (.str (errN.getD j Str.empty)) = true := by
  obtain rfl | rfl | rfl | rfl | rfl : j = 3 ∨ j = 4 ∨ j = 5 ∨ j = 6 ∨ j = 7 := by omega
  all_goals decide +kernel
theorem errN_sh2 (j : Nat) (h3 : 3 ≤ j) (h7 : j < 8) : SeqAt.shaped (.tuple [.str (errN.getD j Str.empty), .int 0]) = true := by
  obtain rfl | rfl | rfl | rfl | rfl : j = 3 ∨ j = 4 ∨ j = 5 ∨ j = 6 ∨ j = 7 := by omega
  all_goals decide +kernel
theorem u65 {u : Nat} (h : u + 16 * 10 + 200 < cLine) : u + 65 < cLine := by omega
theorem errN_in (j : Nat) (h3 : 3 ≤ j) (h7 : j < 8) : ([PyData.str "bill", PyData.str "evening", PyData.str "operation"].any fun z => PyData.eqv z (.str (errN.getD j Str.empty))) = false := by
  obtain rfl | rfl | rfl | rfl | rfl : j = 3 ∨ j = 4 ∨ j = 5 ∨ j = 6 ∨ j = 7 := by omega
  all_goals decide +kernel
theorem errN_ne (j : Nat) (h3 : 3 ≤ j) (h7 : j < 8) : errN.getD j Str.empty ≠ "text" ∧ errN.getD j Str.empty ≠ "receipt" ∧ errN.getD j Str.empty ≠ "decode" := by
  obtain rfl | rfl | rfl | rfl | rfl : j = 3 ∨ j = 4 ∨ j = 5 ∨ j = 6 ∨ j = 7 := by omega
  all_goals decide +kernel
theorem r_indexB {bs : List Bool} {j : Nat} {l : Addr} {H : Hp} {Q : VK} (h : SqL K H l (bs.map V.bl)) (h1 : bs[j]? = some true) (h2 : ∀ m, m < j → bs[m]? = some false) (q : Q (.int (j : Nat)) H) : rIndex K (.ref l) [.bl true] H Q :=
  ⟨l, bs.map V.bl, .bl true, j, .bl true, rfl, rfl, h, rfl, List.all_eq_true.2 fun z hz => by obtain ⟨b, _, rfl⟩ := List.mem_map.1 hz; rfl, by rw [List.getElem?_map, h1]; rfl, rfl, fun m z' hm hz => by
    rw [List.getElem?_map, h2 m hm] at hz
    cases hz
    rfl, q⟩
/-- a call's error of one of the plain kinds -/
def spErr (P : Program) (w : World) (K : PySem.W.Frag) (mg : Str → Option Value) (base : Heap) (a : Ad) : Sp := fun vs H Q _ => ∃ (f : Addr) (F : NF) (bd : Expr) (dV : Value) (Ef : XK), vs = [.ref f] ∧ H f = some (LamO f F bd dV) ∧ (∀ R : VK, CallAt P w K mg base 10 f H R Ef) ∧
  ∀ cls d H', Ef cls d H' → ∃ (C : Addr) (j : Nat), cls = .ref C ∧ d = none ∧ ErrK K a C j ∧ 3 ≤ j ∧ j ≤ 7 ∧ ∀ T H'', Same H' H'' → H'' T = some (.tup [.str (errN.getD j Str.empty), .int 0]) → Q (.ref T) H''
local macro_rules | `(tactic| walk_at "ki") => `(tactic| first | exact ErrK.ve (by assumption) | exact ErrK.k0 (by assumption) | exact ErrK.k1 (by assumption) | exact ErrK.k2 (by assumption) | exact ErrK.k3 (by assumption) | exact ErrK.k4 (by assumption) | exact ErrK.k5 (by assumption) | exact ErrK.k6 (by assumption) | exact ErrK.k7 (by assumption) | exact ErrK.k8 (by assumption) | exact ErrK.k9 (by assumption) | exact ErrK.k10 (by assumption))
local macro_rules | `(tactic| walk_at "ie") => `(tactic| ((refine w_isE ⟨Facts.z_isinstance (by assumption), _, rfl, rfl, ErrK.ec (by assumption), ?_⟩); walk_at "go"; (refine' ⟨_, _, _, rfl, fun _ r => r, ?h, ?_⟩); (case h => walk_at "ki"); walk_at "go"))
set_option maxHeartbeats 20000000 in
theorem ok_error_of (T : Facts K mg a) : FnR P w K mg base (L2.CX P w) 11 a.f__law_error_of (spErr P w K mg base a) := by
  obtain ⟨fd, F⟩ := T.u__law_error_of
  refine fnr_ok F sc__law_error_of (F.binds fun _ _ _ _ _ _ us hl => match us, hl with | [_], _ => rfl) (fun vs H Q E h => ?_) (fun cdv A outer s H vs Q E hr h => ?_)
  · obtain ⟨f, F', bd, dV, Ef, rfl, _⟩ := h
    rfl
  · obtain ⟨f, F', bd, dV, Ef, rfl, hf, hc, hE⟩ := h
    refine ⟨_, (pss_cons (ps_try_as (i := 1) rfl rfl sc__law_error_of.nd rfl rfl ⟨by rfl, by decide, .inl T.x_CentError.mg⟩ L2.takes0 (fun W pn xe tk _ => pss_one (ps_expr (pe_actT (i := 0) (k := 10) ⟨rfl, rfl, rfl, rfl, rfl, rfl, rfl⟩ tk rfl (Or.inl rfl)))) (fun b oe cls d pn hz hf => (pss_cons (ps_set (i := 2) sc__law_error_of.nd rfl (Or.inl rfl) (pe_lst (pa_cons (pe_isE likeS hz hf ⟨_, _, rfl⟩ (by rfl) (by decide +kernel) (pa_cons (pv 1) (pa_cons (pe_gvA likeS (by rfl)) pa_nil))) (pa_cons (pe_isE likeS hz hf ⟨_, _, rfl⟩ (by rfl) (by decide +kernel) (pa_cons (pv 1) (pa_cons (pe_gvA likeS (by rfl)) pa_nil))) (pa_cons (pe_isE likeS hz hf ⟨_, _, rfl⟩ (by rfl) (by decide +kernel) (pa_cons (pv 1) (pa_cons (pe_gvA likeS (by rfl)) pa_nil))) pa_nil)))))
    (pss_cons (ps_set (i := 2) sc__law_error_of.nd rfl (Or.inl rfl) (pe_opA likeS pas0 (pv 2) (pe_lst (pa_cons (pe_isE likeS hz hf ⟨_, _, rfl⟩ (by rfl) (by decide +kernel) (pa_cons (pv 1) (pa_cons (pe_gvA likeS (by rfl)) pa_nil))) (pa_cons (pe_isE likeS hz hf ⟨_, _, rfl⟩ (by rfl) (by decide +kernel) (pa_cons (pv 1) (pa_cons (pe_gvA likeS (by rfl)) pa_nil))) (pa_cons (pe_isE likeS hz hf ⟨_, _, rfl⟩ (by rfl) (by decide +kernel) (pa_cons (pv 1) (pa_cons (pe_gvA likeS (by rfl)) pa_nil))) pa_nil))))))
    (pss_cons (ps_set (i := 2) sc__law_error_of.nd rfl (Or.inl rfl) (pe_opA likeS pas0 (pv 2) (pe_lst (pa_cons (pe_isE likeS hz hf ⟨_, _, rfl⟩ (by rfl) (by decide +kernel) (pa_cons (pv 1) (pa_cons (pe_gvA likeS (by rfl)) pa_nil))) (pa_cons (pe_isE likeS hz hf ⟨_, _, rfl⟩ (by rfl) (by decide +kernel) (pa_cons (pv 1) (pa_cons (pe_gvA likeS (by rfl)) pa_nil))) (pa_cons (pe_isE likeS hz hf ⟨_, _, rfl⟩ (by rfl) (by decide +kernel) (pa_cons (pv 1) (pa_cons (pe_gvA likeS (by rfl)) pa_nil))) pa_nil))))))
    (pss_cons (ps_set (i := 2) sc__law_error_of.nd rfl (Or.inl rfl) (pe_opA likeS pas0 (pv 2) (pe_lst (pa_cons (pe_isE likeS hz hf ⟨_, _, rfl⟩ (by rfl) (by decide +kernel) (pa_cons (pv 1) (pa_cons (pe_gvA likeS (by rfl)) pa_nil))) (pa_cons (pe_isE likeS hz hf ⟨_, _, rfl⟩ (by rfl) (by decide +kernel) (pa_cons (pv 1) (pa_cons (pe_gvA likeS (by rfl)) pa_nil))) pa_nil)))))
    (pss_cons (ps_if (PW.pt (pw_or (pt_cmpA likeS pas0 (pe_bmL likeS PySem.F.plainAttrs_list PySem.F.slot_list_count PySem.F.type_list_count mtL_count (pv 2) (pa_cons (pe_bl) pa_nil)) (pe_int) (nomark _)) (pw_or1 (pt_not (pt_trA likeS pas0 (pe_isE likeS hz hf ⟨_, _, rfl⟩ (by rfl) (by decide +kernel) (pa_cons (pv 1) (pa_cons (pe_bvA (v := .ty "ValueError") likeS (by rfl) (by decide +kernel) rfl) pa_nil)))))))) (pss_one (ps_ret (pe_tup (pa_cons (pe_str) (pa_cons (pe_int) pa_nil))))) pss_nil)
    (pss_cons (ps_set (i := 3) sc__law_error_of.nd rfl (Or.inl rfl) (pe_lst (pa_cons (pe_str) (pa_cons (pe_str) (pa_cons (pe_str) (pa_cons (pe_str) (pa_cons (pe_str) (pa_cons (pe_str) (pa_cons (pe_str) (pa_cons (pe_str) (pa_cons (pe_str) (pa_cons (pe_str) pa_nil))))))))))))
    (pss_cons (ps_set (i := 4) sc__law_error_of.nd rfl (Or.inl rfl) (pe_ixA likeS pas0 (pe_opA likeS pas0 (pv 3) (pe_lst (pa_cons (pe_str) pa_nil))) (pe_bmL likeS PySem.F.plainAttrs_list PySem.F.slot_list_index PySem.F.type_list_index mtL_index (pv 2) (pa_cons (pe_bl) pa_nil))))
    (pss_cons (ps_if (pt_cmpA likeS pas0 (pv 4) (pe_lst (pa_cons (pe_str) (pa_cons (pe_str) (pa_cons (pe_str) pa_nil)))) (by with_unfolding_all rfl)) (pss_one (ps_ret (pe_tup (pa_cons (pv 4) (pa_cons (pe_never) pa_nil))))) pss_nil)
    (pss_cons (ps_if (pt_cmpA likeS pas0 (pv 4) (pe_str) (nomark _)) (pss_one (ps_ret (pe_tup (pa_cons (pv 4) (pa_cons (pe_tup (pa_cons (pe_never) (pa_cons (pe_never) pa_nil))) pa_nil))))) pss_nil)
    (pss_one (ps_ret (pe_tup (pa_cons (pv 4) (pa_cons (pe_ifExp (pt_cmpA likeS pas0 (pv 4) (pe_str) (nomark _)) (pe_never) (pe_ifExp (pt_cmpA likeS pas0 (pv 4) (pe_str) (nomark _)) (pe_never) (pe_int))) pa_nil))))))))))))))))
    (pss_one (ps_ret (pe_non)))), ?_⟩
    walk_at "go"
    refine w_actT ⟨f, F', bd, dV, Ef, rfl, hf, hc _, fun cls d H1 e => ?_, hr⟩
    obtain ⟨C, j, rfl, rfl, ek, h3, h7, q⟩ := hE cls d H1 e
    refine ⟨true, ek.ce, fun _ b hb => ?_, fun z => nomatch z⟩
    walk_at "go"
    walk_at "ie"
    walk_at "ie"
    walk_at "ie"
    refine ⟨by show 3 ≤ sizeLine; decide, fun p1 hp1 => ?_⟩
    have s1 := same_new (o := .lst [V.bl (decide (0 = j)), V.bl (decide (1 = j)), V.bl (decide (2 = j))]) hp1
    have hL1 : (upd H1 p1 (.lst [V.bl (decide (0 = j)), V.bl (decide (1 = j)), V.bl (decide (2 = j))])) p1 = some (.lst [V.bl (decide (0 = j)), V.bl (decide (1 = j)), V.bl (decide (2 = j))]) := upd_same
    generalize upd H1 p1 (.lst [V.bl (decide (0 = j)), V.bl (decide (1 = j)), V.bl (decide (2 = j))]) = G1 at *
    walk_at "go"
    dsimp only [List.set]
    walk_at "go"
    walk_at "ie"
    walk_at "ie"
    walk_at "ie"
    refine ⟨by show 3 ≤ sizeLine; decide, fun q1 hq1 => ?_⟩
    have a1 := same_new (o := .lst [V.bl (decide (3 = j)), V.bl (decide (4 = j)), V.bl (decide (5 = j))]) hq1
    have b1 : (upd G1 q1 (.lst [V.bl (decide (3 = j)), V.bl (decide (4 = j)), V.bl (decide (5 = j))])) q1 = some (.lst [V.bl (decide (3 = j)), V.bl (decide (4 = j)), V.bl (decide (5 = j))]) := upd_same
    have c1 := a1 _ _ hL1
    generalize upd G1 q1 (.lst [V.bl (decide (3 = j)), V.bl (decide (4 = j)), V.bl (decide (5 = j))]) = B1 at *
    walk_at "go"
    refine s_cat c1 b1 (by show 6 ≤ sizeLine; decide) fun p2 hp2 => ?_
    have t2 := same_new (o := .lst [V.bl (decide (0 = j)), V.bl (decide (1 = j)), V.bl (decide (2 = j)), V.bl (decide (3 = j)), V.bl (decide (4 = j)), V.bl (decide (5 = j))]) hp2
    have hL2 : (upd B1 p2 (.lst [V.bl (decide (0 = j)), V.bl (decide (1 = j)), V.bl (decide (2 = j)), V.bl (decide (3 = j)), V.bl (decide (4 = j)), V.bl (decide (5 = j))])) p2 = some (.lst [V.bl (decide (0 = j)), V.bl (decide (1 = j)), V.bl (decide (2 = j)), V.bl (decide (3 = j)), V.bl (decide (4 = j)), V.bl (decide (5 = j))]) := upd_same
    have s2 := (s1.trans a1).trans t2
    dsimp only [List.cons_append, List.nil_append]
    generalize upd B1 p2 (.lst [V.bl (decide (0 = j)), V.bl (decide (1 = j)), V.bl (decide (2 = j)), V.bl (decide (3 = j)), V.bl (decide (4 = j)), V.bl (decide (5 = j))]) = G2 at *
    walk_at "go"
    dsimp only [List.set]
    walk_at "go"
    walk_at "ie"
    walk_at "ie"
    walk_at "ie"
    refine ⟨by show 3 ≤ sizeLine; decide, fun q2 hq2 => ?_⟩
    have a2 := same_new (o := .lst [V.bl (decide (6 = j)), V.bl (decide (7 = j)), V.bl (decide (8 = j))]) hq2
    have b2 : (upd G2 q2 (.lst [V.bl (decide (6 = j)), V.bl (decide (7 = j)), V.bl (decide (8 = j))])) q2 = some (.lst [V.bl (decide (6 = j)), V.bl (decide (7 = j)), V.bl (decide (8 = j))]) := upd_same
    have c2 := a2 _ _ hL2
    generalize upd G2 q2 (.lst [V.bl (decide (6 = j)), V.bl (decide (7 = j)), V.bl (decide (8 = j))]) = B2 at *
    walk_at "go"
    refine s_cat c2 b2 (by show 9 ≤ sizeLine; decide) fun p3 hp3 => ?_
    have t3 := same_new (o := .lst [V.bl (decide (0 = j)), V.bl (decide (1 = j)), V.bl (decide (2 = j)), V.bl (decide (3 = j)), V.bl (decide (4 = j)), V.bl (decide (5 = j)), V.bl (decide (6 = j)), V.bl (decide (7 = j)), V.bl (decide (8 = j))]) hp3
    have hL3 : (upd B2 p3 (.lst [V.bl (decide (0 = j)), V.bl (decide (1 = j)), V.bl (decide (2 = j)), V.bl (decide (3 = j)), V.bl (decide (4 = j)), V.bl (decide (5 = j)), V.bl (decide (6 = j)), V.bl (decide (7 = j)), V.bl (decide (8 = j))])) p3 = some (.lst [V.bl (decide (0 = j)), V.bl (decide (1 = j)), V.bl (decide (2 = j)), V.bl (decide (3 = j)), V.bl (decide (4 = j)), V.bl (decide (5 = j)), V.bl (decide (6 = j)), V.bl (decide (7 = j)), V.bl (decide (8 = j))]) := upd_same
    have s3 := (s2.trans a2).trans t3
    dsimp only [List.cons_append, List.nil_append]
    generalize upd B2 p3 (.lst [V.bl (decide (0 = j)), V.bl (decide (1 = j)), V.bl (decide (2 = j)), V.bl (decide (3 = j)), V.bl (decide (4 = j)), V.bl (decide (5 = j)), V.bl (decide (6 = j)), V.bl (decide (7 = j)), V.bl (decide (8 = j))]) = G3 at *
    walk_at "go"
    dsimp only [List.set]
    walk_at "go"
    walk_at "ie"
    walk_at "ie"
    refine ⟨by show 2 ≤ sizeLine; decide, fun q3 hq3 => ?_⟩
    have a3 := same_new (o := .lst [V.bl (decide (9 = j)), V.bl (decide (10 = j))]) hq3
    have b3 : (upd G3 q3 (.lst [V.bl (decide (9 = j)), V.bl (decide (10 = j))])) q3 = some (.lst [V.bl (decide (9 = j)), V.bl (decide (10 = j))]) := upd_same
    have c3 := a3 _ _ hL3
    generalize upd G3 q3 (.lst [V.bl (decide (9 = j)), V.bl (decide (10 = j))]) = B3 at *
    walk_at "go"
    refine s_cat c3 b3 (by show 11 ≤ sizeLine; decide) fun p4 hp4 => ?_
    have t4 := same_new (o := .lst [V.bl (decide (0 = j)), V.bl (decide (1 = j)), V.bl (decide (2 = j)), V.bl (decide (3 = j)), V.bl (decide (4 = j)), V.bl (decide (5 = j)), V.bl (decide (6 = j)), V.bl (decide (7 = j)), V.bl (decide (8 = j)), V.bl (decide (9 = j)), V.bl (decide (10 = j))]) hp4
    have hL4 : (upd B3 p4 (.lst [V.bl (decide (0 = j)), V.bl (decide (1 = j)), V.bl (decide (2 = j)), V.bl (decide (3 = j)), V.bl (decide (4 = j)), V.bl (decide (5 = j)), V.bl (decide (6 = j)), V.bl (decide (7 = j)), V.bl (decide (8 = j)), V.bl (decide (9 = j)), V.bl (decide (10 = j))])) p4 = some (.lst [V.bl (decide (0 = j)), V.bl (decide (1 = j)), V.bl (decide (2 = j)), V.bl (decide (3 = j)), V.bl (decide (4 = j)), V.bl (decide (5 = j)), V.bl (decide (6 = j)), V.bl (decide (7 = j)), V.bl (decide (8 = j)), V.bl (decide (9 = j)), V.bl (decide (10 = j))]) := upd_same
    have s4 := (s3.trans a3).trans t4
    dsimp only [List.cons_append, List.nil_append]
    generalize upd B3 p4 (.lst [V.bl (decide (0 = j)), V.bl (decide (1 = j)), V.bl (decide (2 = j)), V.bl (decide (3 = j)), V.bl (decide (4 = j)), V.bl (decide (5 = j)), V.bl (decide (6 = j)), V.bl (decide (7 = j)), V.bl (decide (8 = j)), V.bl (decide (9 = j)), V.bl (decide (10 = j))]) = G4 at *
    walk_at "go"
    dsimp only [List.set]
    walk_at "go"
    refine w_bm ?_
    walk_at "go"
    refine ⟨.inl ⟨rfl, _, SqL.of hL4⟩, ?_⟩
    walk_at "go"
    refine ⟨p4, bsJ j, true, rfl, rfl, SqL.of hL4, ?_⟩
    rw [bsJ_count j (by omega)]
    walk_at "go"
    refine ite_n (fun z => absurd rfl z) (fun _ => ?_)
    walk_at "go"
    walk_at "ie"
    refine ⟨by show 10 ≤ sizeLine; decide, fun n1 hn1 => ?_⟩
    have u1 := same_new (o := .lst [.str "bill", .str "evening", .str "operation", .str "mark", .str "seat", .str "number", .str "balance", .str "group", .str "text", .str "receipt"]) hn1
    have m1 : (upd G4 n1 (.lst [.str "bill", .str "evening", .str "operation", .str "mark", .str "seat", .str "number", .str "balance", .str "group", .str "text", .str "receipt"])) n1 = some (.lst [.str "bill", .str "evening", .str "operation", .str "mark", .str "seat", .str "number", .str "balance", .str "group", .str "text", .str "receipt"]) := upd_same
    have hL5 := u1 _ _ hL4
    generalize upd G4 n1 (.lst [.str "bill", .str "evening", .str "operation", .str "mark", .str "seat", .str "number", .str "balance", .str "group", .str "text", .str "receipt"]) = G5 at *
    walk_at "go"
    dsimp only [List.set]
    walk_at "go"
    refine ⟨by show 1 ≤ sizeLine; decide, fun n2 hn2 => ?_⟩
    have u2 := same_new (o := .lst [.str "decode"]) hn2
    have m2 : (upd G5 n2 (.lst [.str "decode"])) n2 = some (.lst [.str "decode"]) := upd_same
    have m1' := u2 _ _ m1
    have hL6 := u2 _ _ hL5
    generalize upd G5 n2 (.lst [.str "decode"]) = G6 at *
    walk_at "go"
    refine s_cat m1' m2 (by show 11 ≤ sizeLine; decide) fun n3 hn3 => ?_
    have u3 := same_new (o := .lst [.str "bill", .str "evening", .str "operation", .str "mark", .str "seat", .str "number", .str "balance", .str "group", .str "text", .str "receipt", .str "decode"]) hn3
    have m3 : (upd G6 n3 (.lst [.str "bill", .str "evening", .str "operation", .str "mark", .str "seat", .str "number", .str "balance", .str "group", .str "text", .str "receipt", .str "decode"])) n3 = some (.lst [.str "bill", .str "evening", .str "operation", .str "mark", .str "seat", .str "number", .str "balance", .str "group", .str "text", .str "receipt", .str "decode"]) := upd_same
    have hL7 := u3 _ _ hL6
    dsimp only [List.cons_append, List.nil_append]
    generalize upd G6 n3 (.lst [.str "bill", .str "evening", .str "operation", .str "mark", .str "seat", .str "number", .str "balance", .str "group", .str "text", .str "receipt", .str "decode"]) = G7 at *
    walk_at "go"
    refine w_bm ?_
    walk_at "go"
    refine ⟨.inl ⟨rfl, _, SqL.of hL7⟩, ?_⟩
    walk_at "go"
    refine r_indexB (bs := bsJ j) (SqL.of hL7) (bsJ_at j (by omega)) (bsJ_no j (by omega)) ?_
    walk_at "go"
    refine s_ixL (SqL.of m3) (v := .str (errN.getD j Str.empty)) (at_of (j := j) rfl (errN_at j (by omega))) ?_
    walk_at "go"
    dsimp only [List.set]
    walk_at "go"
    refine ⟨by show 3 ≤ sizeLine; decide, fun n4 hn4 => ?_⟩
    have u4 := same_new (o := .lst [.str "bill", .str "evening", .str "operation"]) hn4
    have m4 : (upd G7 n4 (.lst [.str "bill", .str "evening", .str "operation"])) n4 = some (.lst [.str "bill", .str "evening", .str "operation"]) := upd_same
    have sAll := (((s4.trans u1).trans u2).trans u3).trans u4
    generalize upd G7 n4 (.lst [.str "bill", .str "evening", .str "operation"]) = G8 at *
    walk_at "go"
    refine s_inD (d := .str (errN.getD j Str.empty)) (ds := [.str "bill", .str "evening", .str "operation"]) (u65 hr.un) (.str _) (.lst (SqL.of m4) (.cons (.str _) (.cons (.str _) (.cons (.str _) .nil)))) (errN_sh j h3 (by omega)) (by decide +kernel) ?_
    rw [errN_in j h3 (by omega)]
    walk_at "go"
    obtain ⟨x1, x2, x3⟩ := errN_ne j h3 (by omega)
    refine s_eqS ?_
    rw [decide_eq_false x1]
    walk_at "go"
    refine s_eqS ?_
    rw [decide_eq_false x2]
    walk_at "go"
    refine s_eqS ?_
    rw [decide_eq_false x3]
    walk_at "go"
    refine ⟨by show 2 ≤ sizeLine; decide, fun p9 hp9 => ?_⟩
    exact q p9 _ (sAll.trans (same_new hp9)) upd_same
end
/-! ### all calls raise -/
section
variable {P : Program} {w : World} {K : PySem.W.Frag} {mg : Str → Option Value} {base : Heap} {a : Ad}
/-- f raises an error of the class C, at every later heap -/
def RaisesAt (P : Program) (w : World) (K : PySem.W.Frag) (mg : Str → Option Value) (base : Heap) (C : Addr) (H : Hp) (f : Addr) : Prop :=
  ∀ H', Same H H' → ∃ (F : NF) (bd : Expr) (dV : Value), H' f = some (LamO f F bd dV) ∧ ∀ R : VK, CallAt P w K mg base 10 f H' R (fun cls d H'' => cls = .ref C ∧ d = none ∧ Same H' H'')
def spAllRaise (P : Program) (w : World) (K : PySem.W.Frag) (mg : Str → Option Value) (base : Heap) (a : Ad) : Sp := fun vs H Q _ => ∃ (l e : Addr) (fs : List Addr) (C : Addr) (j : Nat), vs = [.ref l, .ref e] ∧ H l = some (.lst (fs.map V.ref)) ∧ fs.length ≤ 1000 ∧ H e = some (.tup [.str (errN.getD j Str.empty), .int 0]) ∧
  3 ≤ j ∧ j ≤ 7 ∧ ErrK K a C j ∧ (∀ f ∈ fs, RaisesAt P w K mg base C H f) ∧ ∀ H', Same H H' → Q (.bl true) H'
theorem ok_all_raise (T : Facts K mg a) : FnR P w K mg base (L2.CX P w) 12 a.f__law_all_raise (spAllRaise P w K mg base a) := by
  obtain ⟨fd, F⟩ := T.u__law_all_raise
  have GE : FnR P w K mg base (L2.CX P w) 11 a.f__law_error_of (spErr P w K mg base a) := ok_error_of T
  refine fnr_ok F sc__law_all_raise (F.binds fun _ _ _ _ _ _ us hl => match us, hl with | [_, _], _ => rfl) (fun vs H Q E h => ?_) (fun cdv A outer s H vs Q E hr h => ?_)
  · obtain ⟨l, e, fs, C, j, rfl, _⟩ := h
    rfl
  · obtain ⟨l, e, fs, C, j, rfl, hl, hfs, he, h3, h7, ek, hf, q⟩ := h
    have hr' := hr.units
    refine ⟨_, (pss_one (ps_ret (pe_cmpA Like.refl pas_main (pe_lc (own := [("_law_call", 2)]) (g := gName 2) (tt := _) rfl sc__law_all_raise.nd (pi_seqA Like.refl (pv 0)) (blkOk_by (own := [("_law_call", 2)]) (N := N__law_all_raise) (sc := defScope s__law_all_raise) (by decide +kernel)) (fun _ _ _ _ _ => (pg_name (i := 2) sc__law_all_raise.nd rfl (by first | exact Or.inl rfl | exact Or.inr rfl))) (fun _ _ _ _ _ => pts_one (pt_cmpA ⟨rfl, rfl, rfl, rfl, rfl, rfl, rfl⟩ passL (pe_glA ⟨rfl, rfl, rfl, rfl, rfl, rfl, rfl⟩ passL (by rfl) (pa_cons (pv 2) pa_nil)) (pv 1) (nomark _))) (fun _ _ _ _ _ => (pv 2))) (pe_lst pa_nil) (nomark _)))), ?_⟩
    walk_at "go"
    refine c_list (a := l) (xs := fs.map V.ref) (fun _ => []) rfl (fun _ _ => by show 0 < 100000; decide) (SqL.of hl) (fun _ => rfl) (fun i x H' hx s1 => ?_) (fun r H' hr0 s1 hL => ?_) (fun R k => by walk_at "go"; exact k)
    · rw [List.getElem?_map] at hx
      cases e0 : fs[i]? with
      | none => rw [e0] at hx; cases hx
      | some f =>
        rw [e0] at hx
        cases hx
        obtain ⟨F', bd, dV, hfo, hc⟩ := hf f (List.mem_of_getElem? e0) H' s1
        show Turn1 _ _ _ _ ([] : List V) (if false = true then [] ++ [V.ref f] else [])
        refine turn1_filter (fun R hR => ?_) (fun _ H3 _ R hR => ?_)
        · walk_at "go"
          refine s_fn GE hr ⟨f, F', bd, dV, _, rfl, hfo, hc, fun cls d H2 z => ⟨C, j, z.1, z.2.1, ek, h3, h7, fun T3 H3 s3 hT => ?_⟩⟩
          walk_at "go"
          have he3 := (s1.trans (z.2.2.trans s3)) _ _ he
          refine s_neD (d := .tuple [.str (errN.getD j Str.empty), .int 0]) (e := .tuple [.str (errN.getD j Str.empty), .int 0]) (by have z := hr.un; show (A.deeper _).units + 64 < cLine; omega) (.tup (SqT.of hT) (.cons (.str _) (.cons (.int _) .nil))) (.tup (SqT.of he3) (.cons (.str _) (.cons (.int _) .nil))) (errN_sh2 j h3 (by omega)) (errN_sh2 j h3 (by omega)) ?_
          rw [(eqv_iff (d := .tuple [.str (errN.getD j Str.empty), .int 0]) (e := .tuple [.str (errN.getD j Str.empty), .int 0]) (by simp [nb, nb.nbAll]) (by simp [nb, nb.nbAll])).2 rfl]
          walk_at "go"
          exact hR _ (z.2.2.trans s3)
        · exact nomatch ‹false = true›
    · walk_at "go"
      refine ⟨by show 0 ≤ sizeLine; decide, fun r2 hr2 => ?_⟩
      walk_at "go"
      have s2 := same_new (o := .lst []) hr2
      refine s_eqLsts (cs := []) (ds := []) hr' (SqL.of (s2 _ _ hL)) (SqL.of upd_same) ?_
      walk_at "go"
      exact q _ (s1.trans s2)
end

end Odd

namespace Odd
open PySem PySem.Spec PyProof.Rows L2
/-! tactics of this text: st one step, go as many as go -/
local macro_rules | `(tactic| walk_at "ar") => `(tactic| first | assumption | omega | (show (_ : Int) < _; omega) | decide)
local macro_rules | `(tactic| walk_at "st") => `(tactic| first
  | with_reducible refine' w_seq ?_
  | with_reducible refine' w_asg ?_
  | with_reducible refine' w_name ?_
  | with_reducible refine' w_c ?_
  | with_reducible refine' w_op ?_
  | with_reducible refine' w_ix ?_
  | with_reducible refine' w_at ?_
  | with_reducible refine' w_cons ?_
  | with_reducible refine' w_nil ?_
  | with_reducible refine' w_ret ?_
  | with_reducible refine' w_if ?_
  | with_reducible refine' w_test ?_
  | with_reducible refine' w_tr ?_
  | with_reducible refine' w_un ?_
  | with_reducible refine' w_andV ?_
  | with_reducible refine' w_orV ?_
  | with_reducible refine' w_notA ?_
  | with_reducible refine' w_ch ?_
  | with_reducible refine' w_and ?_
  | with_reducible refine' w_or ?_
  | with_reducible refine' w_not ?_
  | with_reducible refine' w_ifx ?_
  | with_reducible refine' w_tup ?_
  | with_reducible refine' w_lst ?_
  | with_reducible refine' w_next ?_
  | with_reducible refine' w_drop ?_
  | with_reducible refine' w_retN ?_
  | ((with_reducible refine' w_var ?h ?_); (case h => exact rfl))
  | ((with_reducible refine' w_bi ?h ?_); (case h => walk_at "mg"))
  | ((with_reducible refine' w_bv ?h ?_); (case h => walk_at "mg"))
  | ((with_reducible refine' w_gv ?h ?_); (case h => walk_at "mg"))
  | ((with_reducible refine' w_gl ?h ?k ?_); (case h => walk_at "mg"); (case k => walk_at "kp"))
  | ((with_reducible refine' w_glS ?h ?k ?_); (case h => walk_at "mg"); (case k => walk_at "kp"))
  | with_reducible refine' bl_ex ?_
  | with_reducible refine' iteT ?_
  | with_reducible refine' iteF ?_
  | with_reducible refine' ite_nf ?_
  | with_reducible refine' ite_nt ?_
  | with_reducible refine' s_add ?_
  | with_reducible refine' s_sub ?_
  | with_reducible refine' s_lt ?_
  | with_reducible refine' s_le ?_
  | with_reducible refine' s_gt ?_
  | with_reducible refine' s_ge ?_
  | with_reducible refine' s_eqI ?_
  | with_reducible refine' s_neI ?_
  | with_reducible refine' s_eqB ?_
  | with_reducible refine' s_neB ?_
  | with_reducible refine' s_truB ?_
  | with_reducible refine' s_truI ?_
  | with_reducible refine' s_neg ?_
  | ((with_reducible refine' s_mod ?h ?_); (case h => walk_at "ar")))
local macro_rules | `(tactic| walk_at "go") => `(tactic| repeat walk_at "st")

local macro_rules | `(tactic| walk_at "mg") => `(tactic| first | assumption | exact Facts.z_TypeError (by assumption) | exact Facts.z_ValueError (by assumption) | exact Facts.z_abs (by assumption) | exact Facts.z_all (by assumption) | exact Facts.z_bool (by assumption) | exact Facts.z_classmethod (by assumption) | exact Facts.z_enumerate (by assumption) | exact Facts.z_int (by assumption) | exact Facts.z_isinstance (by assumption) | exact Facts.z_len (by assumption) | exact Facts.z_list (by assumption) | exact Facts.z_max (by assumption) | exact Facts.z_min (by assumption) | exact Facts.z_property (by assumption) | exact Facts.z_range (by assumption) | exact Facts.z_sorted (by assumption) | exact Facts.z_str (by assumption) | exact Facts.z_sum (by assumption) | exact Facts.z_super (by assumption) | exact Facts.z_tuple (by assumption) | exact Facts.z_zip (by assumption) | exact Facts.g__wall (by assumption) | exact Facts.g_is_between (by assumption) | exact Facts.g_check_seat (by assumption) | exact Facts.g_seats_of (by assumption) | exact Facts.g_check_payment (by assumption) | exact Facts.g_balance_after (by assumption) | exact Facts.g_check_balance (by assumption) | exact Facts.g_sums_of_sets (by assumption) | exact Facts.g_number_of_groups (by assumption) | exact Facts.g_parted (by assumption) | exact Facts.g_payments_within (by assumption) | exact Facts.g_payments (by assumption) | exact Facts.g_fewest_payments (by assumption) | exact Facts.g_check_amount (by assumption) | exact Facts.g_check_seats (by assumption) | exact Facts.g_check_seat_count (by assumption) | exact Facts.g_check_mark (by assumption) | exact Facts.g_no_shares (by assumption) | exact Facts.g__law_random (by assumption) | exact Facts.g__law_below (by assumption) | exact Facts.g__law_shuffled (by assumption) | exact Facts.g__law_balance (by assumption) | exact Facts.g__law_shares (by assumption) | exact Facts.g__law_equal (by assumption) | exact Facts.g__law_error_of (by assumption) | exact Facts.g__law_all_raise (by assumption) | exact Facts.g_law (by assumption) | exact Facts.g_Shares (by assumption) | exact Facts.g_Bill (by assumption) | exact Facts.g_Page (by assumption) | exact Facts.g_Ledger (by assumption) | exact Facts.eg_InvalidBill (by assumption) | exact Facts.eg_InvalidEvening (by assumption) | exact Facts.eg_InvalidOperation (by assumption) | exact Facts.eg_InvalidMark (by assumption) | exact Facts.eg_UnknownSeat (by assumption) | exact Facts.eg_InvalidNumber (by assumption) | exact Facts.eg_NotBalanced (by assumption) | exact Facts.eg_EmptyGroup (by assumption) | exact Facts.eg_InvalidText (by assumption) | exact Facts.eg_InvalidReceipt (by assumption) | exact Facts.eg_DecodeError (by assumption))
local macro_rules | `(tactic| walk_at "kp") => `(tactic| first | assumption | exact (Facts.mk_Shares (by assumption)).kp | exact (Facts.mk_Bill (by assumption)).kp | exact (Facts.mk_Page (by assumption)).kp | exact (Facts.mk_Ledger (by assumption)).kp | exact Fun.kp (Facts.u__wall (by assumption)).choose_spec | exact Fun.kp (Facts.u_is_between (by assumption)).choose_spec | exact Fun.kp (Facts.u_check_seat (by assumption)).choose_spec | exact Fun.kp (Facts.u_seats_of (by assumption)).choose_spec | exact Fun.kp (Facts.u_check_payment (by assumption)).choose_spec | exact Fun.kp (Facts.u_balance_after (by assumption)).choose_spec | exact Fun.kp (Facts.u_check_balance (by assumption)).choose_spec | exact Fun.kp (Facts.u_sums_of_sets (by assumption)).choose_spec | exact Fun.kp (Facts.u_number_of_groups (by assumption)).choose_spec | exact Fun.kp (Facts.u_parted (by assumption)).choose_spec | exact Fun.kp (Facts.u_payments_within (by assumption)).choose_spec | exact Fun.kp (Facts.u_payments (by assumption)).choose_spec | exact Fun.kp (Facts.u_fewest_payments (by assumption)).choose_spec | exact Fun.kp (Facts.u_check_amount (by assumption)).choose_spec | exact Fun.kp (Facts.u_check_seats (by assumption)).choose_spec | exact Fun.kp (Facts.u_check_seat_count (by assumption)).choose_spec | exact Fun.kp (Facts.u_check_mark (by assumption)).choose_spec | exact Fun.kp (Facts.u_no_shares (by assumption)).choose_spec | exact Fun.kp (Facts.u__law_random (by assumption)).choose_spec | exact Fun.kp (Facts.u__law_below (by assumption)).choose_spec | exact Fun.kp (Facts.u__law_shuffled (by assumption)).choose_spec | exact Fun.kp (Facts.u__law_balance (by assumption)).choose_spec | exact Fun.kp (Facts.u__law_shares (by assumption)).choose_spec | exact Fun.kp (Facts.u__law_equal (by assumption)).choose_spec | exact Fun.kp (Facts.u__law_error_of (by assumption)).choose_spec | exact Fun.kp (Facts.u__law_all_raise (by assumption)).choose_spec | exact Fun.kp (Facts.u_law (by assumption)).choose_spec)
/-! ### payments that are not possible -/
section
variable {P : Program} {w : World} {K : PySem.W.Frag} {mg : Str → Option Value} {base : Heap} {a : Ad}
theorem s_btwF {X0 : Cx} {E : XK} {H : Hp} {Q : VK} {i lo hi : Int} (GB : Fn X0 1 a.f_is_between spBetween) (hr : Room 1 X0.A) (h : ¬ (lo ≤ i ∧ i ≤ hi)) (q : Q (.bl false) H) : ∃ r, CaD X0 E (.ref a.f_is_between) r ∧ r [.int i, .int lo, .int hi] H Q :=
  s_fn GB hr ⟨i, lo, hi, rfl, by
    have e : (decide (lo ≤ i) && decide (i ≤ hi)) = false := by
      rw [Bool.and_eq_false_iff, decide_eq_false_iff_not, decide_eq_false_iff_not]
      omega
    rw [e]; exact q⟩
/-- what is wrong with a payment: true: a seat, false: a number -/
def payErr (n : Nat) (i j c : Int) : Option Bool :=
  if ¬ (0 ≤ i ∧ i < (n : Int)) then some true else if ¬ (0 ≤ j ∧ j < (n : Int)) then some true else if i = j then some false else if ¬ (1 ≤ c ∧ c ≤ 10 ^ 15) then some false else none
def errA (a : Ad) (b : Bool) : Addr := if b = true then a.c_UnknownSeat else a.c_InvalidNumber
def spCkSeatX (a : Ad) : Sp := fun vs H _ E => ∃ (i : Int) (n : Nat), vs = [.int i, .int n] ∧ ¬ (0 ≤ i ∧ i < (n : Int)) ∧ E (.ref a.c_UnknownSeat) none H
theorem ok_check_seatX (T : Facts K mg a) : FnR P w K mg base (L2.CX P w) 2 a.f_check_seat (spCkSeatX a) := by
  obtain ⟨fd, F⟩ := T.u_check_seat
  have GB : FnR P w K mg base (L2.CX P w) 1 a.f_is_between spBetween := ok_between T
  refine fnr_ok F sc_check_seat (F.binds fun _ _ _ _ _ _ us hl => match us, hl with | [_, _], _ => rfl) (fun vs H Q E h => ?_) (fun cdv A outer s H vs Q E hr h => ?_)
  · obtain ⟨i, n, rfl, _⟩ := h
    rfl
  · obtain ⟨i, n, rfl, h0, e⟩ := h
    refine ⟨_, (pss_one (ps_if (pt_not (pt_trA Like.refl pas_main (pe_glA Like.refl pas_main (by rfl) (pa_cons (pv 0) (pa_cons (pe_int) (pa_cons (pe_opA Like.refl pas_main (pv 1) (pe_int)) pa_nil)))))) (pss_one (ps_raA rfl tk_main (by rfl))) pss_nil)), ?_⟩
    walk_at "go"
    refine s_btwF GB hr (by omega) ?_
    walk_at "go"
    exact ⟨_, T.x_UnknownSeat, e⟩
def spCkPayX (a : Ad) : Sp := fun vs H _ E => ∃ (n : Nat) (i j c : Int) (b : Bool), vs = [.int n, .int i, .int j, .int c] ∧ payErr n i j c = some b ∧ E (.ref (errA a b)) none H
theorem ok_check_paymentX (T : Facts K mg a) : FnR P w K mg base (L2.CX P w) 3 a.f_check_payment (spCkPayX a) := by
  obtain ⟨fd, F⟩ := T.u_check_payment
  have GB : FnR P w K mg base (L2.CX P w) 1 a.f_is_between spBetween := ok_between T
  have GS : FnR P w K mg base (L2.CX P w) 2 a.f_check_seat spCkSeat := ok_check_seat T
  have GX : FnR P w K mg base (L2.CX P w) 2 a.f_check_seat (spCkSeatX a) := ok_check_seatX T
  refine fnr_ok F sc_check_payment (F.binds fun _ _ _ _ _ _ us hl => match us, hl with | [_, _, _, _], _ => rfl) (fun vs H Q E h => ?_) (fun cdv A outer s H vs Q E hr h => ?_)
  · obtain ⟨n, i, j, c, b, rfl, _⟩ := h
    rfl
  · obtain ⟨n, i, j, c, b, rfl, hp, e⟩ := h
    refine ⟨_, (pss_cons (ps_expr (pe_glA Like.refl pas_main (by rfl) (pa_cons (pv 1) (pa_cons (pv 0) pa_nil))))
    (pss_cons (ps_expr (pe_glA Like.refl pas_main (by rfl) (pa_cons (pv 2) (pa_cons (pv 0) pa_nil))))
    (pss_cons (ps_if (pt_cmpA Like.refl pas_main (pv 1) (pv 2) (nomark _)) (pss_one (ps_raA rfl tk_main (by rfl))) pss_nil)
    (pss_one (ps_if (pt_not (pt_trA Like.refl pas_main (pe_glA Like.refl pas_main (by rfl) (pa_cons (pv 3) (pa_cons (pe_int) (pa_cons (pe_gvI Like.refl (by rfl)) pa_nil)))))) (pss_one (ps_raA rfl tk_main (by rfl))) pss_nil))))), ?_⟩
    unfold payErr at hp
    by_cases h1 : 0 ≤ i ∧ i < (n : Int)
    · rw [if_neg (fun z => z h1)] at hp
      walk_at "go"
      refine s_fn GS hr ⟨_, n, rfl, h1.1, h1.2, ?_⟩
      walk_at "go"
      by_cases h2 : 0 ≤ j ∧ j < (n : Int)
      · rw [if_neg (fun z => z h2)] at hp
        refine s_fn GS hr ⟨_, n, rfl, h2.1, h2.2, ?_⟩
        walk_at "go"
        refine ite_d (fun h3 => ?_) (fun h3 => ?_)
        · rw [if_pos h3] at hp
          cases hp
          walk_at "go"
          exact ⟨_, T.x_InvalidNumber, e⟩
        · rw [if_neg h3] at hp
          by_cases h4 : 1 ≤ c ∧ c ≤ 10 ^ 15
          · rw [if_neg (fun z => z h4)] at hp
            cases hp
          · rw [if_pos h4] at hp
            cases hp
            walk_at "go"
            refine w_gvI T.i_MAX_PAYMENT.choose_spec ?_
            walk_at "go"
            refine s_btwF GB (hr.mono (by decide)) h4 ?_
            walk_at "go"
            exact ⟨_, T.x_InvalidNumber, e⟩
      · rw [if_pos h2] at hp
        cases hp
        exact s_fn GX hr ⟨_, n, rfl, h2, e⟩
    · rw [if_pos h1] at hp
      cases hp
      walk_at "go"
      exact s_fn GX hr ⟨_, n, rfl, h1, e⟩
def spBalX (a : Ad) : Sp := fun vs H _ E => ∃ (p g bp : Addr) (ds : List Int) (ps : List Addr) (xs : List Pay) (i j c : Int) (b : Bool) (more : List V), vs = [.ref p, .ref g] ∧ ShAt a.c_Shares H p ds ∧ H g = some (.lst (ps.map V.ref ++ .ref bp :: more)) ∧ PaysL H ps xs ∧ H bp = some (.tup [.int i, .int j, .int c]) ∧
  ds.length ≤ 8 ∧ xs.length + more.length ≤ 1000 ∧ (∀ x ∈ xs, PayOk ds.length x) ∧ payErr ds.length i j c = some b ∧ ∀ H', Same H H' → E (.ref (errA a b)) none H'
theorem ok_balance_afterX (T : Facts K mg a) : FnR P w K mg base (L2.CX P w) 4 a.f_balance_after (spBalX a) := by
  obtain ⟨fd, F⟩ := T.u_balance_after
  have GP : FnR P w K mg base (L2.CX P w) 3 a.f_check_payment spCkPay := ok_check_payment T
  have GX : FnR P w K mg base (L2.CX P w) 3 a.f_check_payment (spCkPayX a) := ok_check_paymentX T
  have GC : FnR P w K mg base (L2.CX P w) 1 a.f_Shares_cents (spShCents a.c_Shares) := ok_sh_cents T
  refine fnr_ok F sc_balance_after (F.binds fun _ _ _ _ _ _ us hl => match us, hl with | [_, _], _ => rfl) (fun vs H Q E h => ?_) (fun cdv A outer s H vs Q E hr h => ?_)
  · obtain ⟨p, g, bp, ds, ps, xs, i, j, c, b, more, rfl, _⟩ := h
    rfl
  · obtain ⟨p, g, bp, ds, ps, xs, i, j, c, b, more, rfl, sh, hg, hps, hbp, hn8, hxl, hok, hbad, e⟩ := h
    obtain ⟨dx, t, e1, e2⟩ := id sh
    refine ⟨_, (pss_cons (ps_set (i := 2) sc_balance_after.nd rfl (Or.inl rfl) (pe_tyA (T := "list") Like.refl pas_main (by rfl) (by decide +kernel) (pa_cons (pe_atA Like.refl pas_main (pv 0)) pa_nil)))
    (pss_cons (ps_for own_main rfl (pi_seqA Like.refl (pv 1)) (pg_tup rfl (pgs_cons (pg_name (i := 3) sc_balance_after.nd rfl (Or.inl rfl)) (pgs_cons (pg_name (i := 4) sc_balance_after.nd rfl (Or.inl rfl)) (pgs_cons (pg_name (i := 5) sc_balance_after.nd rfl (Or.inl rfl)) pgs_nil)))) (pss_cons (ps_expr (pe_glA Like.refl pas_main (by rfl) (pa_cons (pe_biA (id := "len") Like.refl pas_main (by rfl) (by decide +kernel) (pa_cons (pv 2) pa_nil)) (pa_cons (pv 3) (pa_cons (pv 4) (pa_cons (pv 5) pa_nil))))))
    (pss_cons (ps_agS Like.refl pas_main (pv 2) (pv 3) (pv 5))
    (pss_one (ps_agS Like.refl pas_main (pv 2) (pv 4) (pv 5))))))
    (pss_one (ps_ret (pe_glS Like.refl pas_main (by rfl) (pv 2)))))), ?_⟩
    walk_at "go"
    refine s_prop T.cl_Shares T.pr_Shares_cents GC (hr.mono (by decide)) e1 ⟨p, dx, t, rfl, e1, ?_⟩
    walk_at "go"
    refine s_listOf (.inr (SqT.of e2)) fun d hd => ?_
    have s1 := same_new (o := .lst (ds.map V.int)) hd
    walk_at "go"
    refine f_lst (a := g) (xs := ps.map V.ref ++ .ref bp :: more) (fun k σ H' => k ≤ ps.length ∧ Same H H' ∧ ∃ x3 x4 x5, σ = [some (.ref p), some (.ref g), some (.ref d), x3, x4, x5] ∧ H' d = some (.lst ((giveAll ds (xs.take k)).map V.int))) (fun R k => by walk_at "go"; exact k)
      ⟨Nat.zero_le _, s1, none, none, none, rfl, upd_same⟩ (fun k σ H' _ pv => SqL.of (pv.2.1 _ _ hg)) (fun k x σ H' hx pv => ?_) (fun σ H' pv => ?_)
    · obtain ⟨kle, s2, x3, x4, x5, rfl, hD⟩ := pv
      have gl := giveAll_len (xs.take k) ds
      rcases Nat.lt_or_ge k ps.length with klt | kge
      · rw [List.getElem?_append_left (by rw [List.length_map]; exact klt), List.getElem?_map] at hx
        cases er : ps[k]? with
        | none => rw [er] at hx; cases hx
        | some r =>
          rw [er] at hx
          cases hx
          obtain ⟨y, ey⟩ : ∃ y, xs[k]? = some y := ⟨_, List.getElem?_eq_getElem (by rw [← hps.1]; exact klt)⟩
          have hy := hok y (List.mem_of_getElem? ey)
          generalize hcur : giveAll ds (xs.take k) = cur at *
          refine g_trip (SqT.of (s2 _ _ (hps.2 k r y er ey))) ?_
          dsimp only [List.set]
          walk_at "go"
          refine s_lenL (SqL.of hD) ?_
          rw [List.length_map, gl]
          walk_at "go"
          refine s_fn GP hr ⟨ds.length, y, rfl, hy, ?_⟩
          walk_at "go"
          have L0 : y.1 < cur.length := by rw [gl]; exact hy.1
          have L1 : y.2.1 < cur.length := by rw [gl]; exact hy.2.1
          refine w_agS (K := K) ?_
          walk_at "go"
          refine s_getL (SqL.of hD) (Int.natCast_nonneg _) (v := .int (cur.getD y.1 0)) (by rw [Int.toNat_natCast]; exact mapGet L0) ?_
          walk_at "go"
          refine s_iaddG ?_
          refine s_setL hD (ixN_ofG (Int.natCast_nonneg _) (by rw [List.length_map]; omega)) ?_
          walk_at "go"
          rw [Int.toNat_natCast, ← List.map_set]
          have s3 := same_mut (o := .lst ((cur.set y.1 (cur.getD y.1 0 + y.2.2)).map V.int)) s2 hd
          have hD3 : (upd H' d (.lst ((cur.set y.1 (cur.getD y.1 0 + y.2.2)).map V.int))) d = some (.lst ((cur.set y.1 (cur.getD y.1 0 + y.2.2)).map V.int)) := upd_same
          generalize upd H' d (.lst ((cur.set y.1 (cur.getD y.1 0 + y.2.2)).map V.int)) = H3 at *
          dsimp only
          refine w_agS (K := K) ?_
          walk_at "go"
          refine s_getL (SqL.of hD3) (Int.natCast_nonneg _) (v := .int ((cur.set y.1 (cur.getD y.1 0 + y.2.2)).getD y.2.1 0)) (by rw [Int.toNat_natCast]; exact mapGet (by rw [List.length_set]; exact L1)) ?_
          walk_at "go"
          refine s_isubG ?_
          refine s_setL hD3 (ixN_ofG (Int.natCast_nonneg _) (by rw [List.length_map, List.length_set]; omega)) ?_
          walk_at "go"
          rw [Int.toNat_natCast, ← List.map_set]
          refine ⟨klt, same_mut s3 hd, _, _, _, rfl, ?_⟩
          rw [upd_same, List.take_add_one, ey]
          show _ = some (HO.lst ((giveAll ds (xs.take k ++ [y])).map V.int))
          rw [giveAll_snoc, hcur]
          rfl
      · have hk : k = ps.length := by omega
        rw [List.getElem?_append_right (by rw [List.length_map]; exact kge), List.length_map, hk, Nat.sub_self] at hx
        cases hx
        refine g_trip (SqT.of (s2 _ _ hbp)) ?_
        dsimp only [List.set]
        walk_at "go"
        refine s_lenL (SqL.of hD) ?_
        rw [List.length_map, gl]
        walk_at "go"
        exact s_fn GX hr ⟨ds.length, i, j, c, b, rfl, hbad, e _ s2⟩
    · obtain ⟨kle, _⟩ := pv
      rw [List.length_append, List.length_map, List.length_cons] at kle
      omega
/-! ### balances that are not settled -/
def spCkBalX (a : Ad) : Sp := fun vs H _ E => ∃ (p : Addr) (ds : List Int) (b : Bool), vs = [.ref p] ∧ ShAt a.c_Shares H p ds ∧ ds.length ≤ 100 ∧ (if b = true then ds.length ≤ 8 ∧ ds.sum ≠ 0 else 8 < ds.length) ∧ E (.ref (if b = true then a.c_NotBalanced else a.c_InvalidNumber)) none H
theorem ok_check_balanceX (T : Facts K mg a) : FnR P w K mg base (L2.CX P w) 3 a.f_check_balance (spCkBalX a) := by
  obtain ⟨fd, F⟩ := T.u_check_balance
  have GL : FnR P w K mg base (L2.CX P w) 1 a.f_Shares__len_ (spShLen a.c_Shares) := ok_sh_len T
  have GW : FnR P w K mg base (L2.CX P w) 1 a.f_Shares_whole (spShWhole a.c_Shares) := ok_sh_whole T
  refine fnr_ok F sc_check_balance (F.binds fun _ _ _ _ _ _ us hl => match us, hl with | [_], _ => rfl) (fun vs H Q E h => ?_) (fun cdv A outer s H vs Q E hr h => ?_)
  · obtain ⟨p, ds, b, rfl, _⟩ := h
    rfl
  · obtain ⟨p, ds, b, rfl, sh, hl, hb, e⟩ := h
    obtain ⟨dx, t, e1, e2⟩ := id sh
    refine ⟨_, (pss_cons (ps_if (pt_cmpA Like.refl pas_main (pe_biA (id := "len") Like.refl pas_main (by rfl) (by decide +kernel) (pa_cons (pv 0) pa_nil)) (pe_gvI Like.refl (by rfl)) (nomark _)) (pss_one (ps_raA rfl tk_main (by rfl))) pss_nil)
    (pss_one (ps_if (pt_cmpA Like.refl pas_main (pe_atA Like.refl pas_main (pv 0)) (pe_int) (nomark _)) (pss_one (ps_raA rfl tk_main (by rfl))) pss_nil))), ?_⟩
    walk_at "go"
    refine s_lenI T.m_Shares__len_ GL (hr.mono (by decide)) e1 ⟨p, ds, rfl, sh, _, rfl, by omega, by omega, ?_⟩
    walk_at "go"
    refine w_gvI T.i_MAX_SETTLED_SEATS.choose_spec ?_
    walk_at "go"
    cases b with
    | false =>
      rw [if_neg Bool.false_ne_true] at hb e
      refine ite_d (fun _ => ?_) (fun z => absurd z (by omega))
      walk_at "go"
      exact ⟨_, T.x_InvalidNumber, e⟩
    | true =>
      rw [if_pos rfl] at hb e
      refine ite_d (fun z => absurd z (by omega)) (fun _ => ?_)
      walk_at "go"
      refine s_prop T.cl_Shares T.pr_Shares_whole GW (hr.mono (by decide)) e1 ⟨p, ds, rfl, sh, ?_⟩
      walk_at "go"
      refine ite_n (fun _ => ?_) (fun z => absurd z hb.2)
      walk_at "go"
      exact ⟨_, T.x_NotBalanced, e⟩
theorem ok_paymentsX (T : Facts K mg a) : FnR P w K mg base (L2.CX P w) 4 a.f_payments (spCkBalX a) := by
  obtain ⟨fd, F⟩ := T.u_payments
  have GB : FnR P w K mg base (L2.CX P w) 3 a.f_check_balance (spCkBalX a) := ok_check_balanceX T
  refine fnr_ok F sc_payments (F.binds fun _ _ _ _ _ _ us hl => match us, hl with | [_], _ => rfl) (fun vs H Q E h => ?_) (fun cdv A outer s H vs Q E hr h => ?_)
  · obtain ⟨p, ds, b, rfl, _⟩ := h
    rfl
  · obtain ⟨p, ds, b, rfl, sh, hl, hb, e⟩ := h
    refine ⟨_, (pss_cons (ps_expr (pe_glA Like.refl pas_main (by rfl) (pa_cons (pv 0) pa_nil)))
    (pss_cons (ps_set (i := 1) sc_payments.nd rfl (Or.inr rfl) (pe_atA Like.refl pas_main (pv 0)))
    (pss_one (ps_ret (pe_lc2 (own := [("group", 2), ("payment", 3)]) (vs1 := [3]) (g := gName 2) (g1 := gName 3) (tt := tYes) (tt1 := tYes) rfl sc_payments.nd (pi_seqA Like.refl (pe_glA Like.refl pas_main (by rfl) (pa_cons (pv 1) pa_nil))) (blkOk_by (own := [("group", 2), ("payment", 3)]) (N := N_payments) (sc := defScope s_payments) (by decide +kernel)) (by decide) (fun _ _ _ _ _ => (pg_name (i := 2) sc_payments.nd rfl (by first | exact Or.inl rfl | exact Or.inr rfl))) (fun _ _ _ _ _ => pts_nil) (fun _ _ _ _ _ => (pi_seqA ⟨rfl, rfl, rfl, rfl, rfl, rfl, rfl⟩ (pe_glA ⟨rfl, rfl, rfl, rfl, rfl, rfl, rfl⟩ passL (by rfl) (pa_cons (pe_biA (id := "sorted") ⟨rfl, rfl, rfl, rfl, rfl, rfl, rfl⟩ passL (by rfl) (by decide +kernel) (pa_cons (pv 2) pa_nil)) (pa_cons (pv 1) pa_nil))))) (fun _ _ _ _ _ => (pg_name (i := 3) sc_payments.nd rfl (by first | exact Or.inl rfl | exact Or.inr rfl))) (fun _ _ _ _ _ => pts_nil) (fun _ _ _ _ _ => (pv 3))))))), ?_⟩
    walk_at "go"
    exact s_fn GB hr ⟨p, ds, b, rfl, sh, hl, hb, e⟩
theorem ok_fewestX (T : Facts K mg a) : FnR P w K mg base (L2.CX P w) 5 a.f_fewest_payments (spCkBalX a) := by
  obtain ⟨fd, F⟩ := T.u_fewest_payments
  have GP : FnR P w K mg base (L2.CX P w) 4 a.f_payments (spCkBalX a) := ok_paymentsX T
  refine fnr_ok F sc_fewest_payments (F.binds fun _ _ _ _ _ _ us hl => match us, hl with | [_], _ => rfl) (fun vs H Q E h => ?_) (fun cdv A outer s H vs Q E hr h => ?_)
  · obtain ⟨p, ds, b, rfl, _⟩ := h
    rfl
  · obtain ⟨p, ds, b, rfl, sh, hl, hb, e⟩ := h
    refine ⟨_, (pss_one (ps_ret (pe_biA (id := "len") Like.refl pas_main (by rfl) (by decide +kernel) (pa_cons (pe_glA Like.refl pas_main (by rfl) (pa_cons (pv 0) pa_nil)) pa_nil)))), ?_⟩
    walk_at "go"
    exact s_fn GP hr ⟨p, ds, b, rfl, sh, hl, hb, e⟩
end

end Odd

namespace Odd
open PySem PySem.Spec PyProof.Rows L2 LamX NdefX
/-! tactics of this text: st one step, go as many as go -/
local macro_rules | `(tactic| walk_at "ar") => `(tactic| first | assumption | omega | (show (_ : Int) < _; omega) | decide)
local macro_rules | `(tactic| walk_at "st") => `(tactic| first
  | with_reducible refine' w_seq ?_
  | with_reducible refine' w_asg ?_
  | with_reducible refine' w_name ?_
  | with_reducible refine' w_c ?_
  | with_reducible refine' w_op ?_
  | with_reducible refine' w_ix ?_
  | with_reducible refine' w_at ?_
  | with_reducible refine' w_cons ?_
  | with_reducible refine' w_nil ?_
  | with_reducible refine' w_ret ?_
  | with_reducible refine' w_if ?_
  | with_reducible refine' w_test ?_
  | with_reducible refine' w_tr ?_
  | with_reducible refine' w_un ?_
  | with_reducible refine' w_andV ?_
  | with_reducible refine' w_orV ?_
  | with_reducible refine' w_notA ?_
  | with_reducible refine' w_ch ?_
  | with_reducible refine' w_and ?_
  | with_reducible refine' w_or ?_
  | with_reducible refine' w_not ?_
  | with_reducible refine' w_ifx ?_
  | with_reducible refine' w_tup ?_
  | with_reducible refine' w_lst ?_
  | with_reducible refine' w_next ?_
  | with_reducible refine' w_drop ?_
  | with_reducible refine' w_retN ?_
  | ((with_reducible refine' w_var ?h ?_); (case h => exact rfl))
  | ((with_reducible refine' w_bi ?h ?_); (case h => walk_at "mg"))
  | ((with_reducible refine' w_bv ?h ?_); (case h => walk_at "mg"))
  | ((with_reducible refine' w_gv ?h ?_); (case h => walk_at "mg"))
  | ((with_reducible refine' w_gl ?h ?k ?_); (case h => walk_at "mg"); (case k => walk_at "kp"))
  | ((with_reducible refine' w_glS ?h ?k ?_); (case h => walk_at "mg"); (case k => walk_at "kp"))
  | with_reducible refine' bl_ex ?_
  | with_reducible refine' iteT ?_
  | with_reducible refine' iteF ?_
  | with_reducible refine' ite_nf ?_
  | with_reducible refine' ite_nt ?_
  | with_reducible refine' s_add ?_
  | with_reducible refine' s_sub ?_
  | with_reducible refine' s_lt ?_
  | with_reducible refine' s_le ?_
  | with_reducible refine' s_gt ?_
  | with_reducible refine' s_ge ?_
  | with_reducible refine' s_eqI ?_
  | with_reducible refine' s_neI ?_
  | with_reducible refine' s_eqB ?_
  | with_reducible refine' s_neB ?_
  | with_reducible refine' s_truB ?_
  | with_reducible refine' s_truI ?_
  | with_reducible refine' s_neg ?_
  | ((with_reducible refine' s_mod ?h ?_); (case h => walk_at "ar")))
local macro_rules | `(tactic| walk_at "go") => `(tactic| repeat walk_at "st")

local macro_rules | `(tactic| walk_at "mg") => `(tactic| first | assumption | exact Facts.z_TypeError (by assumption) | exact Facts.z_ValueError (by assumption) | exact Facts.z_abs (by assumption) | exact Facts.z_all (by assumption) | exact Facts.z_bool (by assumption) | exact Facts.z_classmethod (by assumption) | exact Facts.z_enumerate (by assumption) | exact Facts.z_int (by assumption) | exact Facts.z_isinstance (by assumption) | exact Facts.z_len (by assumption) | exact Facts.z_list (by assumption) | exact Facts.z_max (by assumption) | exact Facts.z_min (by assumption) | exact Facts.z_property (by assumption) | exact Facts.z_range (by assumption) | exact Facts.z_sorted (by assumption) | exact Facts.z_str (by assumption) | exact Facts.z_sum (by assumption) | exact Facts.z_super (by assumption) | exact Facts.z_tuple (by assumption) | exact Facts.z_zip (by assumption) | exact Facts.g__wall (by assumption) | exact Facts.g_is_between (by assumption) | exact Facts.g_check_seat (by assumption) | exact Facts.g_seats_of (by assumption) | exact Facts.g_check_payment (by assumption) | exact Facts.g_balance_after (by assumption) | exact Facts.g_check_balance (by assumption) | exact Facts.g_sums_of_sets (by assumption) | exact Facts.g_number_of_groups (by assumption) | exact Facts.g_parted (by assumption) | exact Facts.g_payments_within (by assumption) | exact Facts.g_payments (by assumption) | exact Facts.g_fewest_payments (by assumption) | exact Facts.g_check_amount (by assumption) | exact Facts.g_check_seats (by assumption) | exact Facts.g_check_seat_count (by assumption) | exact Facts.g_check_mark (by assumption) | exact Facts.g_no_shares (by assumption) | exact Facts.g__law_random (by assumption) | exact Facts.g__law_below (by assumption) | exact Facts.g__law_shuffled (by assumption) | exact Facts.g__law_balance (by assumption) | exact Facts.g__law_shares (by assumption) | exact Facts.g__law_equal (by assumption) | exact Facts.g__law_error_of (by assumption) | exact Facts.g__law_all_raise (by assumption) | exact Facts.g_law (by assumption) | exact Facts.g_Shares (by assumption) | exact Facts.g_Bill (by assumption) | exact Facts.g_Page (by assumption) | exact Facts.g_Ledger (by assumption) | exact Facts.eg_InvalidBill (by assumption) | exact Facts.eg_InvalidEvening (by assumption) | exact Facts.eg_InvalidOperation (by assumption) | exact Facts.eg_InvalidMark (by assumption) | exact Facts.eg_UnknownSeat (by assumption) | exact Facts.eg_InvalidNumber (by assumption) | exact Facts.eg_NotBalanced (by assumption) | exact Facts.eg_EmptyGroup (by assumption) | exact Facts.eg_InvalidText (by assumption) | exact Facts.eg_InvalidReceipt (by assumption) | exact Facts.eg_DecodeError (by assumption))
local macro_rules | `(tactic| walk_at "kp") => `(tactic| first | assumption | exact (Facts.mk_Shares (by assumption)).kp | exact (Facts.mk_Bill (by assumption)).kp | exact (Facts.mk_Page (by assumption)).kp | exact (Facts.mk_Ledger (by assumption)).kp | exact Fun.kp (Facts.u__wall (by assumption)).choose_spec | exact Fun.kp (Facts.u_is_between (by assumption)).choose_spec | exact Fun.kp (Facts.u_check_seat (by assumption)).choose_spec | exact Fun.kp (Facts.u_seats_of (by assumption)).choose_spec | exact Fun.kp (Facts.u_check_payment (by assumption)).choose_spec | exact Fun.kp (Facts.u_balance_after (by assumption)).choose_spec | exact Fun.kp (Facts.u_check_balance (by assumption)).choose_spec | exact Fun.kp (Facts.u_sums_of_sets (by assumption)).choose_spec | exact Fun.kp (Facts.u_number_of_groups (by assumption)).choose_spec | exact Fun.kp (Facts.u_parted (by assumption)).choose_spec | exact Fun.kp (Facts.u_payments_within (by assumption)).choose_spec | exact Fun.kp (Facts.u_payments (by assumption)).choose_spec | exact Fun.kp (Facts.u_fewest_payments (by assumption)).choose_spec | exact Fun.kp (Facts.u_check_amount (by assumption)).choose_spec | exact Fun.kp (Facts.u_check_seats (by assumption)).choose_spec | exact Fun.kp (Facts.u_check_seat_count (by assumption)).choose_spec | exact Fun.kp (Facts.u_check_mark (by assumption)).choose_spec | exact Fun.kp (Facts.u_no_shares (by assumption)).choose_spec | exact Fun.kp (Facts.u__law_random (by assumption)).choose_spec | exact Fun.kp (Facts.u__law_below (by assumption)).choose_spec | exact Fun.kp (Facts.u__law_shuffled (by assumption)).choose_spec | exact Fun.kp (Facts.u__law_balance (by assumption)).choose_spec | exact Fun.kp (Facts.u__law_shares (by assumption)).choose_spec | exact Fun.kp (Facts.u__law_equal (by assumption)).choose_spec | exact Fun.kp (Facts.u__law_error_of (by assumption)).choose_spec | exact Fun.kp (Facts.u__law_all_raise (by assumption)).choose_spec | exact Fun.kp (Facts.u_law (by assumption)).choose_spec)
local macro_rules | `(tactic| walk_at "st") => `(tactic| ((with_reducible refine' w_name ?_); (try dsimp only [List.set])))

/-! ### k32: payments and errors -/
section
variable {P : Program} {w : World} {K : PySem.W.Frag} {mg : Str → Option Value} {base : Heap} {a : Ad}
theorem tabs_l0 {T : List (Addr × Str)} {H : Hp} {p : Addr} {l l' : List V} (t : Tabs T H) (h : H p = some (.lst l)) : Tabs T (upd H p (.lst l')) := tabs_b (st := p) (l := l) t (fun b o n e => by rw [upd_ne n]; exact e) h
theorem upd_nl {H : Hp} {q wl : Addr} {o : HO} {l l' : List V} (hw : H wl = some (.lst l)) (e : H q = some o) (ne : ∀ l, o ≠ .lst l) : (upd H wl (.lst l')) q = some o := by
  rw [upd_ne (fun z => by rw [z, hw] at e; exact ne l (Option.some.inj e).symm)]
  exact e
theorem lo_nl {f : Addr} {F : NF} {bd : Expr} {dV : Value} (l : List V) : LamO f F bd dV ≠ .lst l := fun z => by unfold LamO at z; cases z
theorem co_nl {c : Addr} {q : Str} (l : List V) : CodeO c q ≠ .lst l := fun z => by unfold CodeO at z; cases z
def spLaw (K : PySem.W.Frag) (a : Ad) : Sp := fun vs H Q _ => ∃ (sc : Addr) (ns : List Int), vs = [.ref sc] ∧ SqL K H sc (ns.map V.int) ∧ ns.length ≤ 63 ∧ H a.t_law = some (.tbl #[]) ∧ ∀ H', Q (.bl true) H'
theorem okI_tup {cs : List Int} (h : cs.length < 1000) : okN 1 (.tuple (cs.map PyData.int)) := by
  simp only [okN]
  refine ⟨by rw [List.length_map]; exact h, fun y hy => ?_⟩
  obtain ⟨z, _, rfl⟩ := List.mem_map.1 hy
  simp [okN]
/-- what is there, but the drawn -/
def B32 (a : Ad) (cl gl sh : Addr) (ds : List Int) (ps : List Addr) (xs : List Pay) (H : Hp) : Prop := Tabs (TL a) H ∧ ShAt a.c_Shares H sh ds ∧ H cl = some (.lst (ds.map V.int)) ∧ H gl = some (.lst (ps.map V.ref)) ∧ PaysL H ps xs
theorem B32.same {cl gl sh : Addr} {ds : List Int} {ps : List Addr} {xs : List Pay} {H H' : Hp} (h : B32 a cl gl sh ds ps xs H) (s : Same H H') : B32 a cl gl sh ds ps xs H' :=
  ⟨tabs_same h.1 s, h.2.1.same s, s _ _ h.2.2.1, s _ _ h.2.2.2.1, h.2.2.2.2.same fun q vs e => s _ _ e⟩
theorem B32.ext {cl gl sh : Addr} {ds : List Int} {ps : List Addr} {xs : List Pay} {H H' : Hp} (h : B32 a cl gl sh ds ps xs H) (s : ExtN H H') (t : Tabs (TL a) H') : B32 a cl gl sh ds ps xs H' := by
  obtain ⟨_, ⟨dx, u, h1, h2⟩, h3, h4, h5⟩ := h
  exact ⟨t, ⟨dx, u, ExtN.o s h1 (by simp), ExtN.o s h2 (by simp)⟩, ExtN.o s h3 (by simp), ExtN.o s h4 (by simp), h5.same fun q vs e => ExtN.o s e (by simp)⟩
/-- a list other than these changes -/
theorem B32.upd {cl gl sh d : Addr} {ds : List Int} {ps : List Addr} {xs : List Pay} {H : Hp} {l l' : List V} (h : B32 a cl gl sh ds ps xs H) (hd : H d = some (.lst l)) (n1 : cl ≠ d) (n2 : gl ≠ d) : B32 a cl gl sh ds ps xs (upd H d (.lst l')) := by
  obtain ⟨h0, ⟨dx, u, h1, h2⟩, h3, h4, h5⟩ := h
  exact ⟨tabs_l0 h0 hd, ⟨dx, u, upd_nl hd h1 (by simp), upd_nl hd h2 (by simp)⟩, by rw [upd_ne n1]; exact h3, by rw [upd_ne n2]; exact h4, h5.same fun q vs e => upd_nl hd e (by simp)⟩
theorem B32.sb {cl gl sh st : Addr} {ds : List Int} {ps : List Addr} {xs : List Pay} {H H' : Hp} (h : B32 a cl gl sh ds ps xs H) (s : SameB (· = st) H H') (W : DSt st H) (n1 : ¬ cl = st) (n2 : ¬ gl = st) : B32 a cl gl sh ds ps xs H' := by
  obtain ⟨h0, ⟨dx, u, h1, h2⟩, h3, h4, h5⟩ := h
  obtain ⟨l, hl⟩ := W.lst
  have key : ∀ b o, H b = some o → (∀ l, o ≠ .lst l) → H' b = some o := fun b o e ne => s b o (fun z => by rw [show b = st from z, hl] at e; exact ne _ (Option.some.inj e).symm) e
  exact ⟨tabs_b h0 s hl, ⟨dx, u, key _ _ h1 (by simp), key _ _ h2 (by simp)⟩, s _ _ n1 h3, s _ _ n2 h4, h5.same fun q vs e => key _ _ e (by simp)⟩
theorem DSt.ext0 {st : Addr} {H H' : Hp} (h : DSt st H) (s : ExtN H H') : DSt st H' := let ⟨a, b, c, h1, h2⟩ := h; ⟨a, b, c, ExtN.o s h1 (by simp), h2⟩
theorem turn_ne {g d n : Int} (h0 : 0 ≤ g) (h1 : g < n) (d0 : 1 ≤ d) (d1 : d ≤ n - 1) : 0 ≤ (g + d) % n ∧ (g + d) % n < n ∧ (g + d) % n ≠ g := by
  rcases Int.lt_or_le (g + d) n with z | z
  · rw [Int.emod_eq_of_lt (by omega) z]
    omega
  · have e : (g + d) % n = g + d - n := by
      rw [show g + d = (g + d - n) + n * 1 by omega, Int.add_mul_emod_self_left, Int.emod_eq_of_lt (by omega) (by omega)]
      omega
    omega
set_option maxHeartbeats 20000000 in
theorem ok_law (T : Facts K mg a) {fd : FuncData} (F : Fun K "law" "law" s_law a.f_law fd) (hc : fd.code = .ref a.k_law) (TB_law : TabB base mg a.k_law a.t_law) : FnOk P w K mg base (L2.CX P w) 15 a.f_law fd ["_law_script"] (spLaw K a) := by
  have GR : FnR P w K mg base (L2.CX P w) 1 a.f__law_random (spRandom K) := ok_random T
  have GD : FnR P w K mg base (L2.CX P w) 1 a.f__law_below spBelow := ok_below T
  have GB : FnR P w K mg base (L2.CX P w) 3 a.f__law_balance spLBal := ok_lbalance T
  have GS : FnR P w K mg base (L2.CX P w) 6 a.f__law_shares (spLShares a.c_Shares) := ok_lshares T
  have GE : FnR P w K mg base (L2.CX P w) 2 a.f__law_equal (spEqual K 1) := ok_equal T 1 (by decide)
  have GP : FnR P w K mg base (L2.CX P w) 4 a.f_payments (spPaysA a.c_Shares) := ok_paymentsA T
  have GF : FnR P w K mg base (L2.CX P w) 5 a.f_fewest_payments (spFewestA a.c_Shares) := ok_fewestA T
  have GA : FnR P w K mg base (L2.CX P w) 4 a.f_balance_after (spBalAfter a.c_Shares) := ok_balance_after T
  have GC : FnR P w K mg base (L2.CX P w) 1 a.f_Shares_cents (spShCents a.c_Shares) := ok_sh_cents T
  have GI : FnR P w K mg base (L2.CX P w) 1 a.f_Shares__init_ (InitSp a.c_Shares) := ok_sh_init T
  refine okXC F hc sc_law (fun vs H Q E h => ?_) (fun A outer s H vs Q E hr h => ?_)
  · obtain ⟨sc, ns, rfl, _⟩ := h
    rfl
  · obtain ⟨sc, ns, rfl, hsc, hlen, htab, q⟩ := h
    have hr' := hr.units
    have e15 : (10 : Int) ^ 15 = 1000000000000000 := by decide
    have e80 : (2 : Int) ^ 80 = 1208925819614629174706176 := by decide
    refine ⟨_, (pss_cons (ps_set (i := 1) sc_law.nd rfl (Or.inl rfl) (pe_glA Like.refl pas_main (by rfl) (pa_cons (pv 0) (pa_cons (pe_int) pa_nil))))
    (pss_cons (ps_set (i := 2) sc_law.nd rfl (Or.inl rfl) (pe_glA Like.refl pas_main (by rfl) (pa_cons (pv 1) pa_nil)))
    (pss_cons (ps_asg (pe_tup (pa_cons (pe_glA Like.refl pas_main (by rfl) (pa_cons (pv 2) pa_nil)) (pa_cons (pe_biA (id := "len") Like.refl pas_main (by rfl) (by decide +kernel) (pa_cons (pv 2) pa_nil)) (pa_cons (pe_lst pa_nil) pa_nil)))) (pg_tup rfl (pgs_cons (pg_name (i := 3) sc_law.nd rfl (Or.inr rfl)) (pgs_cons (pg_name (i := 4) sc_law.nd rfl (Or.inl rfl)) (pgs_cons (pg_name (i := 5) sc_law.nd rfl (Or.inr rfl)) pgs_nil)))))
    (pss_cons (ps_for own_main rfl (pi_range1 (by rfl) T.z_range (pa_cons (pe_glA Like.refl pas_main (by rfl) (pa_cons (pv 1) (pa_cons (pe_int) pa_nil))) pa_nil)) (pg_name (i := 6) sc_law.nd rfl (Or.inl rfl)) (pss_cons (ps_set (i := 7) sc_law.nd rfl (Or.inl rfl) (pe_glA Like.refl pas_main (by rfl) (pa_cons (pv 1) (pa_cons (pv 4) pa_nil))))
    (pss_one (ps_expr (pe_bm PySem.F.plainAttrs_list PySem.F.slot_list_append PySem.F.type_list_append mt_append (pv 5) (pa_cons (pe_tup (pa_cons (pv 7) (pa_cons (pe_opA Like.refl pas_main (pe_opA Like.refl pas_main (pe_opA Like.refl pas_main (pv 7) (pe_int)) (pe_glA Like.refl pas_main (by rfl) (pa_cons (pv 1) (pa_cons (pe_opA Like.refl pas_main (pv 4) (pe_int)) pa_nil)))) (pv 4)) (pa_cons (pe_opA Like.refl pas_main (pe_int) (pe_glA Like.refl pas_main (by rfl) (pa_cons (pv 1) (pa_cons (pe_opA Like.refl pas_main (pe_int) (pe_int)) pa_nil)))) pa_nil)))) pa_nil))))))
    (pss_cons (ps_set (i := 8) sc_law.nd rfl (Or.inl rfl) (pe_tyA (T := "list") Like.refl pas_main (by rfl) (by decide +kernel) (pa_cons (pv 2) pa_nil)))
    (pss_cons (ps_for own_main rfl (pi_seqA Like.refl (pv 5)) (pg_tup rfl (pgs_cons (pg_name (i := 7) sc_law.nd rfl (Or.inl rfl)) (pgs_cons (pg_name (i := 9) sc_law.nd rfl (Or.inl rfl)) (pgs_cons (pg_name (i := 10) sc_law.nd rfl (Or.inl rfl)) pgs_nil)))) (pss_cons (ps_asg (pe_opA Like.refl pas_main (pe_ixA Like.refl pas_main (pv 8) (pv 7)) (pv 10)) (pg_sub (pv 8) (pv 7) set_list))
    (pss_one (ps_asg (pe_opA Like.refl pas_main (pe_ixA Like.refl pas_main (pv 8) (pv 9)) (pv 10)) (pg_sub (pv 8) (pv 9) set_list)))))
    (pss_cons (ps_if (PW.pt (pw_or (pt_not (pt_trA Like.refl pas_main (pe_glA Like.refl pas_main (by rfl) (pa_cons (pe_atA Like.refl pas_main (pe_glA Like.refl pas_main (by rfl) (pa_cons (pv 3) (pa_cons (pv 5) pa_nil)))) (pa_cons (pe_tyA (T := "tuple") Like.refl pas_main (by rfl) (by decide +kernel) (pa_cons (pv 8) pa_nil)) pa_nil))))) (pw_or1 (pt_cmpA Like.refl pas_main (pe_atA Like.refl pas_main (pv 3)) (pe_tyA (T := "tuple") Like.refl pas_main (by rfl) (by decide +kernel) (pa_cons (pv 2) pa_nil)) (nomark _))))) (pss_one (ps_ret (pe_bl))) pss_nil)
    (pss_cons (ps_set (i := 11) sc_law.nd rfl (Or.inl rfl) (pe_opA Like.refl pas_main (pe_glA Like.refl pas_main (by rfl) (pa_cons (pv 1) (pa_cons (pe_int) pa_nil))) (pe_glA Like.refl pas_main (by rfl) (pa_cons (pv 1) (pa_cons (pe_int) pa_nil)))))
    (pss_cons (ps_asg (pe_tup (pa_cons (pe_ixA Like.refl pas_main (pe_lst (pa_cons (pe_opA Like.refl pas_main (pe_opA Like.refl pas_main (pe_int) (pe_int)) (pv 11)) (pa_cons (pe_opA Like.refl pas_main (pv 4) (pv 11)) pa_nil))) (pe_glA Like.refl pas_main (by rfl) (pa_cons (pv 1) (pa_cons (pe_int) pa_nil)))) (pa_cons (pe_ixA Like.refl pas_main (pe_lst (pa_cons (pe_opA Like.refl pas_main (pe_int) (pv 11)) (pa_cons (pe_opA Like.refl pas_main (pe_opA Like.refl pas_main (pe_opA Like.refl pas_main (pe_int) (pe_int)) (pe_int)) (pv 11)) pa_nil))) (pe_glA Like.refl pas_main (by rfl) (pa_cons (pv 1) (pa_cons (pe_int) pa_nil)))) pa_nil))) (pg_tup rfl (pgs_cons (pg_name (i := 12) sc_law.nd rfl (Or.inr rfl)) (pgs_cons (pg_name (i := 13) sc_law.nd rfl (Or.inl rfl)) pgs_nil))))
    (pss_cons (ps_set (i := 14) sc_law.nd rfl (Or.inl rfl) (pe_lst (pa_cons (pe_lam0 (T := TL a) TB_law rfl (tl_in_law rfl) (tl_one_law rfl) (lamS_by (by kernel_rfl)) rfl rfl) pa_nil)))
    (pss_cons (ps_expr (pe_bm PySem.F.plainAttrs_list PySem.F.slot_list_append PySem.F.type_list_append mt_append (pv 14) (pa_cons (pe_lam1 (T := TL a) TB_law rfl (tl_in_law rfl) (tl_one_law rfl) (lamS_by (by kernel_rfl)) rfl rfl) pa_nil)))
    (pss_cons (ps_if (pt_not (pt_trA Like.refl pas_main (pe_glB pas_main (fun _ => rfl) (by rfl) (pa_cons (pv 14) (pa_cons (pe_tup (pa_cons (pe_str) (pa_cons (pe_int) pa_nil))) pa_nil))))) (pss_one (ps_ret (pe_bl))) pss_nil)
    (pss_cons (ps_asg (pe_tup (pa_cons (pe_opA Like.refl pas_main (pv 5) (pe_lst (pa_cons (pe_tup (pa_cons (pe_int) (pa_cons (pe_int) (pa_cons (pv 13) pa_nil)))) (pa_cons (pe_tup (pa_cons (pv 12) (pa_cons (pe_int) (pa_cons (pe_int) pa_nil)))) pa_nil)))) (pa_cons (pe_opA Like.refl pas_main (pv 5) (pe_lst (pa_cons (pe_tup (pa_cons (pe_int) (pa_cons (pe_int) (pa_cons (pe_int) pa_nil)))) pa_nil))) pa_nil))) (pg_tup rfl (pgs_cons (pg_name (i := 15) sc_law.nd rfl (Or.inr rfl)) (pgs_cons (pg_name (i := 16) sc_law.nd rfl (Or.inr rfl)) pgs_nil))))
    (pss_cons (ps_set (i := 14) sc_law.nd rfl (Or.inl rfl) (pe_lst (pa_cons (pe_lam0 (T := TL a) TB_law rfl (tl_in_law rfl) (tl_one_law rfl) (lamS_by (by kernel_rfl)) rfl rfl) (pa_cons (pe_lam1 (T := TL a) TB_law rfl (tl_in_law rfl) (tl_one_law rfl) (lamS_by (by kernel_rfl)) rfl rfl) pa_nil))))
    (pss_cons (ps_set (i := 17) sc_law.nd rfl (Or.inr rfl) (pe_glA Like.refl pas_main (by rfl) (pa_cons (pe_int) (pa_cons (pe_int) (pa_cons (pe_int) (pa_cons (pe_int) (pa_cons (pe_int) (pa_cons (pe_int) (pa_cons (pe_int) (pa_cons (pe_int) (pa_cons (pv 11) pa_nil)))))))))))
    (pss_cons (ps_set (i := 14) sc_law.nd rfl (Or.inl rfl) (pe_opA Like.refl pas_main (pv 14) (pe_lst (pa_cons (pe_lam1 (T := TL a) TB_law rfl (tl_in_law rfl) (tl_one_law rfl) (lamS_by (by kernel_rfl)) rfl rfl) (pa_cons (pe_lam1 (T := TL a) TB_law rfl (tl_in_law rfl) (tl_one_law rfl) (lamS_by (by kernel_rfl)) rfl rfl) pa_nil)))))
    (pss_cons (ps_if (pt_not (pt_trA Like.refl pas_main (pe_glB pas_main (fun _ => rfl) (by rfl) (pa_cons (pv 14) (pa_cons (pe_tup (pa_cons (pe_str) (pa_cons (pe_int) pa_nil))) pa_nil))))) (pss_one (ps_ret (pe_bl))) pss_nil)
    (pss_cons (ps_set (i := 18) sc_law.nd rfl (Or.inr rfl) (pe_ixA Like.refl pas_main (pe_lst (pa_cons (pe_glA Like.refl pas_main (by rfl) (pa_cons (pe_opA Like.refl pas_main (pe_int) (pv 11)) (pa_cons (pe_opA Like.refl pas_main (pe_int) (pv 11)) (pa_cons (pv 11) (pa_cons (pe_opA Like.refl pas_main (pe_int) (pv 11)) pa_nil))))) (pa_cons (pe_glA Like.refl pas_main (by rfl) (pa_cons (pv 11) (pa_cons (pe_opA Like.refl pas_main (pe_opA Like.refl pas_main (pe_int) (pe_int)) (pv 11)) pa_nil))) pa_nil))) (pe_glA Like.refl pas_main (by rfl) (pa_cons (pv 1) (pa_cons (pe_int) pa_nil)))))
    (pss_cons (ps_set (i := 14) sc_law.nd rfl (Or.inl rfl) (pe_lst (pa_cons (pe_lam0 (T := TL a) TB_law rfl (tl_in_law rfl) (tl_one_law rfl) (lamS_by (by kernel_rfl)) rfl rfl) (pa_cons (pe_lam1 (T := TL a) TB_law rfl (tl_in_law rfl) (tl_one_law rfl) (lamS_by (by kernel_rfl)) rfl rfl) pa_nil))))
    (pss_cons (ps_if (pt_not (pt_trA Like.refl pas_main (pe_glB pas_main (fun _ => rfl) (by rfl) (pa_cons (pv 14) (pa_cons (pe_tup (pa_cons (pe_str) (pa_cons (pe_int) pa_nil))) pa_nil))))) (pss_one (ps_ret (pe_bl))) pss_nil)
    (pss_one (ps_ret (pe_and (pe_cmpA Like.refl pas_main (pe_glA Like.refl pas_main (by rfl) (pa_cons (pe_gl0 Like.refl pas_main (by rfl)) pa_nil)) (pe_lst pa_nil) (nomark _)) (pe_and (pe_cmpA Like.refl pas_main (pe_glA Like.refl pas_main (by rfl) (pa_cons (pe_glA Like.refl pas_main (by rfl) (pa_cons (pe_int) (pa_cons (pe_int) pa_nil))) pa_nil)) (pe_int) (nomark _)) (pe_one (pe_cmpA Like.refl pas_main (pe_glA Like.refl pas_main (by rfl) (pa_cons (pe_glA Like.refl pas_main (by rfl) (pa_cons (pe_int) pa_nil)) pa_nil)) (pe_lst pa_nil) (nomark _))))))))))))))))))))))))))), ?_⟩
    walk_at "go"
    refine s_fn GR (hr.mono (by decide)) ⟨sc, ns, 32, rfl, hsc, hlen, fun st H0 hst s0 W0 => ?_⟩
    have tab0 : Tabs (TL a) H0 := fun p hp => by
      simp [TL] at hp
      rw [hp]
      exact TabS.nil (s0 _ _ htab)
    walk_at "go"
    refine s_fn GB (hr.mono (by decide)) ⟨st, rfl, W0, fun cl ds H2 hcl sb2 W2 hC h2 h8 h0 hb => ?_⟩
    have tab2 := tabs_b tab0 sb2 W0.lst.choose_spec
    have ncl : ¬ cl = st := W0.ne hcl
    walk_at "go"
    refine s_fn GS (hr.mono (by decide)) ⟨cl, ds, rfl, hC, h2, h8, h0, hb, fun sh H3 hsh s3 shA => ?_⟩
    have W3 := W2.same s3
    have tab3 := tabs_same tab2 s3
    have hC3 := s3 _ _ hC
    walk_at "go"
    refine s_lenL (SqL.of hC3) ?_
    rw [List.length_map]
    walk_at "go"
    refine ⟨by show 0 ≤ sizeLine; decide, fun gl hgl => ?_⟩
    have s4 := same_new (o := .lst []) hgl
    have hG4 : (upd H3 gl (.lst [])) gl = some (.lst (([] : List Addr).map V.ref)) := upd_same
    have W4 := W3.same s4
    have ngl : ¬ gl = st := W3.ne hgl
    have ncg : cl ≠ gl := ne_of_none hC3 hgl
    have B4 : B32 a cl gl sh ds [] [] (upd H3 gl (.lst [])) := ⟨tabs_same tab3 s4, shA.same s4, s4 _ _ hC3, hG4, rfl, fun i p x z => by simp at z⟩
    generalize upd H3 gl (.lst []) = H4 at *
    walk_at "go"
    refine ⟨by show 3 ≤ sizeLine; decide, fun T0 hT0 => ?_⟩
    refine g_trip (SqT.of upd_same) ?_
    dsimp only [List.set]
    have s5 := same_new (o := .tup [.ref sh, .int (ds.length : Nat), .ref gl]) hT0
    have B5 := B4.same s5
    have W5 := W4.same s5
    generalize upd H4 T0 (.tup [.ref sh, .int (ds.length : Nat), .ref gl]) = H5 at *
    walk_at "go"
    refine w_forR ?_
    walk_at "go"
    refine s_fn GD (hr.mono (by decide)) ⟨st, 6, rfl, W5, by decide, by decide, fun v6 H6 v60 v61 sb6 W6 => ?_⟩
    obtain ⟨k6, rfl⟩ := Int.eq_ofNat_of_zero_le v60
    have B6 := B5.sb sb6 W5 ncl ngl
    walk_at "go"
    refine f_rng (n := k6) (fun k σ H' => DSt st H' ∧ ∃ (ps : List Addr) (xs : List Pay) (x6 x7 : Option V), σ = [some (.ref sc), some (.ref st), some (.ref cl), some (.ref sh), some (.int (ds.length : Nat)), some (.ref gl), x6, x7, none, none, none, none, none, none, none, none, none, none, none] ∧ B32 a cl gl sh ds ps xs H' ∧ xs.length = k ∧ ∀ x ∈ xs, PayOk ds.length x)
      (fun R k => k) (by omega) ⟨W6, [], [], none, none, rfl, B6, rfl, fun x z => by simp at z⟩ (fun k σ H7 hk pv => ?_) (fun σ H7 pv => ?_)
    · obtain ⟨W7, ps, xs, x6, x7, rfl, B7, hxk, hok⟩ := pv
      refine w_name ?_
      dsimp only [List.set]
      walk_at "go"
      refine s_fn GD (hr.mono (by decide)) ⟨st, ds.length, rfl, W7, by omega, by omega, fun g H8 g0 g1 sb8 W8 => ?_⟩
      obtain ⟨gn, rfl⟩ := Int.eq_ofNat_of_zero_le g0
      have B8 := B7.sb sb8 W7 ncl ngl
      walk_at "go"
      dsimp only [List.set]
      refine w_bm ?_
      walk_at "go"
      refine ⟨.inl ⟨rfl, _, SqL.of B8.2.2.2.1⟩, ?_⟩
      walk_at "go"
      refine s_fn GD (hr.mono (by decide)) ⟨st, (ds.length : Int) - 1, rfl, W8, by omega, by omega, fun v9 H9 v90 v91 sb9 W9 => ?_⟩
      have B9 := B8.sb sb9 W8 ncl ngl
      walk_at "go"
      refine s_pow ⟨by decide, by decide, by decide⟩ ?_
      walk_at "go"
      refine s_fn GD (hr.mono (by decide)) ⟨st, (10 : Int) ^ (15 : Int).toNat, rfl, W9, by decide, by decide, fun vA HA vA0 vA1 sbA WA => ?_⟩
      have BA := B9.sb sbA W9 ncl ngl
      walk_at "go"
      obtain ⟨t0, t1, t2⟩ := turn_ne (g := (gn : Int)) (d := 1 + v9) (n := (ds.length : Int)) (by omega) (by omega) (by omega) (by omega)
      rw [show (gn : Int) + (1 + v9) = (gn : Int) + 1 + v9 by omega] at t0 t1 t2
      generalize ((gn : Int) + 1 + v9) % (ds.length : Int) = tk at *
      obtain ⟨tn, rfl⟩ := Int.eq_ofNat_of_zero_le t0
      refine ⟨by show 3 ≤ sizeLine; decide, fun u hu => ?_⟩
      have sU := same_new (o := .tup [.int (gn : Nat), .int (tn : Nat), .int (1 + vA)]) hu
      have BU := BA.same sU
      have WU := WA.same sU
      have hU : (upd HA u (.tup [.int (gn : Nat), .int (tn : Nat), .int (1 + vA)])) u = some (.tup [.int (gn : Nat), .int (tn : Nat), .int (1 + vA)]) := upd_same
      generalize upd HA u (.tup [.int (gn : Nat), .int (tn : Nat), .int (1 + vA)]) = HU at *
      have hpx := BU.2.2.2.2
      refine ⟨gl, _, _, rfl, rfl, BU.2.2.2.1, by rw [List.length_map, hpx.1, hxk]; exact Nat.lt_of_lt_of_le (show k < 1000 by omega) (by decide), ?_⟩
      walk_at "go"
      refine ⟨WU.upd ngl, ps ++ [u], xs ++ [(gn, tn, 1 + vA)], _, _, rfl, ⟨tabs_l0 BU.1 BU.2.2.2.1, ?_, by rw [upd_ne ncg]; exact BU.2.2.1, by rw [upd_same, List.map_append]; rfl, ?_⟩, by rw [List.length_append, hxk]; rfl, fun x hx => ?_⟩
      · obtain ⟨dx, y, i1, i2⟩ := BU.2.1
        exact ⟨dx, y, upd_nl BU.2.2.2.1 i1 (by simp), upd_nl BU.2.2.2.1 i2 (by simp)⟩
      · exact (hpx.same fun q vs e => upd_nl BU.2.2.2.1 e (by simp)).app (PaysL.one (upd_nl BU.2.2.2.1 hU (by simp)))
      · rcases List.mem_append.1 hx with z | z
        · exact hok x z
        · rw [List.mem_singleton.1 z]
          refine ⟨?_, ?_, ?_, ?_, ?_⟩ <;> dsimp only <;> try omega
          have : (10 : Int) ^ (15 : Int).toNat = 1000000000000000 := by decide
          omega
    · obtain ⟨W7, ps, xs, x6, x7, rfl, B7, hxk, hok⟩ := pv
      dsimp only [List.set]
      walk_at "go"
      refine s_listOf (.inl (SqL.of B7.2.2.1)) fun d hd => ?_
      have s8 := same_new (o := .lst (ds.map V.int)) hd
      have B8 := B7.same s8
      have W8 := W7.same s8
      have ncd : cl ≠ d := ne_of_none B7.2.2.1 hd
      have ngd : gl ≠ d := ne_of_none B7.2.2.2.1 hd
      have nds : ¬ d = st := W7.ne hd
      have hD8 : (upd H7 d (.lst (ds.map V.int))) d = some (.lst (ds.map V.int)) := upd_same
      generalize upd H7 d (.lst (ds.map V.int)) = H8 at *
      walk_at "go"
      refine f_lst (a := gl) (xs := ps.map V.ref) (fun k σ H' => DSt st H' ∧ B32 a cl gl sh ds ps xs H' ∧ (∃ x7 x9 x10, σ = [some (.ref sc), some (.ref st), some (.ref cl), some (.ref sh), some (.int (ds.length : Nat)), some (.ref gl), x6, x7, some (.ref d), x9, x10, none, none, none, none, none, none, none, none]) ∧ H' d = some (.lst ((giveAll ds (xs.take k)).map V.int))) (fun R k => by walk_at "go"; exact k)
        ⟨W8, B8, ⟨_, _, _, rfl⟩, hD8⟩ (fun k σ H' _ pv => SqL.of pv.2.1.2.2.2.1) (fun k x σ H9 hx pv => ?_) (fun σ H9 pv => ?_)
      · obtain ⟨W9, B9, ⟨x7, x9, x10, rfl⟩, hD9⟩ := pv
        rw [List.getElem?_map] at hx
        cases er : ps[k]? with
        | none => rw [er] at hx; cases hx
        | some r =>
          rw [er] at hx
          cases hx
          obtain ⟨kl, _⟩ := List.getElem?_eq_some_iff.1 er
          obtain ⟨y, ey⟩ : ∃ y, xs[k]? = some y := ⟨_, List.getElem?_eq_getElem (by rw [← B9.2.2.2.2.1]; exact kl)⟩
          have hy := hok y (List.mem_of_getElem? ey)
          have gl9 := giveAll_len (xs.take k) ds
          generalize hcur : giveAll ds (xs.take k) = cur at *
          refine g_trip (SqT.of (B9.2.2.2.2.2 k r y er ey)) ?_
          dsimp only [List.set]
          walk_at "go"
          have L0 : y.1 < cur.length := by rw [gl9]; exact hy.1
          have L1 : y.2.1 < cur.length := by rw [gl9]; exact hy.2.1
          refine s_ixL (SqL.of hD9) (v := .int (cur.getD y.1 0)) (at_of (j := y.1) rfl (mapGet L0)) ?_
          walk_at "go"
          refine w_gsub ?_
          walk_at "go"
          refine s_setL hD9 (ixN_ofG (Int.natCast_nonneg _) (by rw [List.length_map]; omega)) ?_
          rw [Int.toNat_natCast, ← List.map_set]
          have BX := B9.upd (l' := (cur.set y.1 (cur.getD y.1 0 + y.2.2)).map V.int) hD9 ncd ngd
          have WX := W9.upd (o := .lst ((cur.set y.1 (cur.getD y.1 0 + y.2.2)).map V.int)) nds
          have hDX : (upd H9 d (.lst ((cur.set y.1 (cur.getD y.1 0 + y.2.2)).map V.int))) d = some (.lst ((cur.set y.1 (cur.getD y.1 0 + y.2.2)).map V.int)) := upd_same
          generalize upd H9 d (.lst ((cur.set y.1 (cur.getD y.1 0 + y.2.2)).map V.int)) = HX at *
          walk_at "go"
          refine s_ixL (SqL.of hDX) (v := .int ((cur.set y.1 (cur.getD y.1 0 + y.2.2)).getD y.2.1 0)) (at_of (j := y.2.1) rfl (mapGet (by rw [List.length_set]; exact L1))) ?_
          walk_at "go"
          refine w_gsub ?_
          walk_at "go"
          refine s_setL hDX (ixN_ofG (Int.natCast_nonneg _) (by rw [List.length_map, List.length_set]; omega)) ?_
          walk_at "go"
          rw [Int.toNat_natCast, ← List.map_set]
          refine ⟨WX.upd nds, BX.upd hDX ncd ngd, ⟨_, _, _, rfl⟩, ?_⟩
          rw [upd_same, List.take_add_one, ey]
          show _ = some (HO.lst ((giveAll ds (xs.take k ++ [y])).map V.int))
          rw [giveAll_snoc, hcur]
          rfl
      · obtain ⟨W9, B9, ⟨x7, x9, x10, rfl⟩, hD9⟩ := pv
        rw [List.length_map, B9.2.2.2.2.1, List.take_of_length_le (Nat.le_refl _)] at hD9
        walk_at "go"
        refine s_fn GA (hr.mono (by decide)) ⟨sh, gl, ds, ps, xs, rfl, B9.2.1, B9.2.2.2.1, B9.2.2.2.2, h8, by omega, hok, fun r HA hrA sA shR => ?_⟩
        have BA := B9.same sA
        have WA := W9.same sA
        have hDA := sA _ _ hD9
        have gln := giveAll_len xs ds
        obtain ⟨dxr, tr, r1, r2⟩ := id shR
        walk_at "go"
        refine s_prop T.cl_Shares T.pr_Shares_cents GC (hr.mono (by decide)) r1 ⟨r, dxr, tr, rfl, r1, ?_⟩
        walk_at "go"
        refine s_tupleL (SqL.of hDA) fun t4 ht4 => ?_
        have s4 := same_new (o := .tup ((giveAll ds xs).map V.int)) ht4
        walk_at "go"
        refine s_fn GE (hr.mono (by decide)) ⟨_, _, .tuple ((giveAll ds xs).map PyData.int), .tuple ((giveAll ds xs).map PyData.int), rfl, .tup (SqT.of (s4 _ _ r2)) (dp_ints _), .tup (SqT.of upd_same) (dp_ints _), okI_tup (by omega), okI_tup (by omega), fun bB HB sB hbB => ?_⟩
        obtain rfl : bB = true := hbB.2 rfl
        have BB := BA.same (s4.trans sB)
        have WB := WA.same (s4.trans sB)
        walk_at "go"
        obtain ⟨dxs, ts, z1, z2⟩ := id BB.2.1
        refine s_prop T.cl_Shares T.pr_Shares_cents GC (hr.mono (by decide)) z1 ⟨sh, dxs, ts, rfl, z1, ?_⟩
        walk_at "go"
        refine s_tupleL (SqL.of BB.2.2.1) fun t5 ht5 => ?_
        have s5 := same_new (o := .tup (ds.map V.int)) ht5
        walk_at "go"
        refine s_neTups hr' (SqT.of (s5 _ _ z2)) (SqT.of upd_same) ?_
        rw [decide_eq_true rfl]
        have BC := BB.same s5
        have WC := WB.same s5
        generalize upd HB t5 (.tup (ds.map V.int)) = HC at *
        walk_at "go"
        -- far
        refine s_fn GD (hr.mono (by decide)) ⟨st, 2, rfl, WC, by decide, by decide, fun v1 HD v10 v11 sbD WD => ?_⟩
        have BD := BC.sb sbD WC ncl ngl
        walk_at "go"
        refine s_fn GD (hr.mono (by decide)) ⟨st, 99, rfl, WD, by decide, by decide, fun v2 HE v20 v21 sbE WE => ?_⟩
        have BE := BD.sb sbE WD ncl ngl
        walk_at "go"
        obtain ⟨far, efar, far0, far9⟩ : ∃ f : Int, v1 * v2 = f ∧ 0 ≤ f ∧ f ≤ 98 := by
          have : v1 = 0 ∨ v1 = 1 := by omega
          rcases this with z | z
          · exact ⟨0, by rw [z, Int.zero_mul], by decide, by decide⟩
          · exact ⟨v2, by rw [z, Int.one_mul], v20, by omega⟩
        refine s_mul (.inr ⟨by omega, by omega⟩) ?_
        rw [efar]
        walk_at "go"
        dsimp only [List.set]
        walk_at "go"
        refine ⟨by show 2 ≤ sizeLine; decide, fun q1 hq1 => ?_⟩
        have sF := same_new (o := .lst [.int (0 - 1 - far), .int ((ds.length : Nat) + far)]) hq1
        have BF := BE.same sF
        have WF := WE.same sF
        have nq1 : ¬ q1 = st := WE.ne hq1
        have hQ1 : (upd HE q1 (.lst [.int (0 - 1 - far), .int ((ds.length : Nat) + far)])) q1 = some (.lst [.int (0 - 1 - far), .int ((ds.length : Nat) + far)]) := upd_same
        generalize upd HE q1 (.lst [.int (0 - 1 - far), .int ((ds.length : Nat) + far)]) = HF at *
        walk_at "go"
        refine s_fn GD (hr.mono (by decide)) ⟨st, 2, rfl, WF, by decide, by decide, fun v3 HG v30 v31 sbG WG => ?_⟩
        have BG := BF.sb sbG WF ncl ngl
        obtain ⟨seat, eseat, hseat⟩ : ∃ z : Int, atI [V.int (0 - 1 - far), V.int ((ds.length : Nat) + far)] v3 = some (.int z) ∧ ¬ (0 ≤ z ∧ z < (ds.length : Int)) := by
          have : v3 = 0 ∨ v3 = 1 := by omega
          rcases this with z | z
          · rw [z]; exact ⟨_, rfl, by omega⟩
          · rw [z]; exact ⟨_, rfl, by omega⟩
        walk_at "go"
        refine s_ixL (SqL.of (sbG _ _ nq1 hQ1)) eseat ?_
        walk_at "go"
        refine s_pow ⟨by decide, by decide, by decide⟩ ?_
        walk_at "go"
        refine ⟨by show 2 ≤ sizeLine; decide, fun q2 hq2 => ?_⟩
        have sI := same_new (o := .lst [.int (0 - far), .int ((10 : Int) ^ (15 : Int).toNat + 1 + far)]) hq2
        have BI := BG.same sI
        have WI := WG.same sI
        have nq2 : ¬ q2 = st := WG.ne hq2
        have hQ2 : (upd HG q2 (.lst [.int (0 - far), .int ((10 : Int) ^ (15 : Int).toNat + 1 + far)])) q2 = some (.lst [.int (0 - far), .int ((10 : Int) ^ (15 : Int).toNat + 1 + far)]) := upd_same
        generalize upd HG q2 (.lst [.int (0 - far), .int ((10 : Int) ^ (15 : Int).toNat + 1 + far)]) = HI at *
        walk_at "go"
        refine s_fn GD (hr.mono (by decide)) ⟨st, 2, rfl, WI, by decide, by decide, fun v4 HJ v40 v41 sbJ WJ => ?_⟩
        have BJ := BI.sb sbJ WI ncl ngl
        obtain ⟨wrong, ewrong, hwrong⟩ : ∃ z : Int, atI [V.int (0 - far), V.int ((10 : Int) ^ (15 : Int).toNat + 1 + far)] v4 = some (.int z) ∧ ¬ (1 ≤ z ∧ z ≤ 10 ^ 15) := by
          have e15' : (10 : Int) ^ (15 : Int).toNat = 1000000000000000 := by decide
          have : v4 = 0 ∨ v4 = 1 := by omega
          rcases this with z | z
          · rw [z]; exact ⟨_, rfl, by omega⟩
          · rw [z]; exact ⟨_, rfl, by omega⟩
        walk_at "go"
        refine s_ixL (SqL.of (sbJ _ _ nq2 hQ2)) ewrong ?_
        walk_at "go"
        refine ⟨by show 2 ≤ sizeLine; decide, fun T3 hT3 => ?_⟩
        refine g_pair (SqT.of upd_same) ?_
        dsimp only [List.set]
        have sK := same_new (o := .tup [.int seat, .int wrong]) hT3
        have BK := BJ.same sK
        have WK := WJ.same sK
        generalize upd HJ T3 (.tup [.int seat, .int wrong]) = HK at *
        walk_at "go"
        refine ⟨BK.1, fun f0 c0 HL EL nL tabL _ hf0 hc0 => ?_⟩
        have BL := BK.ext EL tabL
        have WL := WK.ext0 EL
        walk_at "go"
        refine ⟨by show 1 ≤ sizeLine; decide, fun wl hwl => ?_⟩
        have sM := same_new (o := .lst [.ref f0]) hwl
        have BM := BL.same sM
        have WM := WL.same sM
        have hf0 := sM _ _ hf0
        have hc0 := sM _ _ hc0
        have hWl : (upd HL wl (.lst [.ref f0])) wl = some (.lst [.ref f0]) := upd_same
        have nwc : cl ≠ wl := ne_of_none BL.2.2.1 hwl
        have nwg : gl ≠ wl := ne_of_none BL.2.2.2.1 hwl
        have nws : ¬ wl = st := WL.ne hwl
        generalize upd HL wl (.lst [.ref f0]) = HM at *
        walk_at "go"
        dsimp only [List.set]
        walk_at "go"
        refine w_bm ?_
        walk_at "go"
        refine ⟨.inl ⟨rfl, _, SqL.of hWl⟩, ?_⟩
        walk_at "go"
        refine ⟨BM.1, fun f1 c1 d1 HN EN nN tabN _ hf1 hc1 hd1 => ?_⟩
        walk_at "go"
        have BN := BM.ext EN tabN
        have WN := WM.ext0 EN
        have hWn := EN _ _ hWl (by simp)
        refine ⟨wl, _, _, rfl, rfl, hWn, by show 1 < sizeLine; decide, ?_⟩
        have BO := BN.upd (l' := [.ref f0] ++ [.ref f1]) hWn nwc nwg
        have WO := WN.upd (o := .lst ([.ref f0] ++ [.ref f1])) nws
        have hWo : (upd HN wl (.lst ([.ref f0] ++ [.ref f1]))) wl = some (.lst ([f0, f1].map V.ref)) := upd_same
        have hf0 := upd_nl (l' := [.ref f0] ++ [.ref f1]) hWn (EN _ _ hf0 lamO_ne) fun l => lo_nl l
        have hc0 := upd_nl (l' := [.ref f0] ++ [.ref f1]) hWn (EN _ _ hc0 codeO_ne) fun l => co_nl l
        have hf1 := upd_nl (l' := [.ref f0] ++ [.ref f1]) hWn hf1 fun l => lo_nl l
        have hc1 := upd_nl (l' := [.ref f0] ++ [.ref f1]) hWn hc1 fun l => co_nl l
        have hd1 := upd_nl (l' := [.ref f0] ++ [.ref f1]) hWn hd1 (by simp)
        generalize upd HN wl (.lst ([.ref f0] ++ [.ref f1])) = HO at *
        walk_at "go"
        refine ⟨a.f__law_all_raise, T.g__law_all_raise, Fun.kp T.u__law_all_raise.choose_spec, ?_⟩
        walk_at "go"
        refine ⟨by show 2 ≤ sizeLine; decide, fun tt htt => ?_⟩
        have sP := same_new (o := .tup [.str "seat", .int 0]) htt
        have BP := BO.same sP
        have WP := WO.same sP
        have hf0 := sP _ _ hf0
        have hc0 := sP _ _ hc0
        have hf1 := sP _ _ hf1
        have hc1 := sP _ _ hc1
        have hd1 := sP _ _ hd1
        have hWp := sP _ _ hWo
        have htt' : (upd HO tt (.tup [.str "seat", .int 0])) tt = some (.tup [.str "seat", .int 0]) := upd_same
        generalize upd HO tt (.tup [.str "seat", .int 0]) = HP at *
        refine fun B hB => ⟨12, spAllRaise P w K mg B a, ok_all_raise T, hr.mono (by decide), wl, tt, [f0, f1], a.c_UnknownSeat, 4, rfl, hWp, by show 2 ≤ 1000; decide, htt', by decide, by decide, T.ek_UnknownSeat, fun f hf => ?_, fun HQ sQ => ?_⟩
        · have GX : FnR P w K mg B (L2.CX P w) 4 a.f_balance_after (spBalX a) := ok_balance_afterX T
          rcases List.mem_cons.1 hf with e | e
          · rw [e]
            refine fun H' sH => ⟨_, _, _, sH _ _ hf0, fun R => ?_⟩
            have B' := BP.same sH
            refine lam_go (k := 9) ["_law_balance_here", "_law_given", "_law_seat"] [] ["_law_balance_here", "_law_given", "_law_seat"] [3, 5, 12] [some (.ref sh), some (.ref gl), some (.int seat)] hB (by kernel_rfl) (by kernel_rfl) (sH _ _ hf0) (sH _ _ hc0) rfl rfl (fun s doc pm ctv _ => lam_bind0 rfl) (fun A2 outer2 s3 hr3 => ⟨_, (pe_glA Like.refl pas_lam (by rfl) (pa_cons (pv 0) (pa_cons (pe_opA Like.refl pas_lam (pv 1) (pe_lst (pa_cons (pe_tup (pa_cons (pv 2) (pa_cons (pe_int) (pa_cons (pe_int) pa_nil)))) pa_nil))) pa_nil))), ?_⟩)
            walk_at "go"
            refine ⟨by show 3 ≤ sizeLine; decide, fun u hu => ?_⟩
            walk_at "go"
            refine ⟨by show 1 ≤ sizeLine; decide, fun l2 hl2 => ?_⟩
            walk_at "go"
            have k1 := same_new (o := .tup [.int seat, .int 0, .int 0]) hu
            have k2 := same_new (o := .lst [.ref u]) hl2
            have k12 := k1.trans k2
            have B2 := B'.same k12
            refine s_cat B2.2.2.2.1 upd_same (by rw [List.length_map, B2.2.2.2.2.1, hxk]; exact Nat.le_trans (show k6 + 1 ≤ 1000 by omega) (by decide)) fun g2 hg2 => ?_
            have k3 := same_new (o := .lst (ps.map V.ref ++ [.ref u])) hg2
            walk_at "go"
            exact s_fn GX (hr3.mono (by decide)) ⟨sh, g2, u, ds, ps, xs, seat, 0, 0, true, [], rfl, B2.2.1.same k3, upd_same, B2.2.2.2.2.same fun q vs e => k3 _ _ e, k3 _ _ (k2 _ _ upd_same), h8, by show xs.length + 0 ≤ 1000; omega, hok, by unfold payErr; rw [if_pos hseat], fun H2 s2 => ⟨rfl, rfl, (k12.trans k3).trans s2⟩⟩
          · rw [List.mem_singleton.1 e]
            refine fun H' sH => ⟨_, _, _, sH _ _ hf1, fun R => ?_⟩
            have B' := BP.same sH
            refine lam_go (k := 9) (vs := [.int 0]) ["_law_a", "_law_balance_here", "_law_given", "_law_seat"] ["_law_a"] ["_law_balance_here", "_law_given", "_law_seat"] [3, 5, 12] [some (.ref sh), some (.ref gl), some (.int seat)] hB (by kernel_rfl) (by kernel_rfl) (sH _ _ hf1) (sH _ _ hc1) rfl rfl (fun s4 doc pm ctv hok => lam_bind1 hok (sH _ _ hd1) rfl (fun _ => rfl)) (fun A2 outer2 s3 hr3 => ⟨_, (pe_glA Like.refl pas_lam (by rfl) (pa_cons (pv 1) (pa_cons (pe_opA Like.refl pas_lam (pv 2) (pe_lst (pa_cons (pe_tup (pa_cons (pe_int) (pa_cons (pv 3) (pa_cons (pe_int) pa_nil)))) pa_nil))) pa_nil))), ?_⟩)
            walk_at "go"
            refine ⟨by show 3 ≤ sizeLine; decide, fun u hu => ?_⟩
            walk_at "go"
            refine ⟨by show 1 ≤ sizeLine; decide, fun l2 hl2 => ?_⟩
            walk_at "go"
            have k1 := same_new (o := .tup [.int 0, .int seat, .int 0]) hu
            have k2 := same_new (o := .lst [.ref u]) hl2
            have k12 := k1.trans k2
            have B2 := B'.same k12
            refine s_cat B2.2.2.2.1 upd_same (by rw [List.length_map, B2.2.2.2.2.1, hxk]; exact Nat.le_trans (show k6 + 1 ≤ 1000 by omega) (by decide)) fun g2 hg2 => ?_
            have k3 := same_new (o := .lst (ps.map V.ref ++ [.ref u])) hg2
            walk_at "go"
            exact s_fn GX (hr3.mono (by decide)) ⟨sh, g2, u, ds, ps, xs, 0, seat, 0, true, [], rfl, B2.2.1.same k3, upd_same, B2.2.2.2.2.same fun q vs e => k3 _ _ e, k3 _ _ (k2 _ _ upd_same), h8, by show xs.length + 0 ≤ 1000; omega, hok, by unfold payErr; rw [if_neg (by omega), if_pos hseat], fun H2 s2 => ⟨rfl, rfl, (k12.trans k3).trans s2⟩⟩
        have BQ := BP.same sQ
        have WQ := WP.same sQ
        walk_at "go"
        -- more, same
        refine ⟨by show 3 ≤ sizeLine; decide, fun u1 hu1 => ?_⟩
        walk_at "go"
        refine ⟨by show 3 ≤ sizeLine; decide, fun u2 hu2 => ?_⟩
        walk_at "go"
        refine ⟨by show 2 ≤ sizeLine; decide, fun l1 hl1 => ?_⟩
        have m1 := same_new (o := .tup [.int 0, .int 1, .int wrong]) hu1
        have m2 := same_new (o := .tup [.int seat, .int 0, .int 0]) hu2
        have m3 := same_new (o := .lst [.ref u1, .ref u2]) hl1
        have m13 := (m1.trans m2).trans m3
        have BR := BQ.same m13
        have WR := WQ.same m13
        have tu1 := m3 _ _ (m2 _ _ (upd_same (H := HQ) (a := u1) (o := .tup [.int 0, .int 1, .int wrong])))
        have ll1 : (upd (upd (upd HQ u1 (.tup [.int 0, .int 1, .int wrong])) u2 (.tup [.int seat, .int 0, .int 0])) l1 (.lst [.ref u1, .ref u2])) l1 = some (.lst [.ref u1, .ref u2]) := upd_same
        generalize upd (upd (upd HQ u1 (.tup [.int 0, .int 1, .int wrong])) u2 (.tup [.int seat, .int 0, .int 0])) l1 (.lst [.ref u1, .ref u2]) = HR at *
        have hplen : ps.length ≤ 5 := by rw [BR.2.2.2.2.1, hxk]; omega
        refine s_cat BR.2.2.2.1 ll1 (by rw [List.length_map]; exact Nat.le_trans (show ps.length + 2 ≤ 1000 by omega) (by decide)) fun mo hmo => ?_
        have m4 := same_new (o := .lst (ps.map V.ref ++ [.ref u1, .ref u2])) hmo
        have BS := BR.same m4
        have WS := WR.same m4
        have tu1 := m4 _ _ tu1
        have lmo : (upd HR mo (.lst (ps.map V.ref ++ [.ref u1, .ref u2]))) mo = some (.lst (ps.map V.ref ++ [.ref u1, .ref u2])) := upd_same
        generalize upd HR mo (.lst (ps.map V.ref ++ [.ref u1, .ref u2])) = HS at *
        walk_at "go"
        refine ⟨by show 3 ≤ sizeLine; decide, fun u3 hu3 => ?_⟩
        have m5 := same_new (o := .tup [.int 1, .int 1, .int 5]) hu3
        walk_at "go"
        refine ⟨by show 1 ≤ sizeLine; decide, fun l3 hl3 => ?_⟩
        have m6 := same_new (o := .lst [.ref u3]) hl3
        have m56 := m5.trans m6
        have BT := BS.same m56
        have WT := WS.same m56
        have tu1 := m56 _ _ tu1
        have lmo := m56 _ _ lmo
        have tu3 := m6 _ _ (upd_same (H := HS) (a := u3) (o := .tup [.int 1, .int 1, .int 5]))
        have ll3 : (upd (upd HS u3 (.tup [.int 1, .int 1, .int 5])) l3 (.lst [.ref u3])) l3 = some (.lst [.ref u3]) := upd_same
        generalize upd (upd HS u3 (.tup [.int 1, .int 1, .int 5])) l3 (.lst [.ref u3]) = HT at *
        refine s_cat BT.2.2.2.1 ll3 (by rw [List.length_map]; exact Nat.le_trans (show ps.length + 1 ≤ 1000 by omega) (by decide)) fun sm hsm => ?_
        have m7 := same_new (o := .lst (ps.map V.ref ++ [.ref u3])) hsm
        walk_at "go"
        refine ⟨by show 2 ≤ sizeLine; decide, fun T5 hT5 => ?_⟩
        refine g_pair (SqT.of upd_same) ?_
        dsimp only [List.set]
        have m8 := same_new (o := .tup [.ref mo, .ref sm]) hT5
        have m78 := m7.trans m8
        have BU := BT.same m78
        have WU := WT.same m78
        have tu1 := m78 _ _ tu1
        have lmo := m78 _ _ lmo
        have tu3 := m78 _ _ tu3
        have lsm := m8 _ _ (upd_same (H := HT) (a := sm) (o := .lst (ps.map V.ref ++ [.ref u3])))
        generalize upd (upd HT sm (.lst (ps.map V.ref ++ [.ref u3]))) T5 (.tup [.ref mo, .ref sm]) = HU at *
        walk_at "go"
        refine ⟨BU.1, fun f2 c2 HV EV nV tabV _ hf2 hc2 => ?_⟩
        walk_at "go"
        refine ⟨tabV, fun f3 c3 d3 HW EW nW tabW _ hf3 hc3 hd3 => ?_⟩
        walk_at "go"
        refine ⟨by show 2 ≤ sizeLine; decide, fun w2 hw2 => ?_⟩
        have EVW := EV.trans EW
        have m9 := same_new (o := .lst [.ref f2, .ref f3]) hw2
        have BX := (BU.ext EVW tabW).same m9
        have WX := (WU.ext0 EVW).same m9
        have tu1 := m9 _ _ (ExtN.o EVW tu1 (by simp))
        have lmo := m9 _ _ (ExtN.o EVW lmo (by simp))
        have tu3 := m9 _ _ (ExtN.o EVW tu3 (by simp))
        have lsm := m9 _ _ (ExtN.o EVW lsm (by simp))
        have hf2 := m9 _ _ (EW _ _ hf2 lamO_ne)
        have hc2 := m9 _ _ (EW _ _ hc2 codeO_ne)
        have hf3 := m9 _ _ hf3
        have hc3 := m9 _ _ hc3
        have hd3 := m9 _ _ hd3
        have hw2' : (upd HW w2 (.lst [.ref f2, .ref f3])) w2 = some (.lst [.ref f2, .ref f3]) := upd_same
        generalize upd HW w2 (.lst [.ref f2, .ref f3]) = HX at *
        walk_at "go"
        dsimp only [List.set]
        walk_at "go"
        refine s_shares (cs := [1, 2, 3, 4, 5, 6, 7, 8, far]) T GI (hr.mono (by decide)) (by show 9 ≤ 100000; decide) fun ni HY hni sY shN => ?_
        have BY := BX.same sY
        have WY := WX.same sY
        have tu1 := sY _ _ tu1
        have lmo := sY _ _ lmo
        have tu3 := sY _ _ tu3
        have lsm := sY _ _ lsm
        have hf2 := sY _ _ hf2
        have hc2 := sY _ _ hc2
        have hf3 := sY _ _ hf3
        have hc3 := sY _ _ hc3
        have hd3 := sY _ _ hd3
        have hw2' := sY _ _ hw2'
        walk_at "go"
        dsimp only [List.set]
        walk_at "go"
        refine ⟨BY.1, fun f4 c4 d4 HZ EZ nZ tabZ _ hf4 hc4 hd4 => ?_⟩
        walk_at "go"
        refine ⟨tabZ, fun f5 c5 d5 IA EA nA tabA _ hf5 hc5 hd5 => ?_⟩
        walk_at "go"
        refine ⟨by show 2 ≤ sizeLine; decide, fun w3 hw3 => ?_⟩
        have EZA := EZ.trans EA
        have m10 := same_new (o := .lst [.ref f4, .ref f5]) hw3
        have BA2 := (BY.ext EZA tabA).same m10
        have WA2 := (WY.ext0 EZA).same m10
        have shN : ShAt a.c_Shares (upd IA w3 (.lst [.ref f4, .ref f5])) ni [1, 2, 3, 4, 5, 6, 7, 8, far] := by
          obtain ⟨dx, u, i1, i2⟩ := shN
          exact ⟨dx, u, m10 _ _ (ExtN.o EZA i1 (by simp)), m10 _ _ (ExtN.o EZA i2 (by simp))⟩
        have tu1 := m10 _ _ (ExtN.o EZA tu1 (by simp))
        have lmo := m10 _ _ (ExtN.o EZA lmo (by simp))
        have tu3 := m10 _ _ (ExtN.o EZA tu3 (by simp))
        have lsm := m10 _ _ (ExtN.o EZA lsm (by simp))
        have hf2 := m10 _ _ (EZA _ _ hf2 lamO_ne)
        have hc2 := m10 _ _ (EZA _ _ hc2 codeO_ne)
        have hf3 := m10 _ _ (EZA _ _ hf3 lamO_ne)
        have hc3 := m10 _ _ (EZA _ _ hc3 codeO_ne)
        have hd3 := m10 _ _ (ExtN.o EZA hd3 (by simp))
        have hf4 := m10 _ _ (EA _ _ hf4 lamO_ne)
        have hc4 := m10 _ _ (EA _ _ hc4 codeO_ne)
        have hd4 := m10 _ _ (ExtN.o EA hd4 (by simp))
        have hf5 := m10 _ _ hf5
        have hc5 := m10 _ _ hc5
        have hd5 := m10 _ _ hd5
        have hw2' := m10 _ _ (ExtN.o EZA hw2' (by simp))
        have hw3' : (upd IA w3 (.lst [.ref f4, .ref f5])) w3 = some (.lst [.ref f4, .ref f5]) := upd_same
        generalize upd IA w3 (.lst [.ref f4, .ref f5]) = IB at *
        refine s_cat hw2' hw3' (by show 4 ≤ sizeLine; decide) fun w4 hw4 => ?_
        have m11 := same_new (o := .lst ([f2, f3, f4, f5].map V.ref)) hw4
        have hw4' : (upd IB w4 (.lst ([f2, f3, f4, f5].map V.ref))) w4 = some (.lst ([f2, f3, f4, f5].map V.ref)) := upd_same
        show gName 14 (.ref w4) _ (upd IB w4 (.lst ([f2, f3, f4, f5].map V.ref))) _
        generalize eIC : upd IB w4 (.lst ([f2, f3, f4, f5].map V.ref)) = IC at *
        walk_at "go"
        dsimp only [List.set]
        walk_at "go"
        refine ⟨a.f__law_all_raise, T.g__law_all_raise, Fun.kp T.u__law_all_raise.choose_spec, ?_⟩
        walk_at "go"
        refine ⟨by show 2 ≤ sizeLine; decide, fun t2 ht2 => ?_⟩
        have m12 := m11.trans (same_new (o := .tup [.str "number", .int 0]) ht2)
        have BD2 := BA2.same m12
        have WD2 := WA2.same m12
        have shN := shN.same m12
        have tu1 := m12 _ _ tu1
        have lmo := m12 _ _ lmo
        have tu3 := m12 _ _ tu3
        have lsm := m12 _ _ lsm
        have hf2 := m12 _ _ hf2
        have hc2 := m12 _ _ hc2
        have hf3 := m12 _ _ hf3
        have hc3 := m12 _ _ hc3
        have hd3 := m12 _ _ hd3
        have hf4 := m12 _ _ hf4
        have hc4 := m12 _ _ hc4
        have hd4 := m12 _ _ hd4
        have hf5 := m12 _ _ hf5
        have hc5 := m12 _ _ hc5
        have hd5 := m12 _ _ hd5
        have hw5 := (same_new (o := .tup [.str "number", .int 0]) ht2) _ _ hw4'
        have ht2' : (upd IC t2 (.tup [.str "number", .int 0])) t2 = some (.tup [.str "number", .int 0]) := upd_same
        generalize upd IC t2 (.tup [.str "number", .int 0]) = ID at *
        refine fun B hB => ⟨12, spAllRaise P w K mg B a, ok_all_raise T, hr.mono (by decide), w4, t2, [f2, f3, f4, f5], a.c_InvalidNumber, 5, rfl, hw5, by show 4 ≤ 1000; decide, ht2', by decide, by decide, T.ek_InvalidNumber, fun f hf => ?_, fun IE sE => ?_⟩
        · have GX : FnR P w K mg B (L2.CX P w) 4 a.f_balance_after (spBalX a) := ok_balance_afterX T
          have GPX : FnR P w K mg B (L2.CX P w) 4 a.f_payments (spCkBalX a) := ok_paymentsX T
          have GFX : FnR P w K mg B (L2.CX P w) 5 a.f_fewest_payments (spCkBalX a) := ok_fewestX T
          rcases List.mem_cons.1 hf with e | hf
          · rw [e]
            refine fun H' sH => ⟨_, _, _, sH _ _ hf2, fun R => ?_⟩
            have B' := BD2.same sH
            refine lam_go (k := 9) ["_law_balance_here", "_law_more"] [] ["_law_balance_here", "_law_more"] [3, 15] [some (.ref sh), some (.ref mo)] hB (by kernel_rfl) (by kernel_rfl) (sH _ _ hf2) (sH _ _ hc2) rfl rfl (fun s doc pm ctv _ => lam_bind0 rfl) (fun A2 outer2 s3 hr3 => ⟨_, (pe_glA Like.refl pas_lam (by rfl) (pa_cons (pv 0) (pa_cons (pv 1) pa_nil))), ?_⟩)
            walk_at "go"
            exact s_fn GX (hr3.mono (by decide)) ⟨sh, mo, u1, ds, ps, xs, 0, 1, wrong, false, [.ref u2], rfl, B'.2.1, sH _ _ lmo, B'.2.2.2.2, sH _ _ tu1, h8, by show xs.length + 1 ≤ 1000; omega, hok, by unfold payErr; rw [if_neg (by omega), if_neg (by omega), if_neg (by omega), if_pos hwrong], fun H2 s2 => ⟨rfl, rfl, s2⟩⟩
          rcases List.mem_cons.1 hf with e | hf
          · rw [e]
            refine fun H' sH => ⟨_, _, _, sH _ _ hf3, fun R => ?_⟩
            have B' := BD2.same sH
            refine lam_go (k := 9) (vs := [.int 0]) ["_law_a", "_law_balance_here", "_law_same"] ["_law_a"] ["_law_balance_here", "_law_same"] [3, 16] [some (.ref sh), some (.ref sm)] hB (by kernel_rfl) (by kernel_rfl) (sH _ _ hf3) (sH _ _ hc3) rfl rfl (fun s4 doc pm ctv hok => lam_bind1 hok (sH _ _ hd3) rfl (fun _ => rfl)) (fun A2 outer2 s3 hr3 => ⟨_, (pe_glA Like.refl pas_lam (by rfl) (pa_cons (pv 1) (pa_cons (pv 2) pa_nil))), ?_⟩)
            walk_at "go"
            exact s_fn GX (hr3.mono (by decide)) ⟨sh, sm, u3, ds, ps, xs, 1, 1, 5, false, [], rfl, B'.2.1, sH _ _ lsm, B'.2.2.2.2, sH _ _ tu3, h8, by show xs.length + 0 ≤ 1000; omega, hok, by unfold payErr; rw [if_neg (by omega), if_neg (by omega), if_pos rfl], fun H2 s2 => ⟨rfl, rfl, s2⟩⟩
          rcases List.mem_cons.1 hf with e | hf
          · rw [e]
            refine fun H' sH => ⟨_, _, _, sH _ _ hf4, fun R => ?_⟩
            refine lam_go (k := 9) (vs := [.int 0]) ["_law_b", "_law_nine"] ["_law_b"] ["_law_nine"] [17] [some (.ref ni)] hB (by kernel_rfl) (by kernel_rfl) (sH _ _ hf4) (sH _ _ hc4) rfl rfl (fun s4 doc pm ctv hok => lam_bind1 hok (sH _ _ hd4) rfl (fun _ => rfl)) (fun A2 outer2 s3 hr3 => ⟨_, (pe_glA Like.refl pas_lam (by rfl) (pa_cons (pv 1) pa_nil)), ?_⟩)
            walk_at "go"
            exact s_fn GPX (hr3.mono (by decide)) ⟨ni, [1, 2, 3, 4, 5, 6, 7, 8, far], false, rfl, shN.same sH, by show 9 ≤ 100; decide, by show 8 < 9; decide, rfl, rfl, Same.refl _⟩
          · rw [List.mem_singleton.1 hf]
            refine fun H' sH => ⟨_, _, _, sH _ _ hf5, fun R => ?_⟩
            refine lam_go (k := 9) (vs := [.int 0]) ["_law_c", "_law_nine"] ["_law_c"] ["_law_nine"] [17] [some (.ref ni)] hB (by kernel_rfl) (by kernel_rfl) (sH _ _ hf5) (sH _ _ hc5) rfl rfl (fun s4 doc pm ctv hok => lam_bind1 hok (sH _ _ hd5) rfl (fun _ => rfl)) (fun A2 outer2 s3 hr3 => ⟨_, (pe_glA Like.refl pas_lam (by rfl) (pa_cons (pv 1) pa_nil)), ?_⟩)
            walk_at "go"
            exact s_fn GFX (hr3.mono (by decide)) ⟨ni, [1, 2, 3, 4, 5, 6, 7, 8, far], false, rfl, shN.same sH, by show 9 ≤ 100; decide, by show 8 < 9; decide, rfl, rfl, Same.refl _⟩
        have BE2 := BD2.same sE
        have WE2 := WD2.same sE
        walk_at "go"
        refine s_shares (cs := [1 + far, 0 - far, far, 0 - far]) T GI (hr.mono (by decide)) (by show 4 ≤ 100000; decide) fun o1 IF ho1 sF1 sh1 => ?_
        walk_at "go"
        refine s_shares (cs := [far, 0 - 1 - far]) T GI (hr.mono (by decide)) (by show 2 ≤ 100000; decide) fun o2 IG ho2 sG1 sh2 => ?_
        walk_at "go"
        refine ⟨by show 2 ≤ sizeLine; decide, fun ol hol => ?_⟩
        have n1 := same_new (o := .lst [.ref o1, .ref o2]) hol
        have sFG := (sF1.trans sG1).trans n1
        have BH2 := BE2.same sFG
        have WH2 := WE2.same sFG
        have sh1 := sh1.same (sG1.trans n1)
        have sh2 := sh2.same n1
        have nol : ¬ ol = st := ((WE2.same sF1).same sG1).ne hol
        have hol' : (upd IG ol (.lst [.ref o1, .ref o2])) ol = some (.lst [.ref o1, .ref o2]) := upd_same
        generalize upd IG ol (.lst [.ref o1, .ref o2]) = IH at *
        walk_at "go"
        refine s_fn GD (hr.mono (by decide)) ⟨st, 2, rfl, WH2, by decide, by decide, fun v5 IJ v50 v51 sbJ2 WJ2 => ?_⟩
        have BJ2 := BH2.sb sbJ2 WH2 ncl ngl
        have shsb : ∀ {p : Addr} {cs : List Int}, ShAt a.c_Shares IH p cs → ShAt a.c_Shares IJ p cs := fun {p cs} h => by
          obtain ⟨dx, u, i1, i2⟩ := h
          obtain ⟨l, hl⟩ := WH2.lst
          have key : ∀ b o, IH b = some o → (∀ l, o ≠ .lst l) → IJ b = some o := fun b o e ne => sbJ2 b o (fun z => by rw [show b = st from z, hl] at e; exact ne _ (Option.some.inj e).symm) e
          exact ⟨dx, u, key _ _ i1 (by simp), key _ _ i2 (by simp)⟩
        obtain ⟨oi, ods, eoi, shO, hO8, hO0⟩ : ∃ (oi : Addr) (ods : List Int), atI [V.ref o1, V.ref o2] v5 = some (.ref oi) ∧ ShAt a.c_Shares IJ oi ods ∧ ods.length ≤ 8 ∧ ods.sum ≠ 0 := by
          have : v5 = 0 ∨ v5 = 1 := by omega
          rcases this with z | z
          · rw [z]; exact ⟨o1, _, rfl, shsb sh1, by show 4 ≤ 8; decide, by show (1 + far) + ((0 - far) + (far + ((0 - far) + 0))) ≠ 0; omega⟩
          · rw [z]; exact ⟨o2, _, rfl, shsb sh2, by show 2 ≤ 8; decide, by show far + ((0 - 1 - far) + 0) ≠ 0; omega⟩
        walk_at "go"
        refine s_ixL (SqL.of (sbJ2 _ _ nol hol')) eoi ?_
        walk_at "go"
        dsimp only [List.set]
        walk_at "go"
        refine ⟨BJ2.1, fun f6 c6 IK EK2 nK tabK2 _ hf6 hc6 => ?_⟩
        walk_at "go"
        refine ⟨tabK2, fun f7 c7 d7 IL EL2 nL2 tabL2 _ hf7 hc7 hd7 => ?_⟩
        walk_at "go"
        refine ⟨by show 2 ≤ sizeLine; decide, fun w5 hw5 => ?_⟩
        have EKL := EK2.trans EL2
        have n2 := same_new (o := .lst [.ref f6, .ref f7]) hw5
        have BM2 := (BJ2.ext EKL tabL2).same n2
        have shO : ShAt a.c_Shares (upd IL w5 (.lst [.ref f6, .ref f7])) oi ods := by
          obtain ⟨dx, u, i1, i2⟩ := shO
          exact ⟨dx, u, n2 _ _ (ExtN.o EKL i1 (by simp)), n2 _ _ (ExtN.o EKL i2 (by simp))⟩
        have hf6 := n2 _ _ (EL2 _ _ hf6 lamO_ne)
        have hc6 := n2 _ _ (EL2 _ _ hc6 codeO_ne)
        have hf7 := n2 _ _ hf7
        have hc7 := n2 _ _ hc7
        have hd7 := n2 _ _ hd7
        have hw5' : (upd IL w5 (.lst [.ref f6, .ref f7])) w5 = some (.lst ([f6, f7].map V.ref)) := upd_same
        generalize upd IL w5 (.lst [.ref f6, .ref f7]) = IM at *
        walk_at "go"
        dsimp only [List.set]
        walk_at "go"
        refine ⟨a.f__law_all_raise, T.g__law_all_raise, Fun.kp T.u__law_all_raise.choose_spec, ?_⟩
        walk_at "go"
        refine ⟨by show 2 ≤ sizeLine; decide, fun t3 ht3 => ?_⟩
        have n3 := same_new (o := .tup [.str "balance", .int 0]) ht3
        have shO := shO.same n3
        have hf6 := n3 _ _ hf6
        have hc6 := n3 _ _ hc6
        have hf7 := n3 _ _ hf7
        have hc7 := n3 _ _ hc7
        have hd7 := n3 _ _ hd7
        have hw5' := n3 _ _ hw5'
        have ht3' : (upd IM t3 (.tup [.str "balance", .int 0])) t3 = some (.tup [.str "balance", .int 0]) := upd_same
        generalize upd IM t3 (.tup [.str "balance", .int 0]) = IN at *
        refine fun B hB => ⟨12, spAllRaise P w K mg B a, ok_all_raise T, hr.mono (by decide), w5, t3, [f6, f7], a.c_NotBalanced, 6, rfl, hw5', by show 2 ≤ 1000; decide, ht3', by decide, by decide, T.ek_NotBalanced, fun f hf => ?_, fun IO sO => ?_⟩
        · have GPX : FnR P w K mg B (L2.CX P w) 4 a.f_payments (spCkBalX a) := ok_paymentsX T
          have GFX : FnR P w K mg B (L2.CX P w) 5 a.f_fewest_payments (spCkBalX a) := ok_fewestX T
          rcases List.mem_cons.1 hf with e | hf
          · rw [e]
            refine fun H' sH => ⟨_, _, _, sH _ _ hf6, fun R => ?_⟩
            refine lam_go (k := 9) ["_law_odd"] [] ["_law_odd"] [18] [some (.ref oi)] hB (by kernel_rfl) (by kernel_rfl) (sH _ _ hf6) (sH _ _ hc6) rfl rfl (fun s doc pm ctv _ => lam_bind0 rfl) (fun A2 outer2 s3 hr3 => ⟨_, (pe_glA Like.refl pas_lam (by rfl) (pa_cons (pv 0) pa_nil)), ?_⟩)
            walk_at "go"
            exact s_fn GPX (hr3.mono (by decide)) ⟨oi, ods, true, rfl, shO.same sH, by omega, by rw [if_pos rfl]; exact ⟨hO8, hO0⟩, rfl, rfl, Same.refl _⟩
          · rw [List.mem_singleton.1 hf]
            refine fun H' sH => ⟨_, _, _, sH _ _ hf7, fun R => ?_⟩
            refine lam_go (k := 9) (vs := [.int 0]) ["_law_a", "_law_odd"] ["_law_a"] ["_law_odd"] [18] [some (.ref oi)] hB (by kernel_rfl) (by kernel_rfl) (sH _ _ hf7) (sH _ _ hc7) rfl rfl (fun s4 doc pm ctv hok => lam_bind1 hok (sH _ _ hd7) rfl (fun _ => rfl)) (fun A2 outer2 s3 hr3 => ⟨_, (pe_glA Like.refl pas_lam (by rfl) (pa_cons (pv 1) pa_nil)), ?_⟩)
            walk_at "go"
            exact s_fn GFX (hr3.mono (by decide)) ⟨oi, ods, true, rfl, shO.same sH, by omega, by rw [if_pos rfl]; exact ⟨hO8, hO0⟩, rfl, rfl, Same.refl _⟩
        walk_at "go"
        refine s_shares (cs := []) T GI (hr.mono (by decide)) (Nat.zero_le _) fun e0 IP he0 sP0 shE => ?_
        walk_at "go"
        refine s_fn GP (hr.mono (by decide)) ⟨e0, [], rfl, shE, Nat.zero_le _, rfl, fun d z => by simp at z, fun pl pps IQ hpl sQ0 hPL hpp => ?_⟩
        have hp0 : pps = [] := List.length_eq_zero_iff.1 (by rw [hpp.1]; decide)
        subst hp0
        walk_at "go"
        refine ⟨by show 0 ≤ sizeLine; decide, fun z1 hz1 => ?_⟩
        have sz1 := same_new (o := .lst []) hz1
        walk_at "go"
        refine s_eqLsts (cs := []) (ds := []) hr' (SqL.of (sz1 _ _ hPL)) (SqL.of upd_same) ?_
        rw [decide_eq_true rfl]
        generalize upd IQ z1 (.lst []) = IR at *
        walk_at "go"
        refine s_shares (cs := [0, 0]) T GI (hr.mono (by decide)) (by show 2 ≤ 100000; decide) fun e1 IS he1 sS0 shE1 => ?_
        walk_at "go"
        refine s_fn GF (hr.mono (by decide)) ⟨e1, [0, 0], rfl, shE1, by decide, rfl, fun d hd => by simp at hd; rw [hd]; decide, fun IT sT0 => ?_⟩
        rw [show ((paysV [0, 0]).length : Int) = 0 by decide]
        walk_at "go"
        rw [decide_eq_true rfl]
        walk_at "go"
        refine s_shares (cs := [0]) T GI (hr.mono (by decide)) (by show 1 ≤ 100000; decide) fun e2 IU he2 sU0 shE2 => ?_
        walk_at "go"
        refine s_fn GP (hr.mono (by decide)) ⟨e2, [0], rfl, shE2, by decide, rfl, fun d hd => by simp at hd; rw [hd]; decide, fun pl2 pps2 IV hpl2 sV0 hPL2 hpp2 => ?_⟩
        have hp2 : pps2 = [] := List.length_eq_zero_iff.1 (by rw [hpp2.1]; decide)
        subst hp2
        walk_at "go"
        refine ⟨by show 0 ≤ sizeLine; decide, fun z2 hz2 => ?_⟩
        have sz2 := same_new (o := .lst []) hz2
        walk_at "go"
        refine s_eqLsts (cs := []) (ds := []) hr' (SqL.of (sz2 _ _ hPL2)) (SqL.of upd_same) ?_
        rw [decide_eq_true rfl]
        exact q _
end

end Odd

namespace Odd
open PySem PySem.Spec PyProof.Rows L2 LamX NdefX
theorem all_fn {l : PySem.W.OpenLaw} {w : World} {K : PySem.W.Frag} {mg : Str → Option Value} {h : Heap} {a : Ad} {fa : Addr} (KX : K.In h) (T : Facts K mg a) (hT : h.get? a.t_law = some { cls := .none, data := .fields #[] }) (hfa : mg "law" = some (.ref fa)) :
    LawAtS l w K (L2.CX l.prog w) 15 63 "_law_script" mg fa h := by
  have e := hfa.symm.trans T.g_law
  cases e
  obtain ⟨fd, F, hc⟩ := T.uc_law
  refine ⟨fd, [(a.k_law, a.t_law)], spLaw K a, fun p hp => ?_, fun p hp => ?_, fun p hp => ?_, fun s v => ?_, fun H sc ns hl _ hH hS => ⟨sc, ns, rfl, hS, hl, hH _ (List.mem_singleton_self _), fun _ => rfl⟩, fun base _ _ hB => ok_law T F hc (hB _ (List.mem_singleton_self _))⟩
  · rw [List.mem_singleton.1 hp]
    exact hT
  · rw [List.mem_singleton.1 hp]
    exact T.nt_law
  · rw [List.mem_singleton.1 hp]
    exact PySem.W.codeHd_of_K KX T.hd_law
  · obtain ⟨oc, od, kV, doc, pm, an, cdv, ct, osl, rfl, lk, hcd⟩ := F.ex
    exact .of_eq rfl
end Odd
open PySem PySem.W PyProof.Rows
set_option maxRecDepth 100000 in
set_option maxHeartbeats 0 in
theorem PySem.Challenge.cw_oddcents_k32_payments_and_errors_holds : PySem.Challenge.rw_oddcents_k32_payments_and_errors.Holds := by
  w_on; o_law; k_head; (case hw => w_witness2)
  k_fill
  refine LamX.walk_ofTs (l := PySem.Challenge.rw_oddcents_k32_payments_and_errors) (n := 63) (k := 15) (x := "_law_script") (CX := fun w => L2.CX PySem.Challenge.rw_oddcents_k32_payments_and_errors.prog w) rfl (by decide) rfl ⟨rfl, by decide, by decide⟩ (fun w h Y => by first | exact PySem.W.kIn_of Y | exact PySem.W.km_in_of Y) ?F (fun _ _ _ _ _ x => by
    obtain ⟨_, _, _, _, _, _, _, _, _, _, _, _, z⟩ := x
    exact z)
  case F =>
    intro w mg fa h Y KX G hmg
    refine' Odd.all_fn KX (Odd.all_mk KX G ?z_TypeError ?z_ValueError ?z_abs ?z_all ?z_bool ?z_classmethod ?z_enumerate ?z_int ?z_isinstance ?z_len ?z_list ?z_max ?z_min ?z_property ?z_range ?z_sorted ?z_str ?z_sum ?z_super ?z_tuple ?z_zip ?g_MAX_PAYMENT ?g_MAX_SETTLED_SEATS ?g_MAX_AMOUNT ?g_MIN_SEAT_COUNT ?g__wall ?l1 ?c1 ?k1 ?g_is_between ?l2 ?c2 ?k2 ?g_check_seat ?l3 ?c3 ?k3 ?g_seats_of ?l4 ?c4 ?k4 ?g_check_payment ?l5 ?c5 ?k5 ?g_balance_after ?l6 ?c6 ?k6 ?g_check_balance ?l7 ?c7 ?k7 ?g_sums_of_sets ?l8 ?c8 ?k8 ?g_number_of_groups ?l9 ?c9 ?k9 ?g_parted ?l10 ?c10 ?k10 ?g_payments_within ?l11 ?c11 ?k11 ?g_payments ?l12 ?c12 ?k12 ?g_fewest_payments ?l13 ?c13 ?k13 ?g_check_amount ?l14 ?c14 ?k14 ?g_check_seats ?l15 ?c15 ?k15 ?g_check_seat_count ?l16 ?c16 ?k16 ?g_check_mark ?l17 ?c17 ?k17 ?g_no_shares ?l18 ?c18 ?k18 ?g__law_random ?l19 ?c19 ?k19 ?g__law_below ?l20 ?c20 ?k20 ?g__law_shuffled ?l21 ?c21 ?k21 ?g__law_balance ?l22 ?c22 ?k22 ?g__law_shares ?l23 ?c23 ?k23 ?g__law_equal ?l24 ?c24 ?k24 ?g__law_error_of ?l25 ?c25 ?k25 ?g__law_all_raise ?l26 ?c26 ?k26 ?g_law ?l27 ?c27 ?k27 ?lc27 ?rt27 ?rh27 ?rn27 ?g_CentError ?x_CentError ?xk_CentError ?xs_CentError ?xt_CentError ?g_InvalidBill ?g_InvalidEvening ?g_InvalidMark ?x_InvalidMark ?xk_InvalidMark ?xs_InvalidMark ?xt_InvalidMark ?g_UnknownSeat ?x_UnknownSeat ?xk_UnknownSeat ?xs_UnknownSeat ?xt_UnknownSeat ?g_OtherTable ?x_OtherTable ?xk_OtherTable ?xs_OtherTable ?xt_OtherTable ?g_InvalidNumber ?x_InvalidNumber ?xk_InvalidNumber ?xs_InvalidNumber ?xt_InvalidNumber ?g_NotBalanced ?x_NotBalanced ?xk_NotBalanced ?xs_NotBalanced ?xt_NotBalanced ?g_EmptyGroup ?x_EmptyGroup ?xk_EmptyGroup ?xs_EmptyGroup ?xt_EmptyGroup ?g_InvalidOperation ?g_InvalidText ?g_InvalidReceipt ?g_DecodeError ?g_Shares ?pg_Shares ?hd_Shares ?po_Shares ?sa_Shares ?ia_Shares ?ib_Shares ?ic_Shares ?id_Shares ?ob_Shares ?sf_Shares ?tyc_Shares ?kit_Shares_tuple ?kit_Shares_list ?kit_Shares_int ?na_Shares_cents ?ma_Shares__init_ ?mb_Shares__init_ ?l28 ?c28 ?k28 ?mk_Shares ?kc_Shares ?pa_Shares_cents ?pb_Shares_cents ?pc_Shares_cents ?pd_Shares_cents ?l29 ?c29 ?k29 ?pa_Shares_whole ?pb_Shares_whole ?pc_Shares_whole ?pd_Shares_whole ?l30 ?c30 ?k30 ?ma_Shares__getitem_ ?mb_Shares__getitem_ ?l31 ?c31 ?k31 ?ma_Shares__iter_ ?mb_Shares__iter_ ?l32 ?c32 ?k32 ?ma_Shares__len_ ?mb_Shares__len_ ?l33 ?c33 ?k33 ?ma_Shares__eq_ ?mb_Shares__eq_ ?l34 ?c34 ?k34 ?na_Shares__eq_ ?nf_Shares__eq_ ?nt_Shares__eq_ ?ma_Shares__add_ ?mb_Shares__add_ ?l35 ?c35 ?k35 ?ma_Shares__sub_ ?mb_Shares__sub_ ?l36 ?c36 ?k36 ?ma_Shares__mul_ ?mb_Shares__mul_ ?l37 ?c37 ?k37 ?oa_Shares__mul_ ?ob_Shares__mul_ ?oc_Shares__mul_ ?od_Shares__mul_ ?ma_Shares__neg_ ?mb_Shares__neg_ ?l38 ?c38 ?k38 ?ma_Shares__abs_ ?mb_Shares__abs_ ?l39 ?c39 ?k39 ?g_Bill ?pg_Bill ?hd_Bill ?po_Bill ?sa_Bill ?ia_Bill ?ib_Bill ?ic_Bill ?id_Bill ?ob_Bill ?sf_Bill ?tyc_Bill ?kit_Bill_tuple ?kit_Bill_list ?kit_Bill_int ?na_Bill_amount ?na_Bill_seats ?cra_Bill ?crb_Bill ?cva_Bill_MAX_SEATS ?ma_Bill__init_ ?mb_Bill__init_ ?l40 ?c40 ?k40 ?mk_Bill ?kc_Bill ?pa_Bill_amount ?pb_Bill_amount ?pc_Bill_amount ?pd_Bill_amount ?l41 ?c41 ?k41 ?pa_Bill_seats ?pb_Bill_seats ?pc_Bill_seats ?pd_Bill_seats ?l42 ?c42 ?k42 ?pa_Bill_odd_cents ?pb_Bill_odd_cents ?pc_Bill_odd_cents ?pd_Bill_odd_cents ?l43 ?c43 ?k43 ?ma_Bill__contains_ ?mb_Bill__contains_ ?l44 ?c44 ?k44 ?g_Page ?pg_Page ?hd_Page ?po_Page ?sa_Page ?ia_Page ?ib_Page ?ic_Page ?id_Page ?ob_Page ?sf_Page ?tyc_Page ?kit_Page_tuple ?kit_Page_list ?kit_Page_int ?na_Page_operation ?na_Page_due ?na_Page_mark ?ma_Page__init_ ?mb_Page__init_ ?l45 ?c45 ?k45 ?mk_Page ?kc_Page ?g_Ledger ?pg_Ledger ?hd_Ledger ?po_Ledger ?sa_Ledger ?ia_Ledger ?ib_Ledger ?ic_Ledger ?id_Ledger ?ob_Ledger ?sf_Ledger ?tyc_Ledger ?kit_Ledger_tuple ?kit_Ledger_list ?kit_Ledger_int ?na_Ledger_seat_count ?na_Ledger_pages ?na_Ledger_at ?cra_Ledger ?crb_Ledger ?ma_Ledger__init_ ?mb_Ledger__init_ ?l46 ?c46 ?k46 ?kw46 ?mk_Ledger ?kc_Ledger ?cma_Ledger_replay ?cmb_Ledger_replay ?cmc_Ledger_replay ?l47 ?c47 ?k47 ?pa_Ledger_balance ?pb_Ledger_balance ?pc_Ledger_balance ?pd_Ledger_balance ?l48 ?c48 ?k48 ?pa_Ledger_mark_now ?pb_Ledger_mark_now ?pc_Ledger_mark_now ?pd_Ledger_mark_now ?l49 ?c49 ?k49 ?pa_Ledger_history ?pb_Ledger_history ?pc_Ledger_history ?pd_Ledger_history ?l50 ?c50 ?k50 ?ma_Ledger_lay ?mb_Ledger_lay ?l51 ?c51 ?k51 ?ma_Ledger_hand ?mb_Ledger_hand ?l52 ?c52 ?k52 ?ma_Ledger_move ?mb_Ledger_move ?l53 ?c53 ?k53 ?ma_Ledger_settle ?mb_Ledger_settle ?l54 ?c54 ?k54 ?ma_Ledger_undo ?mb_Ledger_undo ?l55 ?c55 ?k55 ?ma_Ledger_redo ?mb_Ledger_redo ?l56 ?c56 ?k56 ?ma_Ledger_apply_all ?mb_Ledger_apply_all ?l57 ?c57 ?k57 ?ma_Ledger_execute ?mb_Ledger_execute ?l58 ?c58 ?k58 ?ma_Ledger_write ?mb_Ledger_write ?l59 ?c59 ?k59 ?ic_CentError ?se_CentError_CentError ?se_InvalidMark_CentError ?se_UnknownSeat_CentError ?se_OtherTable_CentError ?se_InvalidNumber_CentError ?se_NotBalanced_CentError ?se_EmptyGroup_CentError ?ehd_InvalidBill ?ety_InvalidBill ?ess_InvalidBill ?ehd_InvalidEvening ?ety_InvalidEvening ?ess_InvalidEvening ?ehd_InvalidOperation ?ety_InvalidOperation ?ess_InvalidOperation ?ehd_InvalidMark ?ety_InvalidMark ?ess_InvalidMark ?ehd_UnknownSeat ?ety_UnknownSeat ?ess_UnknownSeat ?ehd_InvalidNumber ?ety_InvalidNumber ?ess_InvalidNumber ?ehd_NotBalanced ?ety_NotBalanced ?ess_NotBalanced ?ehd_EmptyGroup ?ety_EmptyGroup ?ess_EmptyGroup ?ehd_InvalidText ?ety_InvalidText ?ess_InvalidText ?ehd_InvalidReceipt ?ety_InvalidReceipt ?ess_InvalidReceipt ?ehd_DecodeError ?ety_DecodeError ?ess_DecodeError ?en_ ?et_ ?exg_InvalidMark ?exk_InvalidMark ?exa_InvalidMark ?exm_InvalidMark ?exv_InvalidMark ?exs_InvalidMark_InvalidBill ?exs_InvalidMark_InvalidEvening ?exs_InvalidMark_InvalidOperation ?exs_InvalidMark_UnknownSeat ?exs_InvalidMark_InvalidNumber ?exs_InvalidMark_NotBalanced ?exs_InvalidMark_EmptyGroup ?exs_InvalidMark_InvalidText ?exs_InvalidMark_InvalidReceipt ?exs_InvalidMark_DecodeError ?exg_UnknownSeat ?exk_UnknownSeat ?exa_UnknownSeat ?exm_UnknownSeat ?exv_UnknownSeat ?exs_UnknownSeat_InvalidBill ?exs_UnknownSeat_InvalidEvening ?exs_UnknownSeat_InvalidOperation ?exs_UnknownSeat_InvalidMark ?exs_UnknownSeat_InvalidNumber ?exs_UnknownSeat_NotBalanced ?exs_UnknownSeat_EmptyGroup ?exs_UnknownSeat_InvalidText ?exs_UnknownSeat_InvalidReceipt ?exs_UnknownSeat_DecodeError ?exg_InvalidNumber ?exk_InvalidNumber ?exa_InvalidNumber ?exm_InvalidNumber ?exv_InvalidNumber ?exs_InvalidNumber_InvalidBill ?exs_InvalidNumber_InvalidEvening ?exs_InvalidNumber_InvalidOperation ?exs_InvalidNumber_InvalidMark ?exs_InvalidNumber_UnknownSeat ?exs_InvalidNumber_NotBalanced ?exs_InvalidNumber_EmptyGroup ?exs_InvalidNumber_InvalidText ?exs_InvalidNumber_InvalidReceipt ?exs_InvalidNumber_DecodeError ?exg_NotBalanced ?exk_NotBalanced ?exa_NotBalanced ?exm_NotBalanced ?exv_NotBalanced ?exs_NotBalanced_InvalidBill ?exs_NotBalanced_InvalidEvening ?exs_NotBalanced_InvalidOperation ?exs_NotBalanced_InvalidMark ?exs_NotBalanced_UnknownSeat ?exs_NotBalanced_InvalidNumber ?exs_NotBalanced_EmptyGroup ?exs_NotBalanced_InvalidText ?exs_NotBalanced_InvalidReceipt ?exs_NotBalanced_DecodeError ?exg_EmptyGroup ?exk_EmptyGroup ?exa_EmptyGroup ?exm_EmptyGroup ?exv_EmptyGroup ?exs_EmptyGroup_InvalidBill ?exs_EmptyGroup_InvalidEvening ?exs_EmptyGroup_InvalidOperation ?exs_EmptyGroup_InvalidMark ?exs_EmptyGroup_UnknownSeat ?exs_EmptyGroup_InvalidNumber ?exs_EmptyGroup_NotBalanced ?exs_EmptyGroup_InvalidText ?exs_EmptyGroup_InvalidReceipt ?exs_EmptyGroup_DecodeError) ?tab hmg
    (case z_TypeError => k_is)
    (case z_ValueError => k_is)
    (case z_abs => k_is)
    (case z_all => k_is)
    (case z_bool => k_is)
    (case z_classmethod => k_is)
    (case z_enumerate => k_is)
    (case z_int => k_is)
    (case z_isinstance => k_is)
    (case z_len => k_is)
    (case z_list => k_is)
    (case z_max => k_is)
    (case z_min => k_is)
    (case z_property => k_is)
    (case z_range => k_is)
    (case z_sorted => k_is)
    (case z_str => k_is)
    (case z_sum => k_is)
    (case z_super => k_is)
    (case z_tuple => k_is)
    (case z_zip => k_is)
    (case g_MAX_PAYMENT => k_is)
    (case g_MAX_SETTLED_SEATS => k_is)
    (case g_MAX_AMOUNT => k_is)
    (case g_MIN_SEAT_COUNT => k_is)
    (case g__wall => k_is)
    (case l1 => k_is)
    (case c1 => k_is)
    (case k1 => k_is)
    (case g_is_between => k_is)
    (case l2 => k_is)
    (case c2 => k_is)
    (case k2 => k_is)
    (case g_check_seat => k_is)
    (case l3 => k_is)
    (case c3 => k_is)
    (case k3 => k_is)
    (case g_seats_of => k_is)
    (case l4 => k_is)
    (case c4 => k_is)
    (case k4 => k_is)
    (case g_check_payment => k_is)
    (case l5 => k_is)
    (case c5 => k_is)
    (case k5 => k_is)
    (case g_balance_after => k_is)
    (case l6 => k_is)
    (case c6 => k_is)
    (case k6 => k_is)
    (case g_check_balance => k_is)
    (case l7 => k_is)
    (case c7 => k_is)
    (case k7 => k_is)
    (case g_sums_of_sets => k_is)
    (case l8 => k_is)
    (case c8 => k_is)
    (case k8 => k_is)
    (case g_number_of_groups => k_is)
    (case l9 => k_is)
    (case c9 => k_is)
    (case k9 => k_is)
    (case g_parted => k_is)
    (case l10 => k_is)
    (case c10 => k_is)
    (case k10 => k_is)
    (case g_payments_within => k_is)
    (case l11 => k_is)
    (case c11 => k_is)
    (case k11 => k_is)
    (case g_payments => k_is)
    (case l12 => k_is)
    (case c12 => k_is)
    (case k12 => k_is)
    (case g_fewest_payments => k_is)
    (case l13 => k_is)
    (case c13 => k_is)
    (case k13 => k_is)
    (case g_check_amount => k_is)
    (case l14 => k_is)
    (case c14 => k_is)
    (case k14 => k_is)
    (case g_check_seats => k_is)
    (case l15 => k_is)
    (case c15 => k_is)
    (case k15 => k_is)
    (case g_check_seat_count => k_is)
    (case l16 => k_is)
    (case c16 => k_is)
    (case k16 => k_is)
    (case g_check_mark => k_is)
    (case l17 => k_is)
    (case c17 => k_is)
    (case k17 => k_is)
    (case g_no_shares => k_is)
    (case l18 => k_is)
    (case c18 => k_is)
    (case k18 => k_is)
    (case g__law_random => k_is)
    (case l19 => k_is)
    (case c19 => k_is)
    (case k19 => k_is)
    (case g__law_below => k_is)
    (case l20 => k_is)
    (case c20 => k_is)
    (case k20 => k_is)
    (case g__law_shuffled => k_is)
    (case l21 => k_is)
    (case c21 => k_is)
    (case k21 => k_is)
    (case g__law_balance => k_is)
    (case l22 => k_is)
    (case c22 => k_is)
    (case k22 => k_is)
    (case g__law_shares => k_is)
    (case l23 => k_is)
    (case c23 => k_is)
    (case k23 => k_is)
    (case g__law_equal => k_is)
    (case l24 => k_is)
    (case c24 => k_is)
    (case k24 => k_is)
    (case g__law_error_of => k_is)
    (case l25 => k_is)
    (case c25 => k_is)
    (case k25 => k_is)
    (case g__law_all_raise => k_is)
    (case l26 => k_is)
    (case c26 => k_is)
    (case k26 => k_is)
    (case g_law => k_is)
    (case l27 => k_is)
    (case c27 => k_is)
    (case k27 => k_is)
    (case lc27 => k_is)
    (case rt27 => exact rfl)
    (case rh27 => exact rfl)
    (case rn27 => exact rfl)
    (case g_CentError => k_is)
    (case x_CentError => k_exc)
    (case xk_CentError => k_is)
    (case xs_CentError => k_is)
    (case xt_CentError => k_is)
    (case g_InvalidBill => k_is)
    (case g_InvalidEvening => k_is)
    (case g_InvalidMark => k_is)
    (case x_InvalidMark => k_exc)
    (case xk_InvalidMark => k_is)
    (case xs_InvalidMark => k_is)
    (case xt_InvalidMark => k_is)
    (case g_UnknownSeat => k_is)
    (case x_UnknownSeat => k_exc)
    (case xk_UnknownSeat => k_is)
    (case xs_UnknownSeat => k_is)
    (case xt_UnknownSeat => k_is)
    (case g_OtherTable => k_is)
    (case x_OtherTable => k_exc)
    (case xk_OtherTable => k_is)
    (case xs_OtherTable => k_is)
    (case xt_OtherTable => k_is)
    (case g_InvalidNumber => k_is)
    (case x_InvalidNumber => k_exc)
    (case xk_InvalidNumber => k_is)
    (case xs_InvalidNumber => k_is)
    (case xt_InvalidNumber => k_is)
    (case g_NotBalanced => k_is)
    (case x_NotBalanced => k_exc)
    (case xk_NotBalanced => k_is)
    (case xs_NotBalanced => k_is)
    (case xt_NotBalanced => k_is)
    (case g_EmptyGroup => k_is)
    (case x_EmptyGroup => k_exc)
    (case xk_EmptyGroup => k_is)
    (case xs_EmptyGroup => k_is)
    (case xt_EmptyGroup => k_is)
    (case g_InvalidOperation => k_is)
    (case g_InvalidText => k_is)
    (case g_InvalidReceipt => k_is)
    (case g_DecodeError => k_is)
    (case g_Shares => k_is)
    (case pg_Shares => k_is)
    (case hd_Shares => k_is)
    (case po_Shares => k_is)
    (case sa_Shares => k_is)
    (case ia_Shares => k_is)
    (case ib_Shares => k_is)
    (case ic_Shares => k_is)
    (case id_Shares => k_is)
    (case ob_Shares => k_is)
    (case sf_Shares => k_is)
    (case tyc_Shares => k_is)
    (case kit_Shares_tuple => k_is)
    (case kit_Shares_list => k_is)
    (case kit_Shares_int => k_is)
    (case na_Shares_cents => k_is)
    (case ma_Shares__init_ => k_is)
    (case mb_Shares__init_ => k_is)
    (case l28 => k_is)
    (case c28 => k_is)
    (case k28 => k_is)
    (case mk_Shares => k_is)
    (case kc_Shares => k_is)
    (case pa_Shares_cents => k_is)
    (case pb_Shares_cents => k_is)
    (case pc_Shares_cents => k_is)
    (case pd_Shares_cents => k_is)
    (case l29 => k_is)
    (case c29 => k_is)
    (case k29 => k_is)
    (case pa_Shares_whole => k_is)
    (case pb_Shares_whole => k_is)
    (case pc_Shares_whole => k_is)
    (case pd_Shares_whole => k_is)
    (case l30 => k_is)
    (case c30 => k_is)
    (case k30 => k_is)
    (case ma_Shares__getitem_ => k_is)
    (case mb_Shares__getitem_ => k_is)
    (case l31 => k_is)
    (case c31 => k_is)
    (case k31 => k_is)
    (case ma_Shares__iter_ => k_is)
    (case mb_Shares__iter_ => k_is)
    (case l32 => k_is)
    (case c32 => k_is)
    (case k32 => k_is)
    (case ma_Shares__len_ => k_is)
    (case mb_Shares__len_ => k_is)
    (case l33 => k_is)
    (case c33 => k_is)
    (case k33 => k_is)
    (case ma_Shares__eq_ => k_is)
    (case mb_Shares__eq_ => k_is)
    (case l34 => k_is)
    (case c34 => k_is)
    (case k34 => k_is)
    (case na_Shares__eq_ => k_is)
    (case nf_Shares__eq_ => k_is)
    (case nt_Shares__eq_ => k_is)
    (case ma_Shares__add_ => k_is)
    (case mb_Shares__add_ => k_is)
    (case l35 => k_is)
    (case c35 => k_is)
    (case k35 => k_is)
    (case ma_Shares__sub_ => k_is)
    (case mb_Shares__sub_ => k_is)
    (case l36 => k_is)
    (case c36 => k_is)
    (case k36 => k_is)
    (case ma_Shares__mul_ => k_is)
    (case mb_Shares__mul_ => k_is)
    (case l37 => k_is)
    (case c37 => k_is)
    (case k37 => k_is)
    (case oa_Shares__mul_ => k_is)
    (case ob_Shares__mul_ => k_is)
    (case oc_Shares__mul_ => k_is)
    (case od_Shares__mul_ => k_is)
    (case ma_Shares__neg_ => k_is)
    (case mb_Shares__neg_ => k_is)
    (case l38 => k_is)
    (case c38 => k_is)
    (case k38 => k_is)
    (case ma_Shares__abs_ => k_is)
    (case mb_Shares__abs_ => k_is)
    (case l39 => k_is)
    (case c39 => k_is)
    (case k39 => k_is)
    (case g_Bill => k_is)
    (case pg_Bill => k_is)
    (case hd_Bill => k_is)
    (case po_Bill => k_is)
    (case sa_Bill => k_is)
    (case ia_Bill => k_is)
    (case ib_Bill => k_is)
    (case ic_Bill => k_is)
    (case id_Bill => k_is)
    (case ob_Bill => k_is)
    (case sf_Bill => k_is)
    (case tyc_Bill => k_is)
    (case kit_Bill_tuple => k_is)
    (case kit_Bill_list => k_is)
    (case kit_Bill_int => k_is)
    (case na_Bill_amount => k_is)
    (case na_Bill_seats => k_is)
    (case cra_Bill => k_is)
    (case crb_Bill => k_is)
    (case cva_Bill_MAX_SEATS => k_is)
    (case ma_Bill__init_ => k_is)
    (case mb_Bill__init_ => k_is)
    (case l40 => k_is)
    (case c40 => k_is)
    (case k40 => k_is)
    (case mk_Bill => k_is)
    (case kc_Bill => k_is)
    (case pa_Bill_amount => k_is)
    (case pb_Bill_amount => k_is)
    (case pc_Bill_amount => k_is)
    (case pd_Bill_amount => k_is)
    (case l41 => k_is)
    (case c41 => k_is)
    (case k41 => k_is)
    (case pa_Bill_seats => k_is)
    (case pb_Bill_seats => k_is)
    (case pc_Bill_seats => k_is)
    (case pd_Bill_seats => k_is)
    (case l42 => k_is)
    (case c42 => k_is)
    (case k42 => k_is)
    (case pa_Bill_odd_cents => k_is)
    (case pb_Bill_odd_cents => k_is)
    (case pc_Bill_odd_cents => k_is)
    (case pd_Bill_odd_cents => k_is)
    (case l43 => k_is)
    (case c43 => k_is)
    (case k43 => k_is)
    (case ma_Bill__contains_ => k_is)
    (case mb_Bill__contains_ => k_is)
    (case l44 => k_is)
    (case c44 => k_is)
    (case k44 => k_is)
    (case g_Page => k_is)
    (case pg_Page => k_is)
    (case hd_Page => k_is)
    (case po_Page => k_is)
    (case sa_Page => k_is)
    (case ia_Page => k_is)
    (case ib_Page => k_is)
    (case ic_Page => k_is)
    (case id_Page => k_is)
    (case ob_Page => k_is)
    (case sf_Page => k_is)
    (case tyc_Page => k_is)
    (case kit_Page_tuple => k_is)
    (case kit_Page_list => k_is)
    (case kit_Page_int => k_is)
    (case na_Page_operation => k_is)
    (case na_Page_due => k_is)
    (case na_Page_mark => k_is)
    (case ma_Page__init_ => k_is)
    (case mb_Page__init_ => k_is)
    (case l45 => k_is)
    (case c45 => k_is)
    (case k45 => k_is)
    (case mk_Page => k_is)
    (case kc_Page => k_is)
    (case g_Ledger => k_is)
    (case pg_Ledger => k_is)
    (case hd_Ledger => k_is)
    (case po_Ledger => k_is)
    (case sa_Ledger => k_is)
    (case ia_Ledger => k_is)
    (case ib_Ledger => k_is)
    (case ic_Ledger => k_is)
    (case id_Ledger => k_is)
    (case ob_Ledger => k_is)
    (case sf_Ledger => k_is)
    (case tyc_Ledger => k_is)
    (case kit_Ledger_tuple => k_is)
    (case kit_Ledger_list => k_is)
    (case kit_Ledger_int => k_is)
    (case na_Ledger_seat_count => k_is)
    (case na_Ledger_pages => k_is)
    (case na_Ledger_at => k_is)
    (case cra_Ledger => k_is)
    (case crb_Ledger => k_is)
    (case ma_Ledger__init_ => k_is)
    (case mb_Ledger__init_ => k_is)
    (case l46 => k_is)
    (case c46 => k_is)
    (case k46 => k_is)
    (case kw46 => k_is)
    (case mk_Ledger => k_is)
    (case kc_Ledger => k_is)
    (case cma_Ledger_replay => k_is)
    (case cmb_Ledger_replay => k_is)
    (case cmc_Ledger_replay => k_is)
    (case l47 => k_is)
    (case c47 => k_is)
    (case k47 => k_is)
    (case pa_Ledger_balance => k_is)
    (case pb_Ledger_balance => k_is)
    (case pc_Ledger_balance => k_is)
    (case pd_Ledger_balance => k_is)
    (case l48 => k_is)
    (case c48 => k_is)
    (case k48 => k_is)
    (case pa_Ledger_mark_now => k_is)
    (case pb_Ledger_mark_now => k_is)
    (case pc_Ledger_mark_now => k_is)
    (case pd_Ledger_mark_now => k_is)
    (case l49 => k_is)
    (case c49 => k_is)
    (case k49 => k_is)
    (case pa_Ledger_history => k_is)
    (case pb_Ledger_history => k_is)
    (case pc_Ledger_history => k_is)
    (case pd_Ledger_history => k_is)
    (case l50 => k_is)
    (case c50 => k_is)
    (case k50 => k_is)
    (case ma_Ledger_lay => k_is)
    (case mb_Ledger_lay => k_is)
    (case l51 => k_is)
    (case c51 => k_is)
    (case k51 => k_is)
    (case ma_Ledger_hand => k_is)
    (case mb_Ledger_hand => k_is)
    (case l52 => k_is)
    (case c52 => k_is)
    (case k52 => k_is)
    (case ma_Ledger_move => k_is)
    (case mb_Ledger_move => k_is)
    (case l53 => k_is)
    (case c53 => k_is)
    (case k53 => k_is)
    (case ma_Ledger_settle => k_is)
    (case mb_Ledger_settle => k_is)
    (case l54 => k_is)
    (case c54 => k_is)
    (case k54 => k_is)
    (case ma_Ledger_undo => k_is)
    (case mb_Ledger_undo => k_is)
    (case l55 => k_is)
    (case c55 => k_is)
    (case k55 => k_is)
    (case ma_Ledger_redo => k_is)
    (case mb_Ledger_redo => k_is)
    (case l56 => k_is)
    (case c56 => k_is)
    (case k56 => k_is)
    (case ma_Ledger_apply_all => k_is)
    (case mb_Ledger_apply_all => k_is)
    (case l57 => k_is)
    (case c57 => k_is)
    (case k57 => k_is)
    (case ma_Ledger_execute => k_is)
    (case mb_Ledger_execute => k_is)
    (case l58 => k_is)
    (case c58 => k_is)
    (case k58 => k_is)
    (case ma_Ledger_write => k_is)
    (case mb_Ledger_write => k_is)
    (case l59 => k_is)
    (case c59 => k_is)
    (case k59 => k_is)
    (case ic_CentError => k_is)
    (case se_CentError_CentError => k_is)
    (case se_InvalidMark_CentError => k_is)
    (case se_UnknownSeat_CentError => k_is)
    (case se_OtherTable_CentError => k_is)
    (case se_InvalidNumber_CentError => k_is)
    (case se_NotBalanced_CentError => k_is)
    (case se_EmptyGroup_CentError => k_is)
    (case ehd_InvalidBill => k_is)
    (case ety_InvalidBill => k_is)
    (case ess_InvalidBill => k_is)
    (case ehd_InvalidEvening => k_is)
    (case ety_InvalidEvening => k_is)
    (case ess_InvalidEvening => k_is)
    (case ehd_InvalidOperation => k_is)
    (case ety_InvalidOperation => k_is)
    (case ess_InvalidOperation => k_is)
    (case ehd_InvalidMark => k_is)
    (case ety_InvalidMark => k_is)
    (case ess_InvalidMark => k_is)
    (case ehd_UnknownSeat => k_is)
    (case ety_UnknownSeat => k_is)
    (case ess_UnknownSeat => k_is)
    (case ehd_InvalidNumber => k_is)
    (case ety_InvalidNumber => k_is)
    (case ess_InvalidNumber => k_is)
    (case ehd_NotBalanced => k_is)
    (case ety_NotBalanced => k_is)
    (case ess_NotBalanced => k_is)
    (case ehd_EmptyGroup => k_is)
    (case ety_EmptyGroup => k_is)
    (case ess_EmptyGroup => k_is)
    (case ehd_InvalidText => k_is)
    (case ety_InvalidText => k_is)
    (case ess_InvalidText => k_is)
    (case ehd_InvalidReceipt => k_is)
    (case ety_InvalidReceipt => k_is)
    (case ess_InvalidReceipt => k_is)
    (case ehd_DecodeError => k_is)
    (case ety_DecodeError => k_is)
    (case ess_DecodeError => k_is)
    (case en_ => k_is)
    (case et_ => k_is)
    (case exg_InvalidMark => k_is)
    (case exk_InvalidMark => k_is)
    (case exa_InvalidMark => k_is)
    (case exm_InvalidMark => k_is)
    (case exv_InvalidMark => k_is)
    (case exs_InvalidMark_InvalidBill => k_is)
    (case exs_InvalidMark_InvalidEvening => k_is)
    (case exs_InvalidMark_InvalidOperation => k_is)
    (case exs_InvalidMark_UnknownSeat => k_is)
    (case exs_InvalidMark_InvalidNumber => k_is)
    (case exs_InvalidMark_NotBalanced => k_is)
    (case exs_InvalidMark_EmptyGroup => k_is)
    (case exs_InvalidMark_InvalidText => k_is)
    (case exs_InvalidMark_InvalidReceipt => k_is)
    (case exs_InvalidMark_DecodeError => k_is)
    (case exg_UnknownSeat => k_is)
    (case exk_UnknownSeat => k_is)
    (case exa_UnknownSeat => k_is)
    (case exm_UnknownSeat => k_is)
    (case exv_UnknownSeat => k_is)
    (case exs_UnknownSeat_InvalidBill => k_is)
    (case exs_UnknownSeat_InvalidEvening => k_is)
    (case exs_UnknownSeat_InvalidOperation => k_is)
    (case exs_UnknownSeat_InvalidMark => k_is)
    (case exs_UnknownSeat_InvalidNumber => k_is)
    (case exs_UnknownSeat_NotBalanced => k_is)
    (case exs_UnknownSeat_EmptyGroup => k_is)
    (case exs_UnknownSeat_InvalidText => k_is)
    (case exs_UnknownSeat_InvalidReceipt => k_is)
    (case exs_UnknownSeat_DecodeError => k_is)
    (case exg_InvalidNumber => k_is)
    (case exk_InvalidNumber => k_is)
    (case exa_InvalidNumber => k_is)
    (case exm_InvalidNumber => k_is)
    (case exv_InvalidNumber => k_is)
    (case exs_InvalidNumber_InvalidBill => k_is)
    (case exs_InvalidNumber_InvalidEvening => k_is)
    (case exs_InvalidNumber_InvalidOperation => k_is)
    (case exs_InvalidNumber_InvalidMark => k_is)
    (case exs_InvalidNumber_UnknownSeat => k_is)
    (case exs_InvalidNumber_NotBalanced => k_is)
    (case exs_InvalidNumber_EmptyGroup => k_is)
    (case exs_InvalidNumber_InvalidText => k_is)
    (case exs_InvalidNumber_InvalidReceipt => k_is)
    (case exs_InvalidNumber_DecodeError => k_is)
    (case exg_NotBalanced => k_is)
    (case exk_NotBalanced => k_is)
    (case exa_NotBalanced => k_is)
    (case exm_NotBalanced => k_is)
    (case exv_NotBalanced => k_is)
    (case exs_NotBalanced_InvalidBill => k_is)
    (case exs_NotBalanced_InvalidEvening => k_is)
    (case exs_NotBalanced_InvalidOperation => k_is)
    (case exs_NotBalanced_InvalidMark => k_is)
    (case exs_NotBalanced_UnknownSeat => k_is)
    (case exs_NotBalanced_InvalidNumber => k_is)
    (case exs_NotBalanced_EmptyGroup => k_is)
    (case exs_NotBalanced_InvalidText => k_is)
    (case exs_NotBalanced_InvalidReceipt => k_is)
    (case exs_NotBalanced_DecodeError => k_is)
    (case exg_EmptyGroup => k_is)
    (case exk_EmptyGroup => k_is)
    (case exa_EmptyGroup => k_is)
    (case exm_EmptyGroup => k_is)
    (case exv_EmptyGroup => k_is)
    (case exs_EmptyGroup_InvalidBill => k_is)
    (case exs_EmptyGroup_InvalidEvening => k_is)
    (case exs_EmptyGroup_InvalidOperation => k_is)
    (case exs_EmptyGroup_InvalidMark => k_is)
    (case exs_EmptyGroup_UnknownSeat => k_is)
    (case exs_EmptyGroup_InvalidNumber => k_is)
    (case exs_EmptyGroup_NotBalanced => k_is)
    (case exs_EmptyGroup_InvalidText => k_is)
    (case exs_EmptyGroup_InvalidReceipt => k_is)
    (case exs_EmptyGroup_DecodeError => k_is)
    (case tab => exact PySem.W.km_tabs_of Y _ (by simp))

