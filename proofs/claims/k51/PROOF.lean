import PyProof.Rows.All
import Wide.All
import OpenK.AllK
import Wide.FinOn
import HandS.ForMost
import HandS.Exc
import HandS.TryOnly
import HandS.ExcOwn
import HandS.WordsExc
import HandS.Star
import HandS.OwnEq
import HandS.SlotsOwn
import HandS.Property
import HandS.TryMany
import HandS.Wide
import HandS.IsInst
import HandS.Zip
import PyProof.WalksMore
import HandS.Walk
import HandS.ClsMeth
import KE.GoesMore
import KE.GoesEnum
import HandS.TupAny
import HandS.Conv
import HandS.Gcd
import HandS.Style
import HandS.Nested
import KE.KDflt
import HandS.EndTab
import KE.KNestM
import PyProof.NeKinds
import HandS.Dict
import HandS.Small
import PyProof.Rows.TupMore
import HandS.Text
import HandS.StrMore
import HandS.TupMul
import HandS.SortKw
import KE.DataMinKey
import KE.LtSeq
import HandS.SortInts
import HandS.SetBool
import HandS.Strs
import PyProof.Rows.TupDisplay
import HandS.SetFor
import HandS.Deep
import HandS.TupSets
import HandS.WideBits
import KE.KDictKeyed
import PyProof.StrOps2
import KE.KxField
import HandS.FStr
import HandS.Replace
import PyProof.StrLawsReplace
import PySem.Challenge.RW_oddcents_k51_whole_texts_codes_and_recei
import HandS.EndBits
set_option Elab.async false
set_option linter.all false
set_option maxRecDepth 100000
set_option maxHeartbeats 20000000
namespace Odd
open PySem PySem.Spec PyProof.Rows L2

/-! ### own operators of plain instances -/
section
variable {X : Cx} {CX : CXT} {pins : List (Addr × Obj)} {σ : L2.St} {H : Hp} {s : Shared} {a C dx g : Addr} {fs : List (Str × V)} {n : Nat} {sp : Sp} {E : XK}

theorem inst_at (I : Inv X pins σ H s) (e : H a = some (.ins C dx fs)) : ∃ ox od, PySem.W.InstAt s.heap a ox C (some od) := by
  obtain ⟨mA, O, _⟩ := ins_get I.hok e
  obtain ⟨od, J, _⟩ := O.look
  exact ⟨_, _, J⟩

theorem call_ref {Q : VK} {us : List Value} {vs : List V} (F : FnR X.prog X.w X.K X.mg X.base CX n g sp) (hr : Room n X.A) (hx : Passes CX X E) (I : Inv X pins σ H s) (r : Vals vs us) (h : sp vs H Q E) :
    wpAny (model X.prog X.w) X.A (call (.ref g) us) (EP X pins σ Q) X.xe s := wpAny_call (run_fnR F hr hx I r h)
theorem call_in1 {Q : VK} {us : List Value} {vs : List V} (F : FnR X.prog X.w X.K X.mg X.base CX n g sp) (hr : Room (n + 1) X.A) (hx : Passes CX X E) (I : Inv X pins σ H s) (r : Vals vs us) (h : sp vs H Q E) :
    wpAny (model X.prog X.w) X.A.in1 (call (.ref g) us) (EP X pins σ Q) X.xe s := wpAny_call (SlX.run_at F hr.in1 I.env0.in1 hx I r h)

/-- x op y, both instances of the class at C, whose def is at g -/
def rOpSame (C : Addr) (sp : Sp) (E : XK) : R2 := fun x y H Q => ∃ a b dx dy fs gs, x = .ref a ∧ y = .ref b ∧ H a = some (.ins C dx fs) ∧ H b = some (.ins C dy gs) ∧ sp [x, y] H Q E
theorem op_same {op : Operator} (hc : PySem.W.selfFirst X.K C = true) (hs : PySem.W.findIn X.K (.ref C) (PySem.dunder op.info.2) = some (some (.ref g))) (hf : PySem.W.isFn X.K (.ref g) = true)
    (F : FnR X.prog X.w X.K X.mg X.base CX n g sp) (hr : Room n X.A) (hx : Passes CX X E) : OpR X (binaryOp op) (rOpSame C sp E) := by
  intro pins s σ H x y v u Q I rx ry h
  obtain ⟨a, b, dx, dy, fs, gs, rfl, rfl, ha, hb, q⟩ := h
  cases (show v = Value.ref a from rx)
  cases (show u = Value.ref b from ry)
  obtain ⟨ox, od, J⟩ := inst_at I ha
  obtain ⟨oy, od', J'⟩ := inst_at I hb
  obtain ⟨m, hF⟩ := I.fr
  refine PySem.W.binop_K hF I.ok.mod.kin J J'.type hc hs hf (wpAny_mono (call_ref (vs := [.ref a, .ref b]) F hr hx I (.cons rfl (.cons rfl .nil)) q) (fun w s' z => ?_) fun _ _ x => x)
  obtain ⟨z', H', I', rz, qz⟩ := z
  exact SlX.cmpback rz ⟨z', H', I', rz, qz⟩

/-- x op n, n an int -/
def rOpInt (C : Addr) (sp : Sp) (E : XK) : R2 := fun x y H Q => ∃ a i dx fs, x = .ref a ∧ y = .int i ∧ H a = some (.ins C dx fs) ∧ sp [x, y] H Q E
theorem op_int {op : Operator} {fo ro rc : Option Value} (hc : PySem.W.selfFirst X.K C = true) (hs : PySem.W.findIn X.K (.ref C) (PySem.dunder op.info.2) = some (some (.ref g))) (hf : PySem.W.isFn X.K (.ref g) = true)
    (hrc : PySem.W.findIn X.K (.ref C) (dunderR op.info.2) = some rc) (hp : rc = none ∨ ∃ g : Addr, rc = some (.ref g)) (h1 : PySem.W.findIn X.K (.type "int") (PySem.dunder op.info.2) = some fo) (h2 : PySem.W.findIn X.K (.type "int") (dunderR op.info.2) = some ro)
    (hsub : PySem.W.subIn X.K (.type "int") (.ref C) = some false)
    (F : FnR X.prog X.w X.K X.mg X.base CX n g sp) (hr : Room n X.A) (hx : Passes CX X E) : OpR X (binaryOp op) (rOpInt C sp E) := by
  intro pins s σ H x y v u Q I rx ry h
  obtain ⟨a, i, dx, fs, rfl, rfl, ha, q⟩ := h
  cases (show v = Value.ref a from rx)
  obtain ⟨t, e⟩ := (show ∃ t, u = Value.int i t from ry)
  cases e
  obtain ⟨ox, od, J⟩ := inst_at I ha
  obtain ⟨m, hF⟩ := I.fr
  refine PySem.W.ksp_binT (T := "int") hF I.ok.mod.kin J (by first | rfl | kernel_rfl) hc hs hf hrc hp h1 h2 hsub (wpAny_mono (call_ref (vs := [.ref a, .int i]) F hr hx I (.cons rfl (.cons ⟨t, rfl⟩ .nil)) q) (fun w s' z => ?_) fun _ _ x => x)
  obtain ⟨z', H', I', rz, qz⟩ := z
  exact SlX.cmpback rz ⟨z', H', I', rz, qz⟩

/-- -x -/
def rNeg (C : Addr) (sp : Sp) (E : XK) : V → Hp → VK → Prop := fun x H Q => ∃ a dx fs, x = .ref a ∧ H a = some (.ins C dx fs) ∧ sp [x] H Q E
theorem un_ins (hs : PySem.W.findIn X.K (.ref C) "__neg__" = some (some (.ref g))) (hf : PySem.W.isFn X.K (.ref g) = true)
    (F : FnR X.prog X.w X.K X.mg X.base CX n g sp) (hr : Room n X.A) (hx : Passes CX X E) : UnR X (unaryOp .USub) (rNeg C sp E) := by
  intro pins s σ H x v Q I rx h
  obtain ⟨a, dx, fs, rfl, ha, q⟩ := h
  cases (show v = Value.ref a from rx)
  obtain ⟨ox, od, J⟩ := inst_at I ha
  obtain ⟨m, hF⟩ := I.fr
  exact PySem.W.ksp_neg hF I.ok.mod.kin J hs hf (call_ref (vs := [.ref a]) F hr hx I (.cons rfl .nil) q)

/-- len(x) -/
def rLenI (C : Addr) (sp : Sp) (E : XK) : List V → Hp → VK → Prop := fun vs H Q => ∃ a dx fs, vs = [.ref a] ∧ H a = some (.ins C dx fs) ∧ sp [.ref a] H (fun z H' => ∃ i, z = .int i ∧ 0 ≤ i ∧ i < 2 ^ 63 ∧ Q z H') E
theorem call_lenI (hs : PySem.W.findIn X.K (.ref C) "__len__" = some (some (.ref g))) (hf : PySem.W.isFn X.K (.ref g) = true)
    (F : FnR X.prog X.w X.K X.mg X.base CX n g sp) (hr : Room (n + 1) X.A) (hx : Passes CX X E) : CallR X (.builtin "len") (rLenI C sp E) := by
  intro pins s σ H xs us Q I r h
  obtain ⟨a, dx, fs, rfl, ha, q⟩ := h
  obtain ⟨u, rfl, ru⟩ := vals1 r
  cases (show u = Value.ref a from ru)
  obtain ⟨ox, od, J⟩ := inst_at I ha
  obtain ⟨m, hF⟩ := I.fr
  refine PySem.W.len_K hF I.ok.mod.kin J hs hf (wpAny_mono (call_in1 (vs := [.ref a]) F hr hx I (.cons rfl .nil) q) (fun w s' z => ?_) fun _ _ x => x)
  obtain ⟨z', H', I', rz, i, ei, h0, h1, qz⟩ := z
  subst ei
  obtain ⟨t, e⟩ := (show ∃ t, w = Value.int i t from rz)
  cases e
  exact ⟨⟨h0, h1⟩, .int i, H', I'.tok _, ⟨_, rfl⟩, qz⟩

/-- abs(x) -/
def rAbsI (C : Addr) (sp : Sp) (E : XK) : List V → Hp → VK → Prop := fun vs H Q => ∃ a dx fs, vs = [.ref a] ∧ H a = some (.ins C dx fs) ∧ sp [.ref a] H Q E
theorem call_absI (hs : PySem.W.findIn X.K (.ref C) "__abs__" = some (some (.ref g))) (hf : PySem.W.isFn X.K (.ref g) = true)
    (F : FnR X.prog X.w X.K X.mg X.base CX n g sp) (hr : Room (n + 1) X.A) (hx : Passes CX X E) : CallR X (.builtin "abs") (rAbsI C sp E) := by
  intro pins s σ H xs us Q I r h
  obtain ⟨a, dx, fs, rfl, ha, q⟩ := h
  obtain ⟨u, rfl, ru⟩ := vals1 r
  cases (show u = Value.ref a from ru)
  obtain ⟨ox, od, J⟩ := inst_at I ha
  refine Calls.call_function_entry kind_abs plain_abs entry_abs (args_abs _) ?_
  unfold Builtin.«abs»
  refine wpAny_bind (m := oneArg "abs" _) (wpAny_pure ?_)
  refine wpAny_bind (m := callSpecial? (.ref a) (Str.ofString "__abs__")) (PySem.W.special_fn I.kIn J hs (beq_iff_eq.mp hf) (wpAny_mono (call_in1 (vs := [.ref a]) F hr hx I (.cons rfl .nil) q) (fun w s' z => ?_) fun _ _ x => x))
  exact wpAny_pure ⟨_, rfl, z⟩
end
end Odd

namespace Odd
open PySem PySem.Spec PyProof.Rows L2

/-! ### rules that leave the choice to the reading -/
/-- X runs the body of X0: itself, or a comprehension's block in it -/
structure Like (X0 X : Cx) : Prop where
  prog : X.prog = X0.prog
  w : X.w = X0.w
  K : X.K = X0.K
  mg : X.mg = X0.mg
  base : X.base = X0.base
  A : X.A = X0.A
  calm : X.calm = X0.calm
theorem Like.refl {X : Cx} : Like X X := ⟨rfl, rfl, rfl, rfl, rfl, rfl, rfl⟩
abbrev Pas (X : Cx) (E : XK) : Prop := Passes (L2.CX X.prog X.w) X E
abbrev Fn (X : Cx) (k : Nat) (f : Addr) (sp : Sp) : Prop := FnR X.prog X.w X.K X.mg X.base (L2.CX X.prog X.w) k f sp
section
variable {X0 X : Cx} {E : XK}
theorem Like.fn {k : Nat} {f : Addr} {sp : Sp} (l : Like X0 X) (F : Fn X0 k f sp) : Fn X k f sp := by
  unfold Fn at F ⊢
  rw [l.prog, l.w, l.K, l.mg, l.base]
  exact F
theorem Like.room {k : Nat} (l : Like X0 X) (r : Room k X0.A) : Room k X.A := by rw [l.A]; exact r

/-! what may be chosen -/
def OpD (X0 : Cx) (E : XK) (f : Value → Value → Sem Value) (r : R2) : Prop := ∀ X, Like X0 X → Pas X E → OpR X f r
def UnD (X0 : Cx) (E : XK) (f : Value → Sem Value) (r : V → Hp → VK → Prop) : Prop := ∀ X, Like X0 X → Pas X E → UnR X f r
def CaD (X0 : Cx) (E : XK) (u : Value) (r : List V → Hp → VK → Prop) : Prop := ∀ X, Like X0 X → Pas X E → CallR X u r
def TrD (X0 : Cx) (E : XK) (r : V → Hp → (Bool → Hp → Prop) → Prop) : Prop := ∀ X, Like X0 X → Pas X E → TruR X r
def AtR (X : Cx) (f : Str) (r : V → Hp → VK → Prop) : Prop :=
  ∀ (b : Bool) (pins : List (Addr × Obj)) (s : Shared) (σ : L2.St) (H : Hp) (x : V) (v : Value) (Q : VK), Inv X pins σ H s → RelV x v → r x H Q → wpAny (model X.prog X.w) X.A (getAttr v f b) (EP X pins σ Q) X.xe s
def AtD (X0 : Cx) (E : XK) (f : Str) (r : V → Hp → VK → Prop) : Prop := ∀ X, Like X0 X → Pas X E → AtR X f r
/-- a subscript, also of an own class's instance -/
def IxO (X : Cx) (r : R2) : Prop :=
  ∀ (value slice : Expr) (pins : List (Addr × Obj)) (s : Shared) (σ : L2.St) (H : Hp) (x y : V) (v u : Value) (Q : VK), Inv X pins σ H s → RelV x v → RelV y u → r x y H Q →
    subscripted slice false v u = operate [v, u] (getItem v u) → subscripted slice true v u = runValue (.builtin "lifetime.subscript" ⟨[v, u], []⟩) → wpAny (model X.prog X.w) X.A (subscriptTail value slice v u) (EP X pins σ Q) X.xe s
def IxD (X0 : Cx) (E : XK) (r : R2) : Prop := ∀ X, Like X0 X → Pas X E → IxO X r

/-! the readings -/
def tOpA (X0 : Cx) (E : XK) (f : Value → Value → Sem Value) (ta tb : TE) : TE := fun σ H Q => ta σ H fun x H1 => tb σ H1 fun y H2 => ∃ r, OpD X0 E f r ∧ r x y H2 Q
def tUnA (X0 : Cx) (E : XK) (f : Value → Sem Value) (ta : TE) : TE := fun σ H Q => ta σ H fun x H1 => ∃ r, UnD X0 E f r ∧ r x H1 Q
def tAtA (X0 : Cx) (E : XK) (f : Str) (ta : TE) : TE := fun σ H Q => ta σ H fun x H1 => ∃ r, AtD X0 E f r ∧ r x H1 Q
def tIxA (X0 : Cx) (E : XK) (ta tb : TE) : TE := fun σ H Q => ta σ H fun x H1 => tb σ H1 fun y H2 => ∃ r, IxD X0 E r ∧ r x y H2 Q
def tTrA (X0 : Cx) (E : XK) (ta : TE) : TT := fun σ H Q => ta σ H fun x H1 => ∃ r, TrD X0 E r ∧ r x H1 Q
def tChA (X0 : Cx) (E : XK) (f g : Value → Value → Sem Value) (ta tb tc : TE) : TE := fun σ H Q => ta σ H fun x H1 => tb σ H1 fun y H2 => ∃ r, OpD X0 E f r ∧ r x y H2 fun z H3 => ∃ k, z = .bl k ∧
  (if k = true then tc σ H3 fun w' H4 => ∃ r', OpD X0 E g r' ∧ r' y w' H4 Q else Q (.bl false) H3)
/-- a built-in function or type by its name -/
def tBiA (X0 : Cx) (E : XK) (x : Str) (u : Value) (t : TA) : TE := fun σ H Q => X0.mg x = none ∧ t σ H fun vs H1 => ∃ r, CaD X0 E u r ∧ r vs H1 Q
/-- a def or class of the module by its name -/
def tGlA (X0 : Cx) (E : XK) (x : Str) (t : TA) : TE := fun σ H Q => ∃ f, X0.mg x = some (.ref f) ∧ PySem.W.keepIn X0.K (.ref f) = true ∧ t σ H fun vs H1 => ∃ r, CaD X0 E (.ref f) r ∧ r vs H1 Q
/-- own methods -/
def tMeA (X0 : Cx) (E : XK) (m : Str) (ta : TE) (t : TA) : TE := fun σ H Q => ta σ H fun x H1 => ∃ a C dx fs g, x = .ref a ∧ H1 a = some (.ins C dx fs) ∧ Cls X0.K C ∧ Meth X0.K C m g ∧ PySem.W.keepIn X0.K (.ref g) = true ∧ fs.lookup m = none ∧
  t σ H1 fun vs H2 => ∃ r, CaD X0 E (.ref g) r ∧ r (x :: vs) H2 Q
/-- what a for walks: a list, a tuple -/
def iSeq (K : PySem.W.Frag) (tl : TE) : TI := fun σ H R => tl σ H fun x H1 => ∃ a, x = .ref a ∧ (((∃ xs, SqL K H1 a xs) ∧ R (Itl K a) H1) ∨ ((∃ xs, SqT K H1 a xs) ∧ R (Itt K a) H1))

variable {a b c e o : Expr} {es : List Expr} {ta tb tc te : TE} {t : TA} {pos p apos sp_ : Pos} {x m : Str}
theorem pe_opA {op : Operator} (l : Like X0 X) (h : Pas X E) (ha : PE X a ta) (hb : PE X b tb) : PE X (.BinOp a op b pos) (tOpA X0 E (binaryOp op) ta tb) := by
  refine ⟨fun pins s σ H Q I q => ?_⟩
  exact wpAny_BinOp (binT ha hb I q fun v u s2 x y H2 I2 rx ry q => let ⟨r, hr, q⟩ := q; hr X l h pins s2 σ H2 x y v u Q I2 rx ry q)
theorem pe_unA {op : UnaryOp} (l : Like X0 X) (h : Pas X E) (ha : PE X a ta) : PE X (.UnaryOp op a pos) (tUnA X0 E (unaryOp op) ta) := by
  refine ⟨fun pins s σ H Q I q => ?_⟩
  exact UnaryOp_ (thn (ha.run pins s σ H _ I q) fun v s1 ⟨x, H1, I1, r1, r, hr, q1⟩ => hr X l h pins s1 σ H1 x v Q I1 r1 q1)
theorem pe_cmpA {op : CmpOp} (l : Like X0 X) (h : Pas X E) (ha : PE X a ta) (hb : PE X b tb) (hm : behindInMarks op b = false) : PE X (.Compare a [op] [b] pos) (tOpA X0 E (compareOp op) ta tb) := by
  refine ⟨fun pins s σ H Q I q => ?_⟩
  exact wpAny_Compare1 (binT ha hb I q fun v u s2 x y H2 I2 rx ry q => let ⟨r, hr, q⟩ := q; hr X l h pins s2 σ H2 x y v u Q I2 rx ry q) hm
theorem pt_cmpA {op : CmpOp} (l : Like X0 X) (h : Pas X E) (ha : PE X a ta) (hb : PE X b tb) (hm : behindInMarks op b = false) : PT X (.Compare a [op] [b] pos) (tTest (tOpA X0 E (compareOp op) ta tb)) := by
  refine ⟨fun pins s σ H Q I q => ?_⟩
  refine wpAny_isTrue_Compare1 (thn (ha.run pins s σ H _ I q) fun v s1 ⟨x, H1, I1, r1, q1⟩ => thn (hb.run pins s1 σ H1 _ I1 q1) fun u s2 ⟨y, H2, I2, r2, r, hr, q2⟩ =>
    thn (hr X l h pins s2 σ H2 x y v u _ I2 r1 r2 q2) fun c s3 ⟨z, H3, I3, r3, k, e, q3⟩ => ?_) hm
  subst e
  cases r3
  exact wpAny_truthy_bool ⟨H3, I3, q3⟩
theorem pe_chA {op op' : CmpOp} (l : Like X0 X) (h : Pas X E) (ha : PE X a ta) (hb : PE X b tb) (hc : PE X c tc) (hm : lastMarks [op, op'] [b, c] = false := by with_unfolding_all rfl) :
    PE X (.Compare a [op, op'] [b, c] pos) (tChA X0 E (compareOp op) (compareOp op') ta tb tc) := by
  refine ⟨fun pins s σ H Q I q => ?_⟩
  refine Compare_chain (thn (ha.run pins s σ H _ I q) fun v s1 ⟨x, H1, I1, r1, q1⟩ => chain_link (thn (hb.run pins s1 σ H1 _ I1 q1) fun u s2 ⟨y, H2, I2, r2, r, hr, q2⟩ =>
    thn (hr X l h pins s2 σ H2 x y v u _ I2 r1 r2 q2) fun d s3 ⟨z, H3, I3, r3, k, e, q3⟩ => ?_)) hm
  subst e
  cases r3
  refine wpAny_truthy_bool ?_
  cases k with
  | false => exact ite_ff ⟨.bl false, H3, I3, rfl, q3⟩
  | true => exact ite_tt (chain_last (thn (hc.run pins s3 σ H3 _ I3 q3) fun w' s4 ⟨z', H4, I4, r4, r', hr', q4⟩ => hr' X l h pins s4 σ H4 y z' u w' Q I4 r2 r4 q4))
theorem pt_chA {op op' : CmpOp} (l : Like X0 X) (h : Pas X E) (ha : PE X a ta) (hb : PE X b tb) (hc : PE X c tc) (hm : lastMarks [op, op'] [b, c] = false := by with_unfolding_all rfl) :
    PT X (.Compare a [op, op'] [b, c] pos) (tTest (tChA X0 E (compareOp op) (compareOp op') ta tb tc)) := by
  refine ⟨fun pins s σ H Q I q => ?_⟩
  refine isTrue_chain (thn (ha.run pins s σ H _ I q) fun v s1 ⟨x, H1, I1, r1, q1⟩ => test_link (thn (hb.run pins s1 σ H1 _ I1 q1) fun u s2 ⟨y, H2, I2, r2, r, hr, q2⟩ =>
    thn (hr X l h pins s2 σ H2 x y v u _ I2 r1 r2 q2) fun d s3 ⟨z, H3, I3, r3, k, e, q3⟩ => ?_)) hm
  subst e
  cases r3
  refine wpAny_truthy_bool ?_
  cases k with
  | false =>
    obtain ⟨k, e, q4⟩ := q3
    cases e
    exact ite_ff ⟨H3, I3, q4⟩
  | true =>
    refine ite_tt (test_last (thn (hc.run pins s3 σ H3 _ I3 q3) fun w' s4 ⟨z', H4, I4, r4, r', hr', q4⟩ => thn (hr' X l h pins s4 σ H4 y z' u w' _ I4 r2 r4 q4) fun d s5 ⟨z5, H5, I5, r5, k, e, q5⟩ => ?_))
    subst e
    cases r5
    exact wpAny_truthy_bool ⟨H5, I5, q5⟩
theorem pt_trA (l : Like X0 X) (h : Pas X E) (ha : PE X a ta) (he : ∀ whole, isTrue a X.env whole = (do let v ← whole; standAt a.pos; holding [v] (truthy v)) := by intro _; rfl) : PT X a (tTrA X0 E ta) := by
  refine ⟨fun pins s σ H Q I q => ?_⟩
  exact isTrue_plain (thn (ha.run pins s σ H _ I q) fun v s1 ⟨x, H1, I1, r1, r, hr, q1⟩ => hr X l h pins s1 σ H1 x v Q I1 r1 q1) (he _)
theorem pe_atA (l : Like X0 X) (h : Pas X E) {f : Str} (he : PE X e te) (hb : attributeBase e f X.env (eval e X.env) = eval e X.env := by rfl) : PE X (.Attribute e f pos) (tAtA X0 E f te) := by
  refine ⟨fun pins s σ H Q I q => ?_⟩
  refine attr_of hb (thn (he.run pins s σ H _ I q) fun u s1 ⟨x, H1, I1, rx, r, hr, q⟩ => hr X l h _ pins s1 σ H1 x u Q I1 rx q)
theorem pe_ixA (l : Like X0 X) (h : Pas X E) (ha : PE X a ta) (hb : PE X b tb) (hs : ∀ o i, subscripted b false o i = operate [o, i] (getItem o i) := by exact fun _ _ => rfl)
    (hs2 : ∀ o i, subscripted b true o i = runValue (.builtin "lifetime.subscript" ⟨[o, i], []⟩) := by exact fun _ _ => rfl) : PE X (.Subscript a b pos) (tIxA X0 E ta tb) := by
  refine ⟨fun pins s σ H Q I q => ?_⟩
  exact Subscript_ (binT ha hb I q fun v u s2 x y H2 I2 rx ry q => let ⟨r, hr, q⟩ := q; hr X l h a b pins s2 σ H2 x y v u Q I2 rx ry q (hs _ _) (hs2 _ _))
theorem pe_biA {id : String} (l : Like X0 X) (h : Pas X E) (hg : Gl X x) (hv : bootBuiltins x = some (.builtin id)) (ha : PA X (e :: es) t) (hn : x ≠ "__name__" := by decide) (hdb : (x == ("__debug__" : Str)) = false := by decide)
    (he : starEach (e :: es) X.env = (false, eval e X.env) :: starEach es X.env := by rfl) (hpl : (backTo pos (starEach es X.env)).any (·.1) = false := by rfl) : PE X (.Call (.Name x p) (e :: es) [] pos) (tBiA X0 E x (.builtin id) t) := by
  refine ⟨fun pins s σ H Q I ⟨hm, q⟩ => ?_⟩
  rw [← l.mg] at hm
  refine wpAny_Call_Name_kw (ld_blt I hg hm hv ?_ hn hdb)
  exact PyProof.Rows.callWith_builtin1 (thn (ha.run pos pins s σ H _ I q) fun us s1 ⟨vs, H1, I1, r1, r, hr, q1⟩ => hr X l h pins s1 σ H1 vs us Q I1 r1 q1) he hpl
theorem pe_tyA {T : String} (l : Like X0 X) (h : Pas X E) (hg : Gl X x) (hv : bootBuiltins x = some (.type T)) (ha : PA X (e :: es) t) (hn : x ≠ "__name__" := by decide) (hdb : (x == ("__debug__" : Str)) = false := by decide)
    (he : starEach (e :: es) X.env = (false, eval e X.env) :: starEach es X.env := by rfl) (hpl : (backTo pos (starEach es X.env)).any (·.1) = false := by rfl) : PE X (.Call (.Name x p) (e :: es) [] pos) (tBiA X0 E x (.type T) t) := by
  refine ⟨fun pins s σ H Q I ⟨hm, q⟩ => ?_⟩
  rw [← l.mg] at hm
  refine wpAny_Call_Name_kw (ld_blt I hg hm hv ?_ hn hdb)
  exact PyProof.Rows.callWith_type1 (thn (ha.run pos pins s σ H _ I q) fun us s1 ⟨vs, H1, I1, r1, r, hr, q1⟩ => hr X l h pins s1 σ H1 vs us Q I1 r1 q1) he hpl
theorem pe_glA (l : Like X0 X) (h : Pas X E) (hg : Gl X x) (ha : PA X (e :: es) t) (hdb : (x == ("__debug__" : Str)) = false := by decide) (he : starEach (e :: es) X.env = (false, eval e X.env) :: starEach es X.env := by rfl)
    (hpl : (backTo pos (starEach es X.env)).any (·.1) = false := by rfl) : PE X (.Call (.Name x p) (e :: es) [] pos) (tGlA X0 E x t) := by
  refine ⟨fun pins s σ H Q I ⟨f, hm, hk, q⟩ => ?_⟩
  rw [← l.mg] at hm
  rw [← l.K] at hk
  refine wpAny_Call_Name_kw (ld_glob I hg hm ?_ hdb)
  exact PySem.W.callWith_K (h₀ := X.base) I.ok.mod.kin hk (thn (ha.run pos pins s σ H _ I q) fun us s1 ⟨vs, H1, I1, r1, r, hr, q1⟩ => ⟨I1.kIn, hr X l h pins s1 σ H1 vs us Q I1 r1 q1⟩) he hpl
theorem pe_gl0 (l : Like X0 X) (h : Pas X E) (hg : Gl X x) (hdb : (x == ("__debug__" : Str)) = false := by decide) : PE X (.Call (.Name x p) [] [] pos) (tGlA X0 E x tNil) := by
  refine ⟨fun pins s σ H Q I ⟨f, hm, hk, r, hr, q⟩ => ?_⟩
  rw [← l.mg] at hm
  rw [← l.K] at hk
  refine wpAny_Call_Name_kw (ld_glob I hg hm ?_ hdb)
  exact PySem.W.callWith_K0 I.kIn hk (hr X l h pins s σ H [] [] Q I .nil q)
/-- x(*y) -/
def tGlS (X0 : Cx) (E : XK) (x : Str) (te : TE) : TE := fun σ H Q => ∃ f, X0.mg x = some (.ref f) ∧ PySem.W.keepIn X0.K (.ref f) = true ∧ te σ H fun y H1 => ∃ a xs, y = V.ref a ∧ (SqT X0.K H1 a xs ∨ SqL X0.K H1 a xs) ∧ ∃ r, CaD X0 E (.ref f) r ∧ r xs H1 Q
theorem pe_glS (l : Like X0 X) (h : Pas X E) (hg : Gl X x) (he : PE X e te) (hd : (x == ("__debug__" : Str)) = false := by decide) (hst : starEach [.Starred e sp_] X.env = [(true, eval e X.env)] := by rfl) :
    PE X (.Call (.Name x p) [.Starred e sp_] [] pos) (tGlS X0 E x te) := by
  refine ⟨fun pins s σ H Q I ⟨f, hm, hk, q⟩ => ?_⟩
  rw [← l.mg] at hm
  rw [← l.K] at hk
  refine wpAny_Call_Name_kw (ld_glob I hg hm ?_ hd)
  refine PySem.W.callWith_S (h₀ := X.base) I.ok.mod.kin hk (thn (he.run pins s σ H _ I q) fun v s1 ⟨y, H1, I1, ry, a, xs, ey, hxs, r, hr, q⟩ => ?_) hst
  subst ey
  obtain rfl : v = Value.ref a := ry
  rw [← l.K] at hxs
  exact StX.star_any I1 hxs fun us s2 I2 rv => ⟨I2.kIn, hr X l h pins s2 σ H1 xs us Q I2 rv q⟩
/-- x(e, .., *y) -/
theorem pe_glS2 (l : Like X0 X) (h : Pas X E) (hg : Gl X x) (ha : PA X (e :: es) t) (hd : (x == ("__debug__" : Str)) = false := by decide)
    (he : starEach (e :: es) X.env = (false, eval e X.env) :: starEach es X.env := by rfl) (hst : (backTo pos (starEach es X.env)).any (·.1) = true := by rfl) :
    PE X (.Call (.Name x p) (e :: es) [] pos) (tGlA X0 E x t) := by
  refine ⟨fun pins s σ H Q I ⟨f, hm, hk, q⟩ => ?_⟩
  rw [← l.mg] at hm
  rw [← l.K] at hk
  refine wpAny_Call_Name_kw (ld_glob I hg hm ?_ hd)
  exact PySem.W.callWith_S2 (h₀ := X.base) I.ok.mod.kin hk (thn (ha.run pos pins s σ H _ I q) fun us s1 ⟨vs, H1, I1, r1, r, hr, q1⟩ => ⟨I1.kIn, hr X l h pins s1 σ H1 vs us Q I1 r1 q1⟩) he hst
theorem pi_seq {tg e : Expr} (he : PE X e te) : PI X tg e (iSeq X.K te) := by
  refine ⟨fun pins s σ H R I q => ?_⟩
  refine thn (he.run pins s σ H _ I q) fun v s1 ⟨x, H1, I1, r1, a, ex, q1⟩ => ?_
  subst ex
  cases r1
  rcases q1 with ⟨⟨xs, hq⟩, q⟩ | ⟨⟨xs, hq⟩, q⟩
  · obtain ⟨its, rv, p, hz⟩ := I1.list hq
    refine wpAny_pyIter_list p.isList ?_
    refine ⟨s1.heap.objs.size, [s1.heap.objs.size], _, _, H1, rfl, I1.kept (t' := s1.toks) fun b o e => Heap.get?_push_of_some _ e, turn_list a _, ⟨_, Heap.get?_push_size _ rfl, rfl, rfl⟩, fun b hb => ?_, q⟩
    have e : b = s1.heap.objs.size := by simpa using hb
    subst e
    exact I1.fpOk (Nat.le_refl _) (I1.hok.fresh (Nat.le_refl _))
  · obtain ⟨its, rv, p, hz⟩ := I1.tuple hq
    refine wpAny_pyIter_tuple (show s1.heap.IsTuple a its.toArray from p) ?_
    refine ⟨s1.heap.objs.size, [s1.heap.objs.size], _, _, H1, rfl, I1.kept (t' := s1.toks) fun b o e => Heap.get?_push_of_some _ e, turn_tuple a _, ⟨_, Heap.get?_push_size _ rfl, rfl, rfl⟩, fun b hb => ?_, q⟩
    have e : b = s1.heap.objs.size := by simpa using hb
    subst e
    exact I1.fpOk (Nat.le_refl _) (I1.hok.fresh (Nat.le_refl _))
end
end Odd

namespace Odd
open PySem PySem.Spec PyProof.Rows L2

/-! ### more rules -/
section
variable {X0 X : Cx} {E : XK} {a b e : Expr} {rest : List Expr} {ta tb te : TE} {pos p p2 : Pos} {x m : Str}
/-- not e as a value, by any truth -/
def tNotA (X0 : Cx) (E : XK) (ta : TE) : TE := fun σ H Q => ta σ H fun x H1 => ∃ r, TrD X0 E r ∧ r x H1 fun c H2 => Q (.bl (!c)) H2
theorem pe_notA (l : Like X0 X) (h : Pas X E) (ha : PE X a ta) : PE X (.UnaryOp .Not a pos) (tNotA X0 E ta) := by
  refine ⟨fun pins s σ H Q I q => ?_⟩
  refine UnaryOp_ (thn (ha.run pins s σ H _ I q) fun v s1 ⟨x, H1, I1, r1, r, hr, q1⟩ => ?_)
  exact not_of (thn (hr X l h pins s1 σ H1 x v (fun c H2 => Q (.bl (!c)) H2) I1 r1 q1) fun c s2 ⟨H2, I2, q2⟩ => ⟨.bl (!c), H2, I2, rfl, q2⟩)
/-- a built-in class as a value; a class or def of the module as a value -/
def tBvA (X0 : Cx) (x : Str) (v : V) : TE := fun σ H Q => X0.mg x = none ∧ Q v H
theorem pe_bvA {v : V} {u : Value} (l : Like X0 X) (hg : Gl X x) (hv : bootBuiltins x = some u) (r : RelV v u) (hn : x ≠ "__name__" := by decide) (hd : (x == ("__debug__" : Str)) = false := by decide) : PE X (.Name x pos) (tBvA X0 x v) :=
  ⟨fun pins s σ H Q I ⟨hm, q⟩ => ld_blt I hg (by rw [l.mg]; exact hm) hv ⟨v, H, I, r, q⟩ hn hd⟩
def tGvA (X0 : Cx) (x : Str) : TE := fun σ H Q => ∃ f, X0.mg x = some (.ref f) ∧ Q (.ref f) H
theorem pe_gvA (l : Like X0 X) (hg : Gl X x) (hd : (x == ("__debug__" : Str)) = false := by decide) : PE X (.Name x pos) (tGvA X0 x) :=
  ⟨fun pins s σ H Q I ⟨f, hm, q⟩ => ld_glob I hg (by rw [l.mg]; exact hm) ⟨.ref f, H, I, rfl, q⟩ hd⟩
/-- x op= e -/
def tAugA (X0 : Cx) (E : XK) (i : Nat) (f : Value → Value → Sem Value) (te : TE) : TS := tAug i te (fun x y H Q => ∃ r, OpD X0 E f r ∧ r x y H Q)
theorem ps_augA {op : Operator} {i : Nat} {pos' : Pos} (l : Like X0 X) (h : Pas X E) (hN : X.N.Nodup) (hi : X.N[i]? = some x) (hx : Loc X.env.scope x) (he : PE X e te) (hf : X.fn x = true ∨ X.env.scope.names.lookup x = some .local := by first | exact .inl rfl | exact .inr rfl | assumption) :
    PS X (.AugAssign (.Name x pos') op e pos) (tAugA X0 E i (inplaceOp op) te) :=
  ps_aug hN hi hx he (fun pins s σ H x y v u Q I rx ry ⟨r, hr, q⟩ => hr X l h pins s σ H x y v u Q I rx ry q) hf
/-- an own exception class without an __init__ -/
structure ExcC (K : PySem.W.Frag) (mg : Str → Option Value) (x : Str) (C : Addr) : Prop where
  mg : mg x = some (.ref C)
  exc : PySem.W.excIn K C [.type "ValueError", .type "Exception", .type "BaseException", .type "object"] "ValueError.__new__" = true
  kp : PySem.W.keepIn K (.ref C) = true
  sub : PySem.W.subIn K (.ref C) (.type "BaseException") = some true
  ty : PySem.W.typeIn K (.ref C) = some (.type "type")
/-- raise x('..') -/
def tRaA (X0 : Cx) (W : WX) (x : Str) : TS := fun _ σ H => ∃ C, ExcC X0.K X0.mg x C ∧ W (.ref C) none σ H
theorem ps_raA {W : WX} {j : Nat} {pos' : Pos} (hc : X.calm = true) (tk : Takes X W) (hg : Gl X x) (hdb : (x == ("__debug__" : Str)) = false := by decide) :
    PS X (.Raise (some (.Call (.Name x p) [.Constant (.str m) j p2] [] pos')) none pos) (tRaA X W x) := by
  refine ⟨fun pins s σ H D I ⟨C, c, q⟩ => ?_⟩
  exact (ps_raise hc tk (pmk_own PySem.F.excBase_ValueError c.exc c.mg c.kp (raises_own c.sub c.ty) hg hdb)).run pins s σ H D I q
end
section
variable {P : Program} {w : World} {K : PySem.W.Frag} {mg : Str → Option Value} {base : Heap} {N : List Str} {qual : Str} {sc : Scope} {f : Addr} {cd : Value} {A : Around} {outer : List Env} {s : Shared} {H : Hp} {E : XK}
theorem tk_main : Takes (cxOf (L2.CX P w) P w K mg base N qual sc f cd A outer s H E) (fun cls d _ H => E cls d H) := takes_of rfl rfl rfl rfl
theorem pas_main : Pas (cxOf (L2.CX P w) P w K mg base N qual sc f cd A outer s H E) E := passes_call tk_main fun _ _ _ _ h => h
theorem own_main : PassesOwn (model P w) (cxOf (L2.CX P w) P w K mg base N qual sc f cd A outer s H E).A (cxOf (L2.CX P w) P w K mg base N qual sc f cd A outer s H E).env (cxOf (L2.CX P w) P w K mg base N qual sc f cd A outer s H E).xe := passes_of rfl
end

/-! ### the steps of a reading -/
section
variable {X0 : Cx} {E : XK} {σ : L2.St} {H : Hp} {Q : VK} {QB : Bool → Hp → Prop} {QA : List V → Hp → Prop} {D : Ends} {ta tb tc te : TE} {t u : TT} {tr : TA} {ts tz : TS} {v : V} {i : Nat} {g : TG} {f : Value → Value → Sem Value} {f1 : Value → Sem Value} {x : Str} {uu : Value}
theorem w_var (h : σ[i]? = some (some v)) (q : Q v H) : tVar i σ H Q := ⟨v, h, q⟩
theorem w_c (q : Q v H) : tC v σ H Q := q
theorem w_op (h : ta σ H fun x H1 => tb σ H1 fun y H2 => ∃ r, OpD X0 E f r ∧ r x y H2 Q) : tOpA X0 E f ta tb σ H Q := h
theorem w_un (h : ta σ H fun x H1 => ∃ r, UnD X0 E f1 r ∧ r x H1 Q) : tUnA X0 E f1 ta σ H Q := h
theorem w_at (h : ta σ H fun y H1 => ∃ r, AtD X0 E x r ∧ r y H1 Q) : tAtA X0 E x ta σ H Q := h
theorem w_ix (h : ta σ H fun x H1 => tb σ H1 fun y H2 => ∃ r, IxD X0 E r ∧ r x y H2 Q) : tIxA X0 E ta tb σ H Q := h
theorem w_tr (h : ta σ H fun x H1 => ∃ r, TrD X0 E r ∧ r x H1 QB) : tTrA X0 E ta σ H QB := h
theorem w_notA (h : ta σ H fun x H1 => ∃ r, TrD X0 E r ∧ r x H1 fun c H2 => Q (.bl (!c)) H2) : tNotA X0 E ta σ H Q := h
theorem w_ch {f2 : Value → Value → Sem Value} (h : ta σ H fun x H1 => tb σ H1 fun y H2 => ∃ r, OpD X0 E f r ∧ r x y H2 fun z H3 => ∃ k, z = .bl k ∧ (if k = true then tc σ H3 fun w' H4 => ∃ r', OpD X0 E f2 r' ∧ r' y w' H4 Q else Q (.bl false) H3)) :
    tChA X0 E f f2 ta tb tc σ H Q := h
theorem w_bi (hm : X0.mg x = none) (h : tr σ H fun vs H1 => ∃ r, CaD X0 E uu r ∧ r vs H1 Q) : tBiA X0 E x uu tr σ H Q := ⟨hm, h⟩
theorem w_gl {a : Addr} (hm : X0.mg x = some (.ref a)) (hk : PySem.W.keepIn X0.K (.ref a) = true) (h : tr σ H fun vs H1 => ∃ r, CaD X0 E (.ref a) r ∧ r vs H1 Q) : tGlA X0 E x tr σ H Q := ⟨a, hm, hk, h⟩
theorem w_glS {a : Addr} (hm : X0.mg x = some (.ref a)) (hk : PySem.W.keepIn X0.K (.ref a) = true) (h : te σ H fun y H1 => ∃ b xs, y = V.ref b ∧ (SqT X0.K H1 b xs ∨ SqL X0.K H1 b xs) ∧ ∃ r, CaD X0 E (.ref a) r ∧ r xs H1 Q) : tGlS X0 E x te σ H Q := ⟨a, hm, hk, h⟩
theorem w_bv (hm : X0.mg x = none) (q : Q v H) : tBvA X0 x v σ H Q := ⟨hm, q⟩
theorem w_gv {a : Addr} (hm : X0.mg x = some (.ref a)) (q : Q (.ref a) H) : tGvA X0 x σ H Q := ⟨a, hm, q⟩
theorem w_nil (q : QA [] H) : tNil σ H QA := q
theorem w_cons (h : ta σ H fun x H1 => tr σ H1 fun xs H2 => QA (x :: xs) H2) : tCons ta tr σ H QA := h
theorem w_tup (h : tr σ H fun xs H1 => xs.length ≤ sizeLine ∧ ∀ p, H1 p = none → Q (.ref p) (upd H1 p (.tup xs))) : tTup tr σ H Q := h
theorem w_lst (h : tr σ H fun xs H1 => xs.length ≤ sizeLine ∧ ∀ p, H1 p = none → Q (.ref p) (upd H1 p (.lst xs))) : tLst tr σ H Q := h
theorem w_test (h : ta σ H fun x H' => ∃ k, x = .bl k ∧ QB k H') : tTest ta σ H QB := h
theorem w_and (h : t σ H fun c H1 => if c = true then u σ H1 QB else QB false H1) : tAnd t u σ H QB := h
theorem w_or (h : t σ H fun c H1 => if c = true then QB true H1 else u σ H1 QB) : tOr t u σ H QB := h
theorem w_not (h : t σ H fun c H1 => QB (!c) H1) : tNot t σ H QB := h
theorem w_andV (h : ta σ H fun x H1 => ∃ c, x = .bl c ∧ if c = true then tb σ H1 Q else Q (.bl false) H1) : tAndV ta tb σ H Q := h
theorem w_orV (h : ta σ H fun x H1 => ∃ c, x = .bl c ∧ if c = true then Q (.bl true) H1 else tb σ H1 Q) : tOrV ta tb σ H Q := h
theorem w_ifx (h : t σ H fun c H1 => if c = true then ta σ H1 Q else tb σ H1 Q) : tIf t ta tb σ H Q := h
theorem w_seq (h : ts { D with nx := tz D } σ H) : tSeq ts tz D σ H := h
theorem w_asg (h : te σ H fun x H1 => g x σ H1 D.nx) : tAsg te g D σ H := h
theorem w_name {R : L2.St → Hp → Prop} (h : R (σ.set i (some v)) H) : gName i v σ H R := h
theorem w_ret (h : te σ H D.rt) : tRet te D σ H := h
theorem w_retN (h : D.rt .non H) : tRetN D σ H := h
theorem w_next (h : D.nx σ H) : tNext D σ H := h
theorem w_drop (h : te σ H fun _ H1 => D.nx σ H1) : tDrop te D σ H := h
theorem w_if (h : t σ H fun b H1 => if b = true then ts D σ H1 else tz D σ H1) : tIfS t ts tz D σ H := h
theorem w_fld {K : PySem.W.Frag} {fl : Str} (h : tb σ H fun y H1 => ta σ H1 fun x H2 => ∃ a C dx fs, x = .ref a ∧ H2 a = some (.ins C dx fs) ∧ Cls K C ∧ NoAttr K C fl ∧ fs.length < 1000 ∧ D.nx σ (upd H2 a (.ins C dx (putF fl y fs)))) : sFld K ta tb fl D σ H := h
theorem ite_d {p : Prop} [Decidable p] {A B : Prop} (h1 : p → A) (h2 : ¬ p → B) : if decide p = true then A else B := by
  by_cases h : p
  · rw [decide_eq_true h]; exact iteT (h1 h)
  · rw [decide_eq_false h]; exact iteF (h2 h)
theorem ite_n {p : Prop} [Decidable p] {A B : Prop} (h1 : ¬ p → A) (h2 : p → B) : if (!decide p) = true then A else B := by
  by_cases h : p
  · rw [decide_eq_true h]; exact iteF (h2 h)
  · rw [decide_eq_false h]; exact iteT (h1 h)
theorem ite_nf {A B : Prop} (h : A) : if (!false) = true then A else B := iteT h
theorem ite_nt {A B : Prop} (h : B) : if (!true) = true then A else B := iteF h
theorem bl_ex {k : Bool} {R : Bool → Prop} (h : R k) : ∃ c, V.bl k = V.bl c ∧ R c := ⟨k, rfl, h⟩
end
/-! ### what may be chosen: ints -/
section
variable {X0 : Cx} {E : XK} {H : Hp} {Q : VK} {i j : Int} {QB : Bool → Hp → Prop}
theorem s_add (q : Q (.int (i + j)) H) : ∃ r, OpD X0 E (binaryOp .Add) r ∧ r (.int i) (.int j) H Q := ⟨_, fun _ _ _ => op_add, i, j, rfl, rfl, q⟩
theorem s_sub (q : Q (.int (i - j)) H) : ∃ r, OpD X0 E (binaryOp .Sub) r ∧ r (.int i) (.int j) H Q := ⟨_, fun _ _ _ => op_sub, i, j, rfl, rfl, q⟩
theorem s_lt (q : Q (.bl (decide (i < j))) H) : ∃ r, OpD X0 E (compareOp .Lt) r ∧ r (.int i) (.int j) H Q := ⟨_, fun _ _ _ => op_lt, i, j, rfl, rfl, q⟩
theorem s_le (q : Q (.bl (decide (i ≤ j))) H) : ∃ r, OpD X0 E (compareOp .LtE) r ∧ r (.int i) (.int j) H Q := ⟨_, fun _ _ _ => op_le, i, j, rfl, rfl, q⟩
theorem s_gt (q : Q (.bl (decide (j < i))) H) : ∃ r, OpD X0 E (compareOp .Gt) r ∧ r (.int i) (.int j) H Q := ⟨_, fun _ _ _ => op_gt, i, j, rfl, rfl, q⟩
theorem s_ge (q : Q (.bl (decide (j ≤ i))) H) : ∃ r, OpD X0 E (compareOp .GtE) r ∧ r (.int i) (.int j) H Q := ⟨_, fun _ _ _ => op_ge, i, j, rfl, rfl, q⟩
theorem s_eqI (q : Q (.bl (decide (i = j))) H) : ∃ r, OpD X0 E (compareOp .Eq) r ∧ r (.int i) (.int j) H Q := ⟨_, fun _ _ _ => op_eq, rfl, by rw [dec_int, Bool.beq_eq_decide_eq]; exact q⟩
theorem s_neI (q : Q (.bl (!decide (i = j))) H) : ∃ r, OpD X0 E (compareOp .NotEq) r ∧ r (.int i) (.int j) H Q := ⟨_, fun _ _ _ => op_ne, rfl, by rw [dec_int, Bool.beq_eq_decide_eq]; exact q⟩
theorem s_eqB {b c : Bool} (q : Q (.bl (decide (b = c))) H) : ∃ r, OpD X0 E (compareOp .Eq) r ∧ r (.bl b) (.bl c) H Q := ⟨_, fun _ _ _ => op_eq, rfl, by rw [dec_bl, Bool.beq_eq_decide_eq]; exact q⟩
theorem s_neB {b c : Bool} (q : Q (.bl (!decide (b = c))) H) : ∃ r, OpD X0 E (compareOp .NotEq) r ∧ r (.bl b) (.bl c) H Q := ⟨_, fun _ _ _ => op_ne, rfl, by rw [dec_bl, Bool.beq_eq_decide_eq]; exact q⟩
theorem s_mul (h : CMul i j) (q : Q (.int (i * j)) H) : ∃ r, OpD X0 E (binaryOp .Mult) r ∧ r (.int i) (.int j) H Q := ⟨_, fun _ _ _ => op_mul, i, j, rfl, rfl, h, q⟩
theorem s_mod (h : 0 < j) (q : Q (.int (i % j)) H) : ∃ r, OpD X0 E (binaryOp .Mod) r ∧ r (.int i) (.int j) H Q := ⟨_, fun _ _ _ => op_mod, i, j, rfl, rfl, h, q⟩
theorem s_fdiv (h : CDiv i j) (q : Q (.int (i / j)) H) : ∃ r, OpD X0 E (binaryOp .FloorDiv) r ∧ r (.int i) (.int j) H Q := ⟨_, fun _ _ _ => op_fdiv, i, j, rfl, rfl, h, q⟩
theorem s_pow (h : CPow i j) (q : Q (.int (i ^ j.toNat)) H) : ∃ r, OpD X0 E (binaryOp .Pow) r ∧ r (.int i) (.int j) H Q := ⟨_, fun _ _ _ => op_pow, i, j, rfl, rfl, h, q⟩
theorem s_neg (q : Q (.int (-i)) H) : ∃ r, UnD X0 E (unaryOp .USub) r ∧ r (.int i) H Q := ⟨_, fun _ _ _ => un_neg, i, rfl, q⟩
theorem s_truB {b : Bool} (q : QB b H) : ∃ r, TrD X0 E r ∧ r (.bl b) H QB := ⟨fun x H Q => ∃ k, TruV X0.K x H k ∧ Q k H, fun X l _ => by rw [← l.K]; exact tru_ok, b, rfl, q⟩
theorem s_truI (q : QB (i != 0) H) : ∃ r, TrD X0 E r ∧ r (.int i) H QB := ⟨fun x H Q => ∃ k, TruV X0.K x H k ∧ Q k H, fun X l _ => by rw [← l.K]; exact tru_ok, _, rfl, q⟩
/-- isinstance(x, T), a built-in T -/
theorem s_isi {x : V} {t : Value} {n : String} {b : Bool} (ty : TyX X0.K H x t) (hk : PySem.W.kitOne X0.K t (.type n) = some b) (q : Q (.bl b) H) : ∃ r, CaD X0 E (.builtin "isinstance") r ∧ r [x, .ty n] H Q :=
  ⟨rIsi X0.K, fun X l _ => by rw [← l.K]; exact call_isi, x, .ty n, t, .type n, b, rfl, .ty n, ty, hk, q⟩
theorem s_isiI {n : String} {b : Bool} (hk : kitB "int" n = some b) (q : Q (.bl b) H) : ∃ r, CaD X0 E (.builtin "isinstance") r ∧ r [.int i, .ty n] H Q := s_isi (.base (.int i)) (kit_ty hk) q
/-- a def -/
theorem s_fn {k : Nat} {f : Addr} {sp : Sp} {vs : List V} (F : Fn X0 k f sp) (hr : Room k X0.A) (q : sp vs H Q E) : ∃ r, CaD X0 E (.ref f) r ∧ r vs H Q :=
  ⟨fun vs H Q => sp vs H Q E, fun X l h pins s σ H xs us Q I r q => call_ref (l.fn F) (l.room hr) h I r q, q⟩
/-- a class with an __init__ -/
theorem s_mk {k : Nat} {C f : Addr} {sp : Sp} {vs : List V} (M : Mk X0.K C f) (F : Fn X0 k f sp) (hr : Room (k + 1) X0.A)
    (q : ∀ x dx, H x = none → H dx = none → dx ≠ x → sp (V.ref x :: vs) (upd (upd H dx (.own x)) x (.ins C dx [])) (fun v H2 => v = .non ∧ Q (.ref x) H2) E) : ∃ r, CaD X0 E (.ref C) r ∧ r vs H Q :=
  ⟨fun vs H Q => ∀ x dx, H x = none → H dx = none → dx ≠ x → sp (V.ref x :: vs) (upd (upd H dx (.own x)) x (.ins C dx [])) (fun v H2 => v = .non ∧ Q (.ref x) H2) E,
    fun X l h pins s σ H xs us Q I r q => StX.run_makeR (by rw [l.K]; exact M) (l.fn F) (l.room hr) h I r q, q⟩
/-- x.f, an attribute of the instance -/
theorem s_fld {a C dx : Addr} {fs : List (Str × V)} {f : Str} {v : V} (e : H a = some (.ins C dx fs)) (c : Cls X0.K C) (n : NoAttr X0.K C f) (lk : fs.lookup f = some v) (q : Q v H) : ∃ r, AtD X0 E f r ∧ r (.ref a) H Q :=
  ⟨fun x H Q => ∃ a C dx fs v, x = .ref a ∧ H a = some (.ins C dx fs) ∧ Cls X0.K C ∧ NoAttr X0.K C f ∧ fs.lookup f = some v ∧ Q v H,
    fun X l h b pins s σ H x u Q I rx ⟨a, C, dx, fs, v, ex, e, c, n, lk, q⟩ => by
      subst ex
      obtain rfl : u = Value.ref a := rx
      rw [← l.K] at c n
      exact getattr_ok I e c n lk fun u' s2 I2 ru => ⟨v, H, I2, ru, q⟩, a, C, dx, fs, v, rfl, e, c, n, lk, q⟩
end
end Odd

namespace Odd
open PySem PySem.Spec PyProof.Rows L2

/-- x op n with n an int: neither side's type meddles -/
structure OpInt (K : PySem.W.Frag) (C : Addr) (m r : Str) : Prop where
  rr : PySem.W.findIn K (.ref C) r = some none
  h1 : ∃ fo, PySem.W.findIn K (.type "int") m = some fo
  h2 : ∃ ro, PySem.W.findIn K (.type "int") r = some ro
  sb : PySem.W.subIn K (.type "int") (.ref C) = some false
/-- x != y by the own == -/
structure OwnNe (K : PySem.W.Frag) (C : Addr) : Prop where
  ne : PySem.W.findIn K (.ref C) "__ne__" = some (some (.builtin "object.__ne__"))
  own : PySem.W.notFirst K C (.ref C) = true
  tup : PySem.W.notFirst K C (.type "tuple") = true

section
variable {X : Cx} {CX : CXT} {pins : List (Addr × Obj)} {σ : L2.St} {H : Hp} {s : Shared} {a C dx g : Addr} {fs : List (Str × V)} {n : Nat} {sp : Sp} {E : XK}

/-- x == y (and <, ..), x an instance of the class at C, y of a type that does not go first -/
def rCmpI (K : PySem.W.Frag) (C : Addr) (sp : Sp) (E : XK) : R2 := fun x y H Q => ∃ a dx fs t, x = .ref a ∧ H a = some (.ins C dx fs) ∧ TyX K H y t ∧ PySem.W.notFirst K C t = true ∧ sp [x, y] H Q E
theorem op_cmpI {op : CmpOp} (hop : ∀ a b, compareOp op a b = richCompare op a b) (hs : PySem.W.findIn X.K (.ref C) (cmpInfo op).2.1 = some (some (.ref g))) (hf : PySem.W.isFn X.K (.ref g) = true) (F : FnR X.prog X.w X.K X.mg X.base CX n g sp)
    (hr : Room n X.A) (hx : Passes CX X E) : OpR X (compareOp op) (rCmpI X.K C sp E) := by
  intro pins s σ H x y v u Q I rx ry h
  obtain ⟨a, dx, fs, t, rfl, ha, ty, hn, q⟩ := h
  cases (show v = Value.ref a from rx)
  obtain ⟨ox, od, J⟩ := inst_at I ha
  obtain ⟨PP, Z, hz, _⟩ := kit_of I ry ty
  obtain ⟨m, hF⟩ := I.fr
  rw [hop]
  refine PySem.W.cmp_K (op := op) (tb := t) hr.units0 hF I.ok.mod.kin J (Z.ty _ _ I.kIn hz) hn hs hf (wpAny_mono (call_ref (vs := [.ref a, y]) F hr hx I (.cons rfl (.cons ry .nil)) q) (fun w s' z => ?_) fun _ _ x => x)
  obtain ⟨z', H', I', rz, qz⟩ := z
  exact SlX.cmpback rz ⟨z', H', I', rz, qz⟩

/-- x[i] -/
def rIxI (C : Addr) (sp : Sp) (E : XK) : R2 := fun x y H Q => ∃ a dx fs, x = .ref a ∧ H a = some (.ins C dx fs) ∧ sp [x, y] H Q E
theorem fnIn_fun {K : PySem.W.Frag} {x qual : Str} {st : Stmt} {f : Addr} {fd : FuncData} (F : Fun K x qual st f fd) : PySem.W.fnIn K f = true := by
  obtain ⟨oc, od, kV, doc, pm, an, cdv, ct, osl, rfl, lk, hcd⟩ := F.ex
  unfold PySem.W.fnIn
  rw [lk]
theorem ix_ins (hs : PySem.W.findIn X.K (.ref C) "__getitem__" = some (some (.ref g))) (hf : PySem.W.fnIn X.K g = true) (hfn : PySem.W.isFn X.K (.ref g) = true) (F : FnR X.prog X.w X.K X.mg X.base CX n g sp)
    (hr : Room (n + 1) X.A) (hx : Passes CX X E) : IxO X (rIxI C sp E) := by
  intro value slice pins s σ H x y v u Q I rx ry h _ hsl
  obtain ⟨a, dx, fs, rfl, ha, q⟩ := h
  cases (show v = Value.ref a from rx)
  obtain ⟨ox, od, J⟩ := inst_at I ha
  obtain ⟨m, hF⟩ := I.fr
  exact PySem.W.sub_K hF I.ok.mod.kin J hs hf hfn (call_in1 (vs := [.ref a, y]) F hr hx I (.cons rfl (.cons ry .nil)) q) hsl
theorem ix_plain {r : R2} (h : IxR X r) : IxO X r := fun value slice pins s σ H x y v u Q I rx ry q h1 _ => h value slice pins s σ H x y v u Q I rx ry q h1

/-- a property that raises nothing -/
def rPropI (C : Addr) (sp : Sp) : V → Hp → VK → Prop := fun x H Q => ∃ a dx fs, x = .ref a ∧ H a = some (.ins C dx fs) ∧ sp [x] H Q E0
theorem at_prop {f : Str} {p : Addr} (c : Cls X.K C) (hp : PropOf X.K C f p g) (F : FnR X.prog X.w X.K X.mg X.base (L2.CX X.prog X.w) n g sp) (hr : Room (n + 1) X.A) : AtR X f (rPropI C sp) := by
  intro b pins s σ H x v Q I rx h
  obtain ⟨a, dx, fs, rfl, ha, q⟩ := h
  cases (show v = Value.ref a from rx)
  obtain ⟨ox, od, J⟩ := inst_at I ha
  obtain ⟨rest, hrec⟩ := hp.rec_
  have I1 : Inv X pins σ H { s with toks := s.toks + 1 } := I.tok (s.toks + 1)
  have hc : (PySem.W.clsIn X.K C).isSome = true := by
    obtain ⟨cd, hc, _⟩ := PySem.W.any_some c.hd
    rw [hc]
    rfl
  refine PySem.W.get_bind I.kIn J (PySem.W.plainGet_of (c.get f)).1 (PySem.W.findObj_data hc hp.at_ hp.get hp.tak) (PySem.W.plainGet_of (c.get f)).2 (wpAny_call (PySem.W.prop_get (s := { s with toks := s.toks + 1 }) I.kIn hrec ?_))
  refine codeAny_mono (F X.A.in1 X.stack { s with toks := s.toks + 1 } H [.ref a] [.ref a] Q E0 hr.in1 I1.env0.in1 (.cons rfl .nil) q) fun r s' hq => ?_
  cases r with
  | error er =>
    obtain ⟨_, _, _, _, _, _, _, _, _, _, _, _, z⟩ := hq
    exact z.elim
  | ok fl =>
    cases fl with
    | ret u =>
      obtain ⟨v, H', I3, rv, q3⟩ := I1.after hq
      exact wpAny_of_eq (PySem.W.handedOut_of (handed_of rv)) ⟨v, H', I3, rv, q3⟩
    | next => exact False.elim hq
    | brk => exact False.elim hq
    | cont => exact False.elim hq
end

section
variable {X0 : Cx} {E : XK} {H : Hp} {Q : VK} {k : Nat} {C g a b dx dy : Addr} {fs gs : List (Str × V)} {sp : Sp} {m f : Str} {y : V}
/-- both instances of one class -/
theorem s_opSame {op : Operator} (hc : PySem.W.selfFirst X0.K C = true) (M : Meth X0.K C m g) (hm : PySem.dunder op.info.2 = m) (F : Fn X0 k g sp) (hr : Room k X0.A) (ha : H a = some (.ins C dx fs)) (hb : H b = some (.ins C dy gs)) (q : sp [.ref a, .ref b] H Q E) :
    ∃ r, OpD X0 E (binaryOp op) r ∧ r (.ref a) (.ref b) H Q := by
  subst hm
  exact ⟨rOpSame C sp E, fun X l h => op_same (by rw [l.K]; exact hc) (by rw [l.K]; exact M.at_) (by rw [l.K]; exact M.fn) (l.fn F) (l.room hr) h, a, b, dx, dy, fs, gs, rfl, rfl, ha, hb, q⟩
theorem s_opInt {op : Operator} {r' : Str} {i : Int} (hc : PySem.W.selfFirst X0.K C = true) (M : Meth X0.K C m g) (O : OpInt X0.K C m r') (hm : PySem.dunder op.info.2 = m) (hr' : dunderR op.info.2 = r') (F : Fn X0 k g sp) (hr : Room k X0.A) (ha : H a = some (.ins C dx fs))
    (q : sp [.ref a, .int i] H Q E) : ∃ r, OpD X0 E (binaryOp op) r ∧ r (.ref a) (.int i) H Q := by
  subst hm hr'
  obtain ⟨fo, h1⟩ := O.h1
  obtain ⟨ro, h2⟩ := O.h2
  exact ⟨rOpInt C sp E, fun X l h => op_int (by rw [l.K]; exact hc) (by rw [l.K]; exact M.at_) (by rw [l.K]; exact M.fn) (by rw [l.K]; exact O.rr) (.inl rfl) (by rw [l.K]; exact h1) (by rw [l.K]; exact h2) (by rw [l.K]; exact O.sb) (l.fn F) (l.room hr) h,
    a, i, dx, fs, rfl, rfl, ha, q⟩
theorem s_negI (M : Meth X0.K C "__neg__" g) (F : Fn X0 k g sp) (hr : Room k X0.A) (ha : H a = some (.ins C dx fs)) (q : sp [.ref a] H Q E) : ∃ r, UnD X0 E (unaryOp .USub) r ∧ r (.ref a) H Q :=
  ⟨rNeg C sp E, fun X l h => un_ins (by rw [l.K]; exact M.at_) (by rw [l.K]; exact M.fn) (l.fn F) (l.room hr) h, a, dx, fs, rfl, ha, q⟩
theorem s_absI (M : Meth X0.K C "__abs__" g) (F : Fn X0 k g sp) (hr : Room (k + 1) X0.A) (ha : H a = some (.ins C dx fs)) (q : sp [.ref a] H Q E) : ∃ r, CaD X0 E (.builtin "abs") r ∧ r [.ref a] H Q :=
  ⟨rAbsI C sp E, fun X l h => call_absI (by rw [l.K]; exact M.at_) (by rw [l.K]; exact M.fn) (l.fn F) (l.room hr) h, a, dx, fs, rfl, ha, q⟩
theorem s_lenI (M : Meth X0.K C "__len__" g) (F : Fn X0 k g sp) (hr : Room (k + 1) X0.A) (ha : H a = some (.ins C dx fs)) (q : sp [.ref a] H (fun z H' => ∃ i, z = .int i ∧ 0 ≤ i ∧ i < 2 ^ 63 ∧ Q z H') E) : ∃ r, CaD X0 E (.builtin "len") r ∧ r [.ref a] H Q :=
  ⟨rLenI C sp E, fun X l h => call_lenI (by rw [l.K]; exact M.at_) (by rw [l.K]; exact M.fn) (l.fn F) (l.room hr) h, a, dx, fs, rfl, ha, q⟩
theorem s_ixI {x qual : Str} {st : Stmt} {fd : FuncData} (M : Meth X0.K C "__getitem__" g) (U : Fun X0.K x qual st g fd) (F : Fn X0 k g sp) (hr : Room (k + 1) X0.A) (ha : H a = some (.ins C dx fs)) (q : sp [.ref a, y] H Q E) :
    ∃ r, IxD X0 E r ∧ r (.ref a) y H Q :=
  ⟨rIxI C sp E, fun X l h => ix_ins (by rw [l.K]; exact M.at_) (by rw [l.K]; exact fnIn_fun U) (by rw [l.K]; exact M.fn) (l.fn F) (l.room hr) h, a, dx, fs, rfl, ha, q⟩
theorem s_prop {p : Addr} (c : Cls X0.K C) (hp : PropOf X0.K C f p g) (F : Fn X0 k g sp) (hr : Room (k + 1) X0.A) (ha : H a = some (.ins C dx fs)) (q : sp [.ref a] H Q E0) : ∃ r, AtD X0 E f r ∧ r (.ref a) H Q :=
  ⟨rPropI C sp, fun X l h => at_prop (by rw [l.K]; exact c) (by rw [l.K]; exact hp) (l.fn F) (l.room hr), a, dx, fs, rfl, ha, q⟩
theorem s_eqOwn {t : Value} (M : Meth X0.K C "__eq__" g) (F : Fn X0 k g sp) (hr : Room k X0.A) (ha : H a = some (.ins C dx fs)) (ty : TyX X0.K H y t) (hn : PySem.W.notFirst X0.K C t = true) (q : sp [.ref a, y] H Q E) :
    ∃ r, OpD X0 E (compareOp .Eq) r ∧ r (.ref a) y H Q :=
  ⟨rCmpI X0.K C sp E, fun X l h => by rw [← l.K]; exact op_cmpI (op := .Eq) (fun _ _ => rfl) (by rw [l.K]; exact M.at_) (by rw [l.K]; exact M.fn) (l.fn F) (l.room hr) h, a, dx, fs, t, rfl, ha, ty, hn, q⟩
theorem s_ixL {xs : List V} {i : Int} {v : V} (h : SqL X0.K H a xs) (ha : atI xs i = some v) (q : Q v H) : ∃ r, IxD X0 E r ∧ r (.ref a) (.int i) H Q :=
  ⟨rIxL X0.K, fun X l _ => by rw [← l.K]; exact ix_plain ix_list, a, xs, i, v, rfl, rfl, h, ha, q⟩
theorem s_ixT {xs : List V} {i : Int} {v : V} (h : SqT X0.K H a xs) (ha : atI xs i = some v) (q : Q v H) : ∃ r, IxD X0 E r ∧ r (.ref a) (.int i) H Q :=
  ⟨rIxT X0.K, fun X l _ => by rw [← l.K]; exact ix_plain ix_tup, a, xs, i, v, rfl, rfl, h, ha, q⟩
/-- len of a list, of a tuple -/
theorem s_lenL {xs : List V} (h : SqL X0.K H a xs) (q : Q (.int xs.length) H) : ∃ r, CaD X0 E (.builtin "len") r ∧ r [.ref a] H Q :=
  ⟨fun vs H Q => ∃ x n, vs = [x] ∧ LenV X0.K x H n ∧ Q (.int n) H, fun X l _ => by rw [← l.K]; exact call_len, .ref a, xs.length, rfl, .inl ⟨xs, h, rfl⟩, q⟩
theorem s_lenT {xs : List V} (h : SqT X0.K H a xs) (q : Q (.int xs.length) H) : ∃ r, CaD X0 E (.builtin "len") r ∧ r [.ref a] H Q :=
  ⟨fun vs H Q => ∃ x n, vs = [x] ∧ LenV X0.K x H n ∧ Q (.int n) H, fun X l _ => by rw [← l.K]; exact call_len, .ref a, xs.length, rfl, .inr ⟨xs, h, rfl⟩, q⟩
end

/-! ### a def's promise by positional values -/
section
variable {P : Program} {w : World} {K : PySem.W.Frag} {mg : Str → Option Value} {base : Heap}
theorem fnr_ok {x qual : Str} {st : Stmt} {f : Addr} {fd : FuncData} {N ps : List Str} {k : Nat} {sp : Sp} (F : Fun K x qual st f fd) (S : FnScope N ps (defScope st)) (hb : Binds K fd ps []) (len : ∀ vs H Q E, sp vs H Q E → vs.length = ps.length)
    (hbody : ∀ (cdv : Value) (A : Around) (outer : List Env) (s : Shared) (H : Hp) (vs : List V) (Q : VK) (E : XK), Room k (A.deeper (envOfC qual (defScope st) s.heap.objs.size f cdv)) → sp vs H Q E →
      ∃ t, PSs (cxOf (L2.CX P w) P w K mg base N qual (defScope st) f cdv A outer s H E) (defBody st) t ∧ t { nx := fun _ H' => Q .non H', rt := Q } (start N vs) H) : FnR P w K mg base (L2.CX P w) (k + 1) f sp :=
  ((F.okX S len hbody).raw hb .nil).imp fun vs H Q E h => by rw [List.append_nil]; exact h
theorem fnr_star {x qual pv : Str} {st : Stmt} {f : Addr} {fd : FuncData} {N ps : List Str} {k : Nat} {sp : Sp} (F : Fun K x qual st f fd) (S : FnScope N (ps ++ [pv]) (defScope st))
    (hb : ∀ (kV doc pm : Value) (an : Option Addr) (cdv ct : Value) (us rest : List Value), us.length = ps.length → bindArgs (PySem.W.fnOf x qual (defArgs st) (defBody st) (defScope st) .none kV doc pm an cdv ct) ⟨us ++ rest, []⟩ = (newTuple rest >>= fun t => pure (ps.zip us ++ [(pv, t)])))
    (hbody : ∀ (cdv : Value) (A : Around) (outer : List Env) (s : Shared) (H : Hp) (vs : List V) (Q : VK) (E : XK), Room k (A.deeper (envOfC qual (defScope st) s.heap.objs.size f cdv)) → sp vs H Q E →
      ∃ t, PSs (cxOf (L2.CX P w) P w K mg base N qual (defScope st) f cdv A outer s H E) (defBody st) t ∧ t { nx := fun _ H' => Q .non H', rt := Q } (start N vs) H) :
    FnR P w K mg base (L2.CX P w) (k + 1) f (fun vs H Q E => ∃ ws rest, vs = ws ++ rest ∧ ws.length = ps.length ∧ rest.length ≤ sizeLine ∧ ∀ p, H p = Option.none → sp (ws ++ [V.ref p]) (upd H p (.tup rest)) Q E) := by
  obtain ⟨oc, od, kV, doc, pm, an, cdv, ct, osl, rfl, lk, hcd⟩ := F.ex
  exact StX.fn_star lk hcd S StX.cxUp (hb kV doc pm an cdv ct) fun A outer s H vs Q E hr hsp => hbody cdv A outer s H vs Q E hr hsp
theorem fnr_star1 {x qual p1 pv : Str} {st : Stmt} {f : Addr} {fd : FuncData} {N : List Str} {k : Nat} {sp : Sp} (F : Fun K x qual st f fd) (S : FnScope N ([p1] ++ [pv]) (defScope st))
    (h0 : ∀ (kV doc pm : Value) (an : Option Addr) (cdv ct a : Value), bindArgs (PySem.W.fnOf x qual (defArgs st) (defBody st) (defScope st) .none kV doc pm an cdv ct) ⟨[a], []⟩ = (newTuple [] >>= fun t => pure [(p1, a), (pv, t)]))
    (h1 : ∀ (kV doc pm : Value) (an : Option Addr) (cdv ct a r : Value) (rs : List Value), bindArgs (PySem.W.fnOf x qual (defArgs st) (defBody st) (defScope st) .none kV doc pm an cdv ct) ⟨a :: r :: rs, []⟩ = (newTuple (r :: rs) >>= fun t => pure [(p1, a), (pv, t)]))
    (hbody : ∀ (cdv : Value) (A : Around) (outer : List Env) (s : Shared) (H : Hp) (vs : List V) (Q : VK) (E : XK), Room k (A.deeper (envOfC qual (defScope st) s.heap.objs.size f cdv)) → sp vs H Q E →
      ∃ t, PSs (cxOf (L2.CX P w) P w K mg base N qual (defScope st) f cdv A outer s H E) (defBody st) t ∧ t { nx := fun _ H' => Q .non H', rt := Q } (start N vs) H) :
    FnR P w K mg base (L2.CX P w) (k + 1) f (fun vs H Q E => ∃ ws rest, vs = ws ++ rest ∧ ws.length = [p1].length ∧ rest.length ≤ sizeLine ∧ ∀ p, H p = Option.none → sp (ws ++ [V.ref p]) (upd H p (.tup rest)) Q E) :=
  fnr_star F S (fun kV doc pm an cdv ct us rest hl => StX.bind_star1 (B := fun l => bindArgs (PySem.W.fnOf x qual (defArgs st) (defBody st) (defScope st) .none kV doc pm an cdv ct) ⟨l, []⟩) (h0 kV doc pm an cdv ct) (h1 kV doc pm an cdv ct) us rest hl) hbody
end
end Odd

namespace Odd
open PySem PySem.Spec PyProof.Rows L2
/-! ### sum, max, min of a tuple of ints -/
section
variable {prog : Program} {w : World} {A : Around} {E : Value → Shared → Prop} {s : Shared} {l : Addr} {its : List Value} {ns : List Int} {Q : Value → Shared → Prop}
theorem tup_walk {xs : Array (Int × Tok)} {items : Array Value} {R : Value → Shared → Prop} (hl : s.heap.IsTuple l items)
    (h : ∀ s₂ : Shared, s₂ = { s with heap := s₂.heap } → (∀ b o, s.heap.get? b = some o → s₂.heap.get? b = some o) → (s₂.heap.IsTupleIter s.heap.objs.size l 0 ∧ s₂.heap.IsTuple l items) → (∀ b ∈ [s.heap.objs.size, l], b < s₂.heap.objs.size) → l ≠ s.heap.objs.size → R (.ref s.heap.objs.size) s₂) :
    wpAny (model prog w) A (pyIter (.ref l)) R E s := by
  have hlt : l < s.heap.objs.size := by
    obtain ⟨o, ho, _⟩ := hl
    exact Heap.lt_size ho
  refine wpAny_pyIter_tuple hl (h _ rfl (fun b o e => Heap.get?_push_of_some _ e) ⟨⟨_, Heap.get?_push_size _ rfl, rfl, rfl⟩, hl.at fun o e => Heap.get?_push_of_some _ e⟩ (fun b hb => ?_) (Nat.ne_of_lt hlt))
  show b < (s.heap.push _).objs.size
  rw [Heap.size_push]
  simp only [List.mem_cons, List.not_mem_nil, or_false] at hb
  rcases hb with rfl | rfl
  · exact Nat.lt_succ_self _
  · exact Nat.lt_succ_of_lt hlt
theorem old_of {s s₂ : Shared} {h' : Heap} (k : ∀ b o, s.heap.get? b = some o → s₂.heap.get? b = some o) (hk : ∀ b o, b ∉ [s.heap.objs.size] → s₂.heap.get? b = some o → h'.get? b = some o) : ∀ b o, s.heap.get? b = some o → h'.get? b = some o := fun b o e =>
  hk b o (fun z => by rw [List.mem_singleton] at z; subst z; exact absurd (Heap.lt_size e) (Nat.lt_irrefl _)) (k b o e)
theorem sumT_raw (hh : A.handled = none) (hl : s.heap.IsTuple l its.toArray) (hi : IntsAre its ns)
    (h : ∀ h' tk t', (∀ b o, s.heap.get? b = some o → h'.get? b = some o) → Q (.int ns.sum t') { s with heap := h', toks := tk }) : wpAny (model prog w) A (call (.builtin "sum") [.ref l]) Q E s := by
  obtain ⟨xs, e⟩ := hi.allInts.items
  have hn : numsOf (intItems xs).toList = ns := by rw [← e]; exact hi.numsOf
  rw [nums_intItems] at hn
  rw [e] at hl
  refine call_sum_walkG (tup_walk (xs := xs) hl fun s₂ e2 k st hfp hne => ?_)
  refine ⟨_, _, _, _, _, _, numAt xs, rfl, Walks.tuple (A := A.in1) hh _ l hne (intItems xs), st, hfp, (fun _ _ => intItems_at), fun h' tk t' hk => ?_⟩
  have z := h h' tk t' (old_of k hk)
  have e3 : (intItems xs).size = xs.size := by simp [intItems]
  rw [e3, preSum_eq, List.take_of_length_le (by simp), hn]
  rw [e2]
  exact z
theorem maxT_raw (hh : A.handled = none) (hl : s.heap.IsTuple l its.toArray) (hi : IntsAre its ns) (hne : 0 < ns.length)
    (h : ∀ h' tk M t', (∀ b o, s.heap.get? b = some o → h'.get? b = some o) → M ∈ ns → (∀ a, a ∈ ns → a ≤ M) → Q (.int M t') { s with heap := h', toks := tk }) : wpAny (model prog w) A (call (.builtin "max") [.ref l]) Q E s := by
  obtain ⟨xs, e⟩ := hi.allInts.items
  have hn : numsOf (intItems xs).toList = ns := by rw [← e]; exact hi.numsOf
  rw [nums_intItems] at hn
  subst hn
  rw [e] at hl
  have hsz : 0 < xs.size := by simpa using hne
  refine call_max_walk (tup_walk (xs := xs) hl fun s₂ e2 k st hfp hne => ?_)
  refine ⟨_, _, _, _, _, _, _, rfl, Walks.tuple (A := A.in1) hh _ l hne (intItems xs), st, hfp, by simpa [intItems] using hsz, CmpOf.ints_gt (numAt xs) (fun _ _ => intItems_at), fun v h' tk hP hk => ?_⟩
  have hP' : (intItems xs)[argBest (fun i j => decide (numAt xs i > numAt xs j)) (xs.size - 1)]? = some v := by simpa [intItems] using hP
  obtain ⟨t, rfl⟩ := intItems_at hP'
  obtain ⟨h1, h2⟩ := argBest_gt (numAt xs) (xs.size - 1)
  rw [e2]
  refine h h' tk _ t (old_of k hk) ?_ fun a ha => ?_
  · rw [numAt_eq]; exact PySem.getD_mem (by rw [List.length_map, Array.length_toList]; omega)
  · obtain ⟨j, hj, rfl⟩ := mem_getD ha
    rw [List.length_map, Array.length_toList] at hj
    rw [← numAt_eq]; exact h2 j (by omega)
theorem minT_raw (hh : A.handled = none) (hl : s.heap.IsTuple l its.toArray) (hi : IntsAre its ns) (hne : 0 < ns.length)
    (h : ∀ h' tk M t', (∀ b o, s.heap.get? b = some o → h'.get? b = some o) → M ∈ ns → (∀ a, a ∈ ns → M ≤ a) → Q (.int M t') { s with heap := h', toks := tk }) : wpAny (model prog w) A (call (.builtin "min") [.ref l]) Q E s := by
  obtain ⟨xs, e⟩ := hi.allInts.items
  have hn : numsOf (intItems xs).toList = ns := by rw [← e]; exact hi.numsOf
  rw [nums_intItems] at hn
  subst hn
  rw [e] at hl
  have hsz : 0 < xs.size := by simpa using hne
  refine call_min_walk (tup_walk (xs := xs) hl fun s₂ e2 k st hfp hne => ?_)
  refine ⟨_, _, _, _, _, _, _, rfl, Walks.tuple (A := A.in1) hh _ l hne (intItems xs), st, hfp, by simpa [intItems] using hsz, CmpOf.ints_lt (numAt xs) (fun _ _ => intItems_at), fun v h' tk hP hk => ?_⟩
  have hP' : (intItems xs)[argBest (fun i j => decide (numAt xs i < numAt xs j)) (xs.size - 1)]? = some v := by simpa [intItems] using hP
  obtain ⟨t, rfl⟩ := intItems_at hP'
  obtain ⟨h1, h2⟩ := argBest_lt (numAt xs) (xs.size - 1)
  rw [e2]
  refine h h' tk _ t (old_of k hk) ?_ fun a ha => ?_
  · rw [numAt_eq]; exact PySem.getD_mem (by rw [List.length_map, Array.length_toList]; omega)
  · obtain ⟨j, hj, rfl⟩ := mem_getD ha
    rw [List.length_map, Array.length_toList] at hj
    rw [← numAt_eq]; exact h2 j (by omega)
end
def rSumT (K : PySem.W.Frag) : List V → Hp → VK → Prop := fun vs H Q => ∃ (a : Addr) (ns : List Int), vs = [V.ref a] ∧ SqT K H a (ns.map V.int) ∧ Q (.int ns.sum) H
def rMaxT (K : PySem.W.Frag) : List V → Hp → VK → Prop := fun vs H Q => ∃ (a : Addr) (ns : List Int), vs = [V.ref a] ∧ SqT K H a (ns.map V.int) ∧ 0 < ns.length ∧ ∀ m, m ∈ ns → (∀ y, y ∈ ns → y ≤ m) → Q (.int m) H
def rMinT (K : PySem.W.Frag) : List V → Hp → VK → Prop := fun vs H Q => ∃ (a : Addr) (ns : List Int), vs = [V.ref a] ∧ SqT K H a (ns.map V.int) ∧ 0 < ns.length ∧ ∀ m, m ∈ ns → (∀ y, y ∈ ns → m ≤ y) → Q (.int m) H
section
variable {X : Cx}
theorem cr_sumT (hc : X.calm = true) : CallR X (.builtin "sum") (rSumT X.K) := by
  intro pins s σ H vs us Q I r h
  obtain ⟨a, ns, rfl, hs, q⟩ := h
  obtain ⟨its, rv, hl, _⟩ := I.tuple hs
  rw [Vals.ref1 r]
  exact sumT_raw (I.ok.hd hc) hl rv.ints fun h' tk t' hk => ⟨.int _, H, I.kept hk, ⟨_, rfl⟩, q⟩
theorem cr_maxT (hc : X.calm = true) : CallR X (.builtin "max") (rMaxT X.K) := by
  intro pins s σ H vs us Q I r h
  obtain ⟨a, ns, rfl, hs, hne, q⟩ := h
  obtain ⟨its, rv, hl, _⟩ := I.tuple hs
  rw [Vals.ref1 r]
  exact maxT_raw (I.ok.hd hc) hl rv.ints hne fun h' tk m t' hk h1 h2 => ⟨.int _, H, I.kept hk, ⟨_, rfl⟩, q m h1 h2⟩
theorem cr_minT (hc : X.calm = true) : CallR X (.builtin "min") (rMinT X.K) := by
  intro pins s σ H vs us Q I r h
  obtain ⟨a, ns, rfl, hs, hne, q⟩ := h
  obtain ⟨its, rv, hl, _⟩ := I.tuple hs
  rw [Vals.ref1 r]
  exact minT_raw (I.ok.hd hc) hl rv.ints hne fun h' tk m t' hk h1 h2 => ⟨.int _, H, I.kept hk, ⟨_, rfl⟩, q m h1 h2⟩
end
/-- the greatest, the least of ints (0 of none) -/
def maxI : List Int → Int
  | [] => 0
  | [a] => a
  | a :: b :: r => max a (maxI (b :: r))
def minI : List Int → Int
  | [] => 0
  | [a] => a
  | a :: b :: r => min a (minI (b :: r))
theorem maxI_spec : ∀ (l : List Int), l ≠ [] → maxI l ∈ l ∧ ∀ y ∈ l, y ≤ maxI l
  | [], h => absurd rfl h
  | [a], _ => ⟨List.mem_singleton.mpr rfl, fun y hy => by rw [List.mem_singleton] at hy; subst hy; exact Int.le_refl _⟩
  | a :: b :: r, _ => by
    obtain ⟨h1, h2⟩ := maxI_spec (b :: r) (by simp)
    refine ⟨?_, fun y hy => ?_⟩
    · show max a (maxI (b :: r)) ∈ _
      rcases Int.le_total a (maxI (b :: r)) with q | q
      · rw [Int.max_eq_right q]; exact List.mem_cons_of_mem _ h1
      · rw [Int.max_eq_left q]; exact List.mem_cons_self
    · show y ≤ max a (maxI (b :: r))
      rcases List.mem_cons.mp hy with rfl | hy
      · exact Int.le_max_left _ _
      · exact Int.le_trans (h2 y hy) (Int.le_max_right _ _)
theorem minI_spec : ∀ (l : List Int), l ≠ [] → minI l ∈ l ∧ ∀ y ∈ l, minI l ≤ y
  | [], h => absurd rfl h
  | [a], _ => ⟨List.mem_singleton.mpr rfl, fun y hy => by rw [List.mem_singleton] at hy; subst hy; exact Int.le_refl _⟩
  | a :: b :: r, _ => by
    obtain ⟨h1, h2⟩ := minI_spec (b :: r) (by simp)
    refine ⟨?_, fun y hy => ?_⟩
    · show min a (minI (b :: r)) ∈ _
      rcases Int.le_total a (minI (b :: r)) with q | q
      · rw [Int.min_eq_left q]; exact List.mem_cons_self
      · rw [Int.min_eq_right q]; exact List.mem_cons_of_mem _ h1
    · show min a (minI (b :: r)) ≤ y
      rcases List.mem_cons.mp hy with rfl | hy
      · exact Int.min_le_left _ _
      · exact Int.le_trans (Int.min_le_right _ _) (h2 y hy)
theorem max_one {l : List Int} {m : Int} (h1 : m ∈ l) (h2 : ∀ y ∈ l, y ≤ m) : m = maxI l := by
  obtain ⟨a, b⟩ := maxI_spec l (fun e => by subst e; cases h1)
  have := h2 _ a
  have := b _ h1
  omega
theorem min_one {l : List Int} {m : Int} (h1 : m ∈ l) (h2 : ∀ y ∈ l, m ≤ y) : m = minI l := by
  obtain ⟨a, b⟩ := minI_spec l (fun e => by subst e; cases h1)
  have := h2 _ a
  have := b _ h1
  omega
section
variable {X0 : Cx} {E : XK} {H : Hp} {Q : VK} {a : Addr} {ns : List Int}
theorem s_sumT (hc : X0.calm = true) (h : SqT X0.K H a (ns.map V.int)) (q : Q (.int ns.sum) H) : ∃ r, CaD X0 E (.builtin "sum") r ∧ r [.ref a] H Q :=
  ⟨rSumT X0.K, fun X l _ => by rw [← l.K]; exact cr_sumT (l.calm.trans hc), a, ns, rfl, h, q⟩
theorem s_sumL (hc : X0.calm = true) (h : SqL X0.K H a (ns.map V.int)) (q : Q (.int ns.sum) H) : ∃ r, CaD X0 E (.builtin "sum") r ∧ r [.ref a] H Q :=
  ⟨rSum X0.K, fun X l _ => by rw [← l.K]; exact cr_sum (l.calm.trans hc), a, ns, rfl, h, q⟩
theorem s_maxT (hc : X0.calm = true) (h : SqT X0.K H a (ns.map V.int)) (hn : ns ≠ []) (q : Q (.int (maxI ns)) H) : ∃ r, CaD X0 E (.builtin "max") r ∧ r [.ref a] H Q :=
  ⟨rMaxT X0.K, fun X l _ => by rw [← l.K]; exact cr_maxT (l.calm.trans hc), a, ns, rfl, h, List.length_pos_iff.mpr hn, fun m h1 h2 => by rw [max_one h1 h2]; exact q⟩
theorem s_minT (hc : X0.calm = true) (h : SqT X0.K H a (ns.map V.int)) (hn : ns ≠ []) (q : Q (.int (minI ns)) H) : ∃ r, CaD X0 E (.builtin "min") r ∧ r [.ref a] H Q :=
  ⟨rMinT X0.K, fun X l _ => by rw [← l.K]; exact cr_minT (l.calm.trans hc), a, ns, rfl, h, List.length_pos_iff.mpr hn, fun m h1 h2 => by rw [min_one h1 h2]; exact q⟩
theorem s_maxL (hc : X0.calm = true) (h : SqL X0.K H a (ns.map V.int)) (hn : ns ≠ []) (q : Q (.int (maxI ns)) H) : ∃ r, CaD X0 E (.builtin "max") r ∧ r [.ref a] H Q :=
  ⟨rMax X0.K, fun X l _ => by rw [← l.K]; exact cr_max (l.calm.trans hc), a, ns, rfl, h, List.length_pos_iff.mpr hn, fun m h1 h2 => by rw [max_one h1 h2]; exact q⟩
theorem s_minL (hc : X0.calm = true) (h : SqL X0.K H a (ns.map V.int)) (hn : ns ≠ []) (q : Q (.int (minI ns)) H) : ∃ r, CaD X0 E (.builtin "min") r ∧ r [.ref a] H Q :=
  ⟨rMin X0.K, fun X l _ => by rw [← l.K]; exact cr_min (l.calm.trans hc), a, ns, rfl, h, List.length_pos_iff.mpr hn, fun m h1 h2 => by rw [min_one h1 h2]; exact q⟩
/-- tuple(xs), list(xs) -/
theorem s_tupleL {xs : List V} (h : SqL X0.K H a xs) (q : ∀ l, H l = none → Q (.ref l) (upd H l (.tup xs))) : ∃ r, CaD X0 E (.type "tuple") r ∧ r [.ref a] H Q :=
  ⟨fun vs H Q => ∃ p ys, vs = [.ref p] ∧ ((SqL X0.K H p ys ∧ ∀ l, H l = none → Q (.ref l) (upd H l (.tup ys))) ∨ (SqT X0.K H p ys ∧ Q (.ref p) H)), fun X l _ => by rw [← l.K]; exact call_tuple_of, a, xs, rfl, .inl ⟨h, q⟩⟩
theorem s_listOf {xs : List V} (h : SqL X0.K H a xs ∨ SqT X0.K H a xs) (q : ∀ l, H l = none → Q (.ref l) (upd H l (.lst xs))) : ∃ r, CaD X0 E (.type "list") r ∧ r [.ref a] H Q :=
  ⟨fun vs H Q => ∃ p ys, vs = [.ref p] ∧ (SqL X0.K H p ys ∨ SqT X0.K H p ys) ∧ ∀ l, H l = none → Q (.ref l) (upd H l (.lst ys)), fun X l _ => by rw [← l.K]; exact call_list_of, a, xs, rfl, h, q⟩
end
end Odd

namespace Odd
open PySem PySem.Spec PyProof.Rows L2 RZ
/-! ### comprehensions whose turns only make objects -/
theorem same_new {H : Hp} {p : Addr} {o : HO} (h : H p = none) : Same H (upd H p o) := fun b u e => by rw [upd_ne (ne_of_none e h)]; exact e
theorem same_mut {H H' : Hp} {p : Addr} {o : HO} (s : Same H H') (h : H p = none) : Same H (upd H' p o) := fun b u e => by rw [upd_ne (ne_of_none e h)]; exact s b u e
theorem same_t {K : PySem.W.Frag} {H H' : Hp} {a : Addr} {xs : List V} (e : Same H H') (h : SqT K H a xs) : SqT K H' a xs := by
  rcases h with (h | ⟨o, h⟩) | h
  · exact .inl (.inl (e _ _ h))
  · exact .inl (.inr ⟨o, e _ _ h⟩)
  · exact .inr h
theorem sz5 {n : Nat} (h : n ≤ 100000) : n ≤ sizeLine := Nat.le_trans h (by decide)
/-- one turn: what the test and the element give -/
def Turn1 (tt : TT) (te : TE) (σ2 : L2.St) (H' : Hp) (o o' : List V) : Prop :=
  ∀ (K1 : VK) (K0 : Hp → Prop), (∀ y H4, Same H' H4 → o' = o ++ [y] → K1 y H4) → (∀ H3, Same H' H3 → o' = o → K0 H3) → tt σ2 H' fun b H3 => if b = true then te σ2 H3 K1 else K0 H3
theorem turn1_map {te : TE} {σ2 : L2.St} {H' : Hp} {o : List V} {y : V} (h : ∀ R : VK, (∀ H4, Same H' H4 → R y H4) → te σ2 H' R) : Turn1 tYes te σ2 H' o (o ++ [y]) := fun K1 K0 k1 _ => by
  show (if true = true then te σ2 H' K1 else K0 H')
  rw [if_pos rfl]
  exact h K1 fun H4 s => k1 y H4 s rfl
section
variable {K : PySem.W.Frag} {J : It} {n : Nat} {G : Hp → Prop} {Y : Nat → Hp → V → Hp → Prop} {g : TG} {tt : TT} {te : TE} {vs : List Nat} {σ : L2.St} {H : Hp} {Q : VK}
theorem c_walk (w : Walk J n G Y) (out : Nat → List V) (h0 : out 0 = []) (hz : ∀ i, i < n → (out i).length < 100000) (hG : ∀ H', Same H H' → G H')
    (turn : ∀ i x H1 H', i < n → Same H H1 → Y i H1 x H' → Same H1 H' ∧ ∀ R : L2.St → Hp → Prop, (∀ σ2 H2, Same H' H2 → wipe σ2 vs = wipe σ vs → Turn1 tt te σ2 H2 (out i) (out (i + 1)) → R σ2 H2) → g x (wipe σ vs) H' R)
    (q : ∀ p H', H p = none → Same H H' → H' p = some (.lst (out n)) → Q (.ref p) H') :
    ∀ D, H D = none → ∃ W : Nat → Nat → Hp → Prop, (∃ m, W 0 m (upd H D (.lst []))) ∧ ∀ i m H, W i m H →
      (J.stop i H ∧ Q (.ref D) H) ∨ (J.go i H ∧ ∃ Nx : Hp → Prop, (∀ H', Nx H' → ∃ m', m' < m ∧ W (i + 1) m' H') ∧ ∀ x H', J.yld i H x H' → g x (wipe σ vs) H' fun σ2 H2 => wipe σ2 vs = wipe σ vs ∧ tt σ2 H2 fun b H3 =>
        if b = true then te σ2 H3 fun y H4 => ∃ acc, H4 D = some (.lst acc) ∧ acc.length < sizeLine ∧ Nx (upd H4 D (.lst (acc ++ [y]))) else Nx H3) := fun D hD =>
  lc_it w (Qd := fun H' => Q (.ref D) H') (fun i H' => Same H H' ∧ H' D = some (.lst (out i))) ⟨same_new hD, by rw [upd_same, h0]⟩ (fun i H' _ p => hG H' p.1) (fun i x H1 H' hi p y => by
      obtain ⟨s1, tn⟩ := turn i x H1 H' hi p.1 y
      refine tn _ fun σ2 H2 s2 ew t => ⟨ew, ?_⟩
      have sD : H2 D = some (.lst (out i)) := s2 _ _ (s1 _ _ p.2)
      have sH : Same H H2 := (p.1.trans s1).trans s2
      exact t _ _ (fun y H4 s4 eo => ⟨out i, s4 _ _ sD, Nat.lt_of_lt_of_le (hz i hi) (by decide), same_mut (sH.trans s4) hD, by rw [upd_same, eo]⟩) fun H3 s3 eo => ⟨sH.trans s3, by rw [eo]; exact s3 _ _ sD⟩)
    fun H' p => q D H' hD p.1 p.2
variable {a b : Addr} {xs ys : List V} {j : Nat}
theorem walk_listS : Walk (Itl K a) xs.length (fun H => SqL K H a xs) (YAt xs) :=
  ⟨fun i _ hi q => ⟨xs, xs[i], q, by simp [hi]⟩, fun _ q => ⟨xs, q, Nat.le_refl _⟩, fun i H x H' _ q y => ⟨y.1, y.2 xs q⟩⟩
theorem walk_tupS : Walk (Itt K a) xs.length (fun H => SqT K H a xs) (YAt xs) :=
  ⟨fun i _ hi q => ⟨xs, xs[i], q, by simp [hi]⟩, fun _ q => ⟨xs, q, Nat.le_refl _⟩, fun i H x H' _ q y => ⟨y.1, y.2 xs q⟩⟩
theorem walk_zipTS (hn : n = min xs.length ys.length) : Walk (ItzT K a b) n (fun H => SqT K H a xs ∧ SqT K H b ys) (YPair (fun i => xs[i]?) (fun i => ys[i]?)) := by
  subst hn
  refine ⟨fun i _ hi q => ?_, fun _ q => ⟨xs, ys, q.1, q.2, by omega⟩, fun i H v H' _ q y => ?_⟩
  · have h1 : i < xs.length := by omega
    have h2 : i < ys.length := by omega
    exact ⟨xs, ys, xs[i], ys[i], q.1, q.2, by simp [h1], by simp [h2]⟩
  · obtain ⟨T, x, z, h1, h2, h3, h4, h5⟩ := y
    exact ⟨T, x, z, h1, h2, h3, h4 xs q.1, h5 ys q.2⟩
/-- over a tuple, a list: the target a name -/
theorem c_tup (out : Nat → List V) (h0 : out 0 = []) (hz : ∀ i, i < xs.length → (out i).length < 100000) (hx : SqT K H a xs) (hw : ∀ x, wipe ((wipe σ vs).set j (some x)) vs = wipe σ vs)
    (turn : ∀ i x H', xs[i]? = some x → Same H H' → Turn1 tt te ((wipe σ vs).set j (some x)) H' (out i) (out (i + 1))) (q : ∀ p H', H p = none → Same H H' → H' p = some (.lst (out xs.length)) → Q (.ref p) H')
    {tl : TE} (ht : ∀ R : VK, R (.ref a) H → tl σ H R) : tLc (iSeq K tl) (gName j) tt te vs σ H Q :=
  ht _ ⟨a, rfl, .inr ⟨⟨xs, hx⟩, c_walk walk_tupS out h0 hz (fun H' s => same_t s hx) (fun i x H1 H' hi s y => by
    obtain ⟨e1, e2⟩ := y
    subst e1
    exact ⟨Same.refl _, fun R k => k _ _ (Same.refl _) (hw x) (turn i x _ e2 s)⟩) q⟩⟩
theorem c_list (out : Nat → List V) (h0 : out 0 = []) (hz : ∀ i, i < xs.length → (out i).length < 100000) (hx : SqL K H a xs) (hw : ∀ x, wipe ((wipe σ vs).set j (some x)) vs = wipe σ vs)
    (turn : ∀ i x H', xs[i]? = some x → Same H H' → Turn1 tt te ((wipe σ vs).set j (some x)) H' (out i) (out (i + 1))) (q : ∀ p H', H p = none → Same H H' → H' p = some (.lst (out xs.length)) → Q (.ref p) H')
    {tl : TE} (ht : ∀ R : VK, R (.ref a) H → tl σ H R) : tLc (iSeq K tl) (gName j) tt te vs σ H Q :=
  ht _ ⟨a, rfl, .inl ⟨⟨xs, hx⟩, c_walk walk_listS out h0 hz (fun H' s => s.seq hx) (fun i x H1 H' hi s y => by
    obtain ⟨e1, e2⟩ := y
    subst e1
    exact ⟨Same.refl _, fun R k => k _ _ (Same.refl _) (hw x) (turn i x _ e2 s)⟩) q⟩⟩
/-- over range(n) -/
theorem c_rng {ta : TA} {n : Nat} (out : Nat → List V) (h0 : out 0 = []) (hn : n < 100000) (hz : ∀ i, i < n → (out i).length < 100000) (hw : ∀ x, wipe ((wipe σ vs).set j (some x)) vs = wipe σ vs)
    (turn : ∀ (i : Nat) H', i < n → Same H H' → Turn1 tt te ((wipe σ vs).set j (some (.int i))) H' (out i) (out (i + 1))) (q : ∀ p H', H p = none → Same H H' → H' p = some (.lst (out n)) → Q (.ref p) H')
    (ht : ∀ R : List V → Hp → Prop, R [.int n] H → ta σ H R) : tLc (iRng1 ta) (gName j) tt te vs σ H Q :=
  ht _ ⟨n, rfl, by omega, by omega, by
    rw [Int.toNat_natCast]
    exact c_walk (Y := YFn fun i => .int (0 + (i : Int))) (G := fun _ => True) ⟨fun i _ hi _ => hi, fun _ _ => Nat.le_refl _, fun i H x H' _ _ y => y⟩ out h0 hz (fun _ _ => True.intro) (fun i x H1 H' hi s y => by
      obtain ⟨e1, e2⟩ := y
      subst e1 e2
      refine ⟨Same.refl _, fun R k => k _ _ (Same.refl _) (hw _) ?_⟩
      show Turn1 tt te ((wipe σ vs).set j (some (.int ((0 : Int) + (i : Int))))) _ _ _
      rw [Int.zero_add]
      exact turn i _ hi s) q⟩
/-- over zip of two tuples: the target two names -/
theorem c_zipT {ta : TA} {j2 : Nat} (out : Nat → List V) (h0 : out 0 = []) (hz : ∀ i, i < min xs.length ys.length → (out i).length < 100000) (hx : SqT K H a xs) (hy : SqT K H b ys)
    (hw : ∀ x y, wipe (((wipe σ vs).set j (some x)).set j2 (some y)) vs = wipe σ vs)
    (turn : ∀ i x y H', xs[i]? = some x → ys[i]? = some y → Same H H' → Turn1 tt te (((wipe σ vs).set j (some x)).set j2 (some y)) H' (out i) (out (i + 1)))
    (q : ∀ p H', H p = none → Same H H' → H' p = some (.lst (out (min xs.length ys.length))) → Q (.ref p) H') (ht : ∀ R : List V → Hp → Prop, R [.ref a, .ref b] H → ta σ H R) :
    tLc (iZipA K ta) (gTup K 2 (gCons (gName j) (gCons (gName j2) gNil))) tt te vs σ H Q :=
  ht _ ⟨a, b, xs, ys, rfl, .inr ⟨hx, hy, c_walk (walk_zipTS rfl) out h0 hz (fun H' s => ⟨same_t s hx, same_t s hy⟩) (fun i x H1 H' hi s y => by
    obtain ⟨T, x, z, e1, e2, e3, e4, e5⟩ := y
    subst e1 e3
    exact ⟨same_new e2, fun R k => ⟨T, [x, z], rfl, SqT.of upd_same, rfl, x, [z], rfl, z, [], rfl, rfl, k _ _ (Same.refl _) (hw x z) (turn i x z _ e4 e5 (s.trans (same_new e2)))⟩⟩) q⟩⟩
end
end Odd

namespace Odd
open PySem PySem.Spec PyProof.Rows L2
/-! ### data in the heap -/
section
variable {K : PySem.W.Frag} {H H' : Hp}
mutual
theorem dp_same (s : Same H H') : ∀ {v : V} {d : PyData}, Dp K H v d → Dp K H' v d
  | _, _, .non => .non
  | _, _, .bl b => .bl b
  | _, _, .int i => .int i
  | _, _, .str x => .str x
  | _, _, .lst h hs => .lst (s.seq h) (dpAll_same s hs)
  | _, _, .tup h hs => .tup (same_t s h) (dpAll_same s hs)
theorem dpAll_same (s : Same H H') : ∀ {vs : List V} {ds : List PyData}, DpAll K H vs ds → DpAll K H' vs ds
  | _, _, .nil => .nil
  | _, _, .cons h hs => .cons (dp_same s h) (dpAll_same s hs)
end
theorem dp_ints : ∀ (cs : List Int), DpAll K H (cs.map V.int) (cs.map PyData.int)
  | [] => .nil
  | c :: cs => .cons (.int c) (dp_ints cs)
theorem dpAll_len : ∀ {vs : List V} {ds : List PyData}, DpAll K H vs ds → vs.length = ds.length
  | _, _, .nil => rfl
  | _, _, .cons _ hs => congrArg (· + 1) (dpAll_len hs)
theorem dpAll_get : ∀ {vs : List V} {ds : List PyData} {i : Nat} {d : PyData}, DpAll K H vs ds → ds[i]? = some d → ∃ v, vs[i]? = some v ∧ Dp K H v d
  | _, _, _, _, .nil, e => by simp at e
  | _, _, 0, _, .cons h _, e => by simp at e; subst e; exact ⟨_, rfl, h⟩
  | _, _, i + 1, _, .cons _ hs, e => by
    obtain ⟨v, h1, h2⟩ := dpAll_get (i := i) hs (by simpa using e)
    exact ⟨v, by simpa using h1, h2⟩
theorem dpAll_map {α : Type} {f : α → V} {g : α → PyData} (h : ∀ x, Dp K H (f x) (g x)) : ∀ l : List α, DpAll K H (l.map f) (l.map g)
  | [] => .nil
  | x :: l => .cons (h x) (dpAll_map h l)
end
/-- data without a bool among its parts -/
def nb : PyData → Bool
  | .none => true
  | .bool _ => false
  | .int _ => true
  | .str _ => true
  | .list xs => nbAll xs
  | .tuple xs => nbAll xs
  | .dict _ => false
where nbAll : List PyData → Bool
  | [] => true
  | x :: xs => nb x && nbAll xs
mutual
theorem eqv_iff : ∀ {d e : PyData}, nb d = true → nb e = true → (PyData.eqv d e = true ↔ d = e)
  | .none, e, _, he => by cases e <;> simp_all [PyData.eqv, nb]
  | .bool b, _, h, _ => by simp [nb] at h
  | .int i, e, _, he => by cases e <;> simp_all [PyData.eqv, nb]
  | .str x, e, _, he => by cases e <;> simp_all [PyData.eqv, nb]
  | .list xs, e, h, he => by
    cases e with
    | list ys =>
      have := eqvAll_iff (xs := xs) (ys := ys) (by simpa [nb] using h) (by simpa [nb] using he)
      simpa [PyData.eqv] using this
    | _ => simp_all [PyData.eqv, nb]
  | .tuple xs, e, h, he => by
    cases e with
    | tuple ys =>
      have := eqvAll_iff (xs := xs) (ys := ys) (by simpa [nb] using h) (by simpa [nb] using he)
      simpa [PyData.eqv] using this
    | _ => simp_all [PyData.eqv, nb]
  | .dict _, _, h, _ => by simp [nb] at h
theorem eqvAll_iff : ∀ {xs ys : List PyData}, nb.nbAll xs = true → nb.nbAll ys = true → (PyData.eqvAll xs ys = true ↔ xs = ys)
  | [], [], _, _ => by simp [PyData.eqvAll]
  | [], _ :: _, _, _ => by simp [PyData.eqvAll]
  | _ :: _, [], _, _ => by simp [PyData.eqvAll]
  | x :: xs, y :: ys, h, h' => by
    have h1 : nb x = true ∧ nb.nbAll xs = true := by simpa [nb.nbAll] using h
    have h2 : nb y = true ∧ nb.nbAll ys = true := by simpa [nb.nbAll] using h'
    have a := eqv_iff (d := x) (e := y) h1.1 h2.1
    have b := eqvAll_iff (xs := xs) (ys := ys) h1.2 h2.2
    simp only [PyData.eqvAll, Bool.and_eq_true, a, b, List.cons.injEq]
end
theorem eqv_dec {d e : PyData} {p : Prop} [Decidable p] (h : nb d = true) (h' : nb e = true) (q : d = e ↔ p) : PyData.eqv d e = decide p := by
  rw [Bool.eq_iff_iff, eqv_iff h h', decide_eq_true_iff, q]
theorem nb_ints : ∀ cs : List Int, nb.nbAll (cs.map PyData.int) = true
  | [] => rfl
  | _ :: cs => by simp [nb.nbAll, nb, nb_ints cs]
theorem lay_ints : ∀ cs : List Int, PyData.canLayAll0 (cs.map PyData.int) = true
  | [] => by simp [PyData.canLayAll0]
  | _ :: cs => by simp [PyData.canLayAll0, PyData.canLay0, lay_ints cs]
theorem dep_ints : ∀ cs : List Int, PyData.depthAll (cs.map PyData.int) = 0
  | [] => by simp [PyData.depthAll]
  | _ :: cs => by simp [PyData.depthAll, PyData.depth, dep_ints cs]
theorem shaped_tup (cs : List Int) : SeqAt.shaped (.tuple (cs.map PyData.int)) = true := by
  simp [SeqAt.shaped, PyData.canLay0, PyData.depth, lay_ints, dep_ints]
theorem shaped_lst (cs : List Int) : SeqAt.shaped (.list (cs.map PyData.int)) = true := by
  simp [SeqAt.shaped, PyData.canLay0, PyData.depth, lay_ints, dep_ints]
theorem map_int_inj {cs ds : List Int} : cs.map PyData.int = ds.map PyData.int ↔ cs = ds := by
  constructor
  · intro h
    have := congrArg (List.map fun d => match d with | PyData.int i => i | _ => 0) h
    simpa [List.map_map, Function.comp_def] using this
  · rintro rfl; rfl
theorem eqv_tups (cs ds : List Int) : PyData.eqv (.tuple (cs.map PyData.int)) (.tuple (ds.map PyData.int)) = decide (cs = ds) :=
  eqv_dec (by simp [nb, nb_ints]) (by simp [nb, nb_ints]) (by rw [PyData.tuple.injEq]; exact map_int_inj)
theorem eqv_lsts (cs ds : List Int) : PyData.eqv (.list (cs.map PyData.int)) (.list (ds.map PyData.int)) = decide (cs = ds) :=
  eqv_dec (by simp [nb, nb_ints]) (by simp [nb, nb_ints]) (by rw [PyData.list.injEq]; exact map_int_inj)
section
variable {X0 : Cx} {E : XK} {H : Hp} {Q : VK} {x y : V} {d e : PyData} {a b : Addr} {cs ds : List Int}
theorem s_eqD (hu : X0.A.units + 64 < cLine) (hx : Dp X0.K H x d) (hy : Dp X0.K H y e) (h1 : SeqAt.shaped d = true) (h2 : SeqAt.shaped e = true) (q : Q (.bl (PyData.eqv d e)) H) : ∃ r, OpD X0 E (compareOp .Eq) r ∧ r x y H Q :=
  ⟨rEqD X0.K, fun X l _ => by rw [← l.K]; exact op_eqD (by rw [l.A]; exact hu), d, e, hx, hy, h1, h2, q⟩
theorem s_neD (hu : X0.A.units + 64 < cLine) (hx : Dp X0.K H x d) (hy : Dp X0.K H y e) (h1 : SeqAt.shaped d = true) (h2 : SeqAt.shaped e = true) (q : Q (.bl (!PyData.eqv d e)) H) : ∃ r, OpD X0 E (compareOp .NotEq) r ∧ r x y H Q :=
  ⟨rNeD X0.K, fun X l _ => by rw [← l.K]; exact op_neD (by rw [l.A]; exact hu), d, e, hx, hy, h1, h2, q⟩
theorem s_eqTups (hu : X0.A.units + 64 < cLine) (ha : SqT X0.K H a (cs.map V.int)) (hb : SqT X0.K H b (ds.map V.int)) (q : Q (.bl (decide (cs = ds))) H) : ∃ r, OpD X0 E (compareOp .Eq) r ∧ r (.ref a) (.ref b) H Q :=
  s_eqD hu (.tup ha (dp_ints _)) (.tup hb (dp_ints _)) (shaped_tup _) (shaped_tup _) (by rw [eqv_tups]; exact q)
theorem s_neTups (hu : X0.A.units + 64 < cLine) (ha : SqT X0.K H a (cs.map V.int)) (hb : SqT X0.K H b (ds.map V.int)) (q : Q (.bl (!decide (cs = ds))) H) : ∃ r, OpD X0 E (compareOp .NotEq) r ∧ r (.ref a) (.ref b) H Q :=
  s_neD hu (.tup ha (dp_ints _)) (.tup hb (dp_ints _)) (shaped_tup _) (shaped_tup _) (by rw [eqv_tups]; exact q)
theorem s_eqLsts (hu : X0.A.units + 64 < cLine) (ha : SqL X0.K H a (cs.map V.int)) (hb : SqL X0.K H b (ds.map V.int)) (q : Q (.bl (decide (cs = ds))) H) : ∃ r, OpD X0 E (compareOp .Eq) r ∧ r (.ref a) (.ref b) H Q :=
  s_eqD hu (.lst ha (dp_ints _)) (.lst hb (dp_ints _)) (shaped_lst _) (shaped_lst _) (by rw [eqv_lsts]; exact q)
theorem s_neLsts (hu : X0.A.units + 64 < cLine) (ha : SqL X0.K H a (cs.map V.int)) (hb : SqL X0.K H b (ds.map V.int)) (q : Q (.bl (!decide (cs = ds))) H) : ∃ r, OpD X0 E (compareOp .NotEq) r ∧ r (.ref a) (.ref b) H Q :=
  s_neD hu (.lst ha (dp_ints _)) (.lst hb (dp_ints _)) (shaped_lst _) (shaped_lst _) (by rw [eqv_lsts]; exact q)
/-- isinstance of an own class -/
theorem s_isiC {C : Addr} {t : Value} {b : Bool} (ty : TyX X0.K H x t) (hk : PySem.W.kitOne X0.K t (.ref C) = some b) (q : Q (.bl b) H) : ∃ r, CaD X0 E (.builtin "isinstance") r ∧ r [x, .ref C] H Q :=
  ⟨rIsi X0.K, fun X l _ => by rw [← l.K]; exact call_isi, x, .ref C, t, .ref C, b, rfl, .own C, ty, hk, q⟩
theorem tyx_ins {K : PySem.W.Frag} {C dx : Addr} {fs : List (Str × V)} (h : H a = some (.ins C dx fs)) (c : Cls K C) (si : SlX.SIsi K C) : TyX K H (.ref a) (.ref C) := .base (.ins h c si.ca si.cn si.ct si.cm)
theorem kit_self {K : PySem.W.Frag} {t : Value} : PySem.W.kitOne K t t = some true := by
  unfold PySem.W.kitOne
  rw [if_pos (by exact beq_self_eq_true t)]
theorem s_truT {xs : List V} {QB : Bool → Hp → Prop} (h : SqT X0.K H a xs) (q : QB (!xs.isEmpty) H) : ∃ r, TrD X0 E r ∧ r (.ref a) H QB :=
  ⟨fun x H Q => ∃ k, TruV X0.K x H k ∧ Q k H, fun X l _ => by rw [← l.K]; exact tru_ok, _, .inr (.inl ⟨xs, h, rfl⟩), q⟩
theorem s_truL {xs : List V} {QB : Bool → Hp → Prop} (h : SqL X0.K H a xs) (q : QB (!xs.isEmpty) H) : ∃ r, TrD X0 E r ∧ r (.ref a) H QB :=
  ⟨fun x H Q => ∃ k, TruV X0.K x H k ∧ Q k H, fun X l _ => by rw [← l.K]; exact tru_ok, _, .inl ⟨xs, h, rfl⟩, q⟩
/-- great numbers -/
theorem s_mulW {i j : Int} (h : CMulW i j) (q : Q (.int (i * j)) H) : ∃ r, OpD X0 E (binaryOp .Mult) r ∧ r (.int i) (.int j) H Q := ⟨_, fun _ _ _ => op_mulW, i, j, rfl, rfl, h, q⟩
theorem s_fdivW {i j : Int} (h : CDivW i j) (q : Q (.int (i / j)) H) : ∃ r, OpD X0 E (binaryOp .FloorDiv) r ∧ r (.int i) (.int j) H Q := ⟨_, fun _ _ _ => op_fdivW, i, j, rfl, rfl, h, q⟩
end
theorem kit_own {K : PySem.W.Frag} {C : Addr} {T : String} {b : Bool} (hd : PySem.W.hasDictIn K C = true) (h1 : PySem.W.typeIn K (.ref C) = some (.type "type")) (h2 : PySem.W.subIn K (.type T) (.ref C) = some b) : PySem.W.kitOne K (.type T) (.ref C) = some b := by
  have hc : (PySem.W.clsIn K C).isSome = true := by
    obtain ⟨cd, hc, _⟩ := PySem.W.any_some hd
    rw [hc]
    rfl
  unfold PySem.W.kitOne PySem.W.kitCls
  rw [if_neg (by simp)]
  show (if ((PySem.W.clsIn K C).isSome && PySem.W.typeIn K (.ref C) == some (.type "type")) = true then PySem.W.subIn K (.type T) (.ref C) else none) = some b
  rw [hc, h1]
  exact h2
end Odd

namespace Odd
open PySem PySem.Spec PyProof.Rows L2
/-- all tracked but what stands at S is as it was -/
def SameB (S : Addr → Prop) (H H' : Hp) : Prop := ∀ b o, ¬ S b → H b = some o → H' b = some o
theorem SameB.refl {S : Addr → Prop} (H : Hp) : SameB S H H := fun _ _ _ h => h
theorem SameB.trans {S : Addr → Prop} {H H1 H2 : Hp} (a : SameB S H H1) (b : SameB S H1 H2) : SameB S H H2 := fun c o n h => b c o n (a c o n h)
theorem Same.b {S : Addr → Prop} {H H' : Hp} (s : Same H H') : SameB S H H' := fun b o _ h => s b o h
theorem turn1_filter {tt : TT} {te : TE} {σ2 : L2.St} {H' : Hp} {o : List V} {y : V} {b : Bool} (ht : ∀ R : Bool → Hp → Prop, (∀ H3, Same H' H3 → R b H3) → tt σ2 H' R)
    (he : b = true → ∀ H3, Same H' H3 → ∀ R : VK, (∀ H4, Same H3 H4 → R y H4) → te σ2 H3 R) : Turn1 tt te σ2 H' o (if b = true then o ++ [y] else o) := fun K1 K0 k1 k0 => ht _ fun H3 s3 => by
  cases b with
  | true => exact iteT (he rfl H3 s3 K1 fun H4 s4 => k1 y H4 (s3.trans s4) (by rw [if_pos rfl]))
  | false => exact iteF (k0 H3 s3 (by rw [if_neg Bool.false_ne_true]))
section
variable {K : PySem.W.Frag} {H : Hp} {Q : VK} {σ : L2.St} {to ti : TE} {v : V} {t : TSet} {R : L2.St → Hp → Prop}
theorem w_gsub (h : to σ H fun o H1 => ti σ H1 fun i H2 => t o i v H2 fun H3 => R σ H3) : gSub to ti t v σ H R := h
theorem s_setL {p : Addr} {xs : List V} {k : Int} {j : Nat} {RH : Hp → Prop} (h : H p = some (.lst xs)) (hj : ixN xs.length k = some j) (q : RH (upd H p (.lst (xs.set j v)))) : rSetL (.ref p) (.int k) v H RH := ⟨p, xs, k, j, rfl, rfl, h, hj, q⟩
/-- the type of a datum -/
def tyn : PyData → String
  | .none => "NoneType"
  | .bool _ => "bool"
  | .int _ => "int"
  | .str _ => "str"
  | .list _ => "list"
  | .tuple _ => "tuple"
  | .dict _ => "dict"
theorem tyx_l {a : Addr} {xs : List V} (h : SqL K H a xs) : TyX K H (.ref a) (.type "list") := by
  rcases h with (h | ⟨o, h⟩) | ⟨o, its, n, hk, hc, _⟩
  · exact .base (.lst h)
  · exact .base (.frz h)
  · exact .kList hk hc
theorem tyx_t {a : Addr} {xs : List V} (h : SqT K H a xs) : TyX K H (.ref a) (.type "tuple") := by
  rcases h with (h | ⟨o, h⟩) | ⟨o, its, n, hk, hc, _⟩
  · exact .base (.tup h)
  · exact .fTuple h
  · exact .kTuple hk hc
theorem tyx_dp {d : PyData} (h : Dp K H v d) : TyX K H v (.type (tyn d)) := by
  cases h with
  | non => exact .base .non
  | bl b => exact .base (.bl b)
  | int i => exact .base (.int i)
  | str x => exact .base (.str x)
  | lst h _ => exact tyx_l h
  | tup h _ => exact tyx_t h
end
section
variable {X0 : Cx} {E : XK} {H : Hp} {Q : VK} {x : V}
/-- isinstance(x, (tuple, list)) -/
theorem s_isiTL {d : PyData} {tp : Addr} {n m : String} {b : Bool} (h : Dp X0.K H x d) (ht : H tp = some (.tup [.ty n, .ty m])) (hk : PySem.W.kitAny X0.K (.type (tyn d)) [.type n, .type m] = some b) (q : Q (.bl b) H) :
    ∃ r, CaD X0 E (.builtin "isinstance") r ∧ r [x, .ref tp] H Q :=
  ⟨rIsiT X0.K, fun X l _ => by rw [← l.K]; exact call_isiT, x, tp, [.ty n, .ty m], .type (tyn d), [.type n, .type m], b, rfl, ht, .cons (.ty _) (.cons (.ty _) .nil), tyx_dp h, hk, q⟩
theorem s_isiD {d : PyData} {n : String} {b : Bool} (h : Dp X0.K H x d) (hk : kitB (tyn d) n = some b) (q : Q (.bl b) H) : ∃ r, CaD X0 E (.builtin "isinstance") r ∧ r [x, .ty n] H Q :=
  s_isi (tyx_dp h) (kit_ty hk) q
end
def isTL : PyData → Bool
  | .list _ => true
  | .tuple _ => true
  | _ => false
def isL : PyData → Bool
  | .list _ => true
  | _ => false
def isB : PyData → Bool
  | .bool _ => true
  | _ => false
def isI : PyData → Bool
  | .bool _ => true
  | .int _ => true
  | _ => false
theorem kit_TL {K : PySem.W.Frag} (d : PyData) (hd : ∀ kvs, d ≠ .dict kvs) : PySem.W.kitAny K (.type (tyn d)) [.type "tuple", .type "list"] = some (isTL d) := by
  have n : ∀ T : String, kitB T "tuple" = some false → kitB T "list" = some false → PySem.W.kitAny K (.type T) [.type "tuple", .type "list"] = some false := fun T h1 h2 =>
    kitAny_cons (b := false) (kit_ty h1) (fun _ => kitAny_cons (b := false) (kit_ty h2) (fun _ => kitAny_nil) fun z => nomatch z) fun z => nomatch z
  cases d with
  | dict kvs => exact absurd rfl (hd kvs)
  | list xs => exact kitAny_cons (b := false) (kit_ty (by decide +kernel : kitB "list" "tuple" = some false)) (fun _ => kitAny_cons (b := true) (kit_ty (by decide +kernel : kitB "list" "list" = some true)) (fun z => nomatch z) fun _ => rfl) fun z => nomatch z
  | tuple xs => exact kitAny_cons (b := true) (kit_ty (by decide +kernel : kitB "tuple" "tuple" = some true)) (fun z => nomatch z) fun _ => rfl
  | none => exact n "NoneType" (by decide +kernel) (by decide +kernel)
  | bool b => exact n "bool" (by decide +kernel) (by decide +kernel)
  | int i => exact n "int" (by decide +kernel) (by decide +kernel)
  | str x => exact n "str" (by decide +kernel) (by decide +kernel)
theorem kit_L (d : PyData) (hd : ∀ kvs, d ≠ .dict kvs) : kitB (tyn d) "list" = some (isL d) := by
  cases d with
  | dict kvs => exact absurd rfl (hd kvs)
  | list xs => exact (by decide +kernel : kitB "list" "list" = some true)
  | tuple xs => exact (by decide +kernel : kitB "tuple" "list" = some false)
  | none => exact (by decide +kernel : kitB "NoneType" "list" = some false)
  | bool b => exact (by decide +kernel : kitB "bool" "list" = some false)
  | int i => exact (by decide +kernel : kitB "int" "list" = some false)
  | str x => exact (by decide +kernel : kitB "str" "list" = some false)
theorem kit_B (d : PyData) (hd : ∀ kvs, d ≠ .dict kvs) : kitB (tyn d) "bool" = some (isB d) := by
  cases d with
  | dict kvs => exact absurd rfl (hd kvs)
  | list xs => exact (by decide +kernel : kitB "list" "bool" = some false)
  | tuple xs => exact (by decide +kernel : kitB "tuple" "bool" = some false)
  | none => exact (by decide +kernel : kitB "NoneType" "bool" = some false)
  | bool b => exact (by decide +kernel : kitB "bool" "bool" = some true)
  | int i => exact (by decide +kernel : kitB "int" "bool" = some false)
  | str x => exact (by decide +kernel : kitB "str" "bool" = some false)
theorem kit_I (d : PyData) (hd : ∀ kvs, d ≠ .dict kvs) : kitB (tyn d) "int" = some (isI d) := by
  cases d with
  | dict kvs => exact absurd rfl (hd kvs)
  | list xs => exact (by decide +kernel : kitB "list" "int" = some false)
  | tuple xs => exact (by decide +kernel : kitB "tuple" "int" = some false)
  | none => exact (by decide +kernel : kitB "NoneType" "int" = some false)
  | bool b => exact (by decide +kernel : kitB "bool" "int" = some true)
  | int i => exact (by decide +kernel : kitB "int" "int" = some true)
  | str x => exact (by decide +kernel : kitB "str" "int" = some false)
theorem dp_nd {K : PySem.W.Frag} {H : Hp} {v : V} {d : PyData} (h : Dp K H v d) : ∀ kvs, d ≠ .dict kvs := fun kvs e => by
  subst e
  cases h
end Odd

namespace Odd
open PySem PySem.Spec PyProof.Rows L2
/-! ### names, attributes of classes, calls of locals, of instances, of classmethods -/
section
variable {X0 X : Cx} {E : XK} {x m : Str} {e o : Expr} {es : List Expr} {te ta : TE} {t : TA} {p pos apos sp_ : Pos}
/-- a name of the module that holds an int -/
def tGvI (X0 : Cx) (x : Str) : TE := fun σ H Q => ∃ n u, X0.mg x = some (.int n u) ∧ Q (.int n) H
theorem pe_gvI (l : Like X0 X) (hg : Gl X x) (hd : (x == ("__debug__" : Str)) = false := by decide) : PE X (.Name x pos) (tGvI X0 x) :=
  ⟨fun pins s σ H Q I ⟨n, u, hm, q⟩ => ld_glob I hg (by rw [l.mg]; exact hm) ⟨.int n, H, I, ⟨u, rfl⟩, q⟩ hd⟩
theorem w_gvI {σ : L2.St} {H : Hp} {Q : VK} {n : Int} {u : Tok} (h : X0.mg x = some (.int n u)) (q : Q (.int n) H) : tGvI X0 x σ H Q := ⟨n, u, h, q⟩
/-- C.f, a constant of the class -/
theorem s_cval {H : Hp} {Q : VK} {C : Addr} {mc u : Value} {f : Str} {v : V} (r : ClX.CRead X0.K C mc) (k : ClX.CVal X0.K C mc f v u) (q : Q v H) : ∃ r, AtD X0 E f r ∧ r (.ref C) H Q :=
  ⟨fun x H Q => x = .ref C ∧ Q v H, fun X l h b pins s σ H x w Q I rx ⟨ex, q⟩ => by
    subst ex
    obtain rfl : w = Value.ref C := rx
    rw [← l.K] at r k
    exact ClX.getcval_ok I r k fun s2 I2 => ⟨v, H, I2, k.rel, q⟩, rfl, q⟩
/-- x(e, .., *y), x a local -/
def tLoA (X0 : Cx) (E : XK) (i : Nat) (t : TA) : TE := fun σ H Q => ∃ f, σ[i]? = some (some (.ref f)) ∧ PySem.W.keepIn X0.K (.ref f) = true ∧ t σ H fun vs H1 => ∃ r, CaD X0 E (.ref f) r ∧ r vs H1 Q
theorem pe_loS2 {i : Nat} (l : Like X0 X) (h : Pas X E) (hN : X.N[i]? = some x) (hv : Vis X.env.scope x) (ha : PA X (e :: es) t) (hd : (x == ("__debug__" : Str)) = false := by decide) (hcd : (x == ("__classdict__" : Str)) = false := by decide)
    (he : starEach (e :: es) X.env = (false, eval e X.env) :: starEach es X.env := by rfl) (hst : (backTo pos (starEach es X.env)).any (·.1) = true := by rfl) :
    PE X (.Call (.Name x p) (e :: es) [] pos) (tLoA X0 E i t) := by
  refine ⟨fun pins s σ H Q I ⟨f, hs, hk, q⟩ => ?_⟩
  rw [← l.K] at hk
  refine wpAny_Call_Name_kw (thn ((pe_var (pos := p) (i := i) hN hv hd hcd).run pins s σ H (fun v H1 => v = .ref f ∧ H1 = H) I ⟨.ref f, hs, rfl, rfl⟩) fun u s1 ⟨v, H1, I1, r1, q1⟩ => ?_)
  obtain ⟨ev, eH⟩ := q1
  subst ev
  rw [eH] at I1
  obtain rfl : u = Value.ref f := r1
  exact PySem.W.callWith_S2 (h₀ := X.base) I1.ok.mod.kin hk (thn (ha.run pos pins s1 σ H _ I1 q) fun us s2 ⟨vs, H2, I2, r2, r, hr, q2⟩ => ⟨I2.kIn, hr X l h pins s2 σ H2 vs us Q I2 r2 q2⟩) he hst
/-- f(e, ..), f an instance -/
def tCoA (X0 : Cx) (E : XK) (tf : TE) (t : TA) : TE := fun σ H Q => tf σ H fun y H1 => ∃ a, y = V.ref a ∧ t σ H1 fun vs H2 => (∃ C dx fs, H2 a = some (.ins C dx fs)) ∧ ∃ r, CaD X0 E (.ref a) r ∧ r vs H2 Q
theorem pe_coA (l : Like X0 X) (h : Pas X E) (hf : PE X o ta) (ha : PA X (e :: es) t)
    (ht : eval (.Call o (e :: es) [] pos) X.env = (do callWith pos (← eval o X.env) [] (backTo pos (starEach (e :: es) X.env)) (backToKw pos (keywordEach [] X.env))) := by rfl)
    (he : starEach (e :: es) X.env = (false, eval e X.env) :: starEach es X.env := by rfl) (hpl : (backTo pos (starEach es X.env)).any (·.1) = false := by rfl) : PE X (.Call o (e :: es) [] pos) (tCoA X0 E ta t) := by
  refine ⟨fun pins s σ H Q I hq => ?_⟩
  refine Call_ (thn (hf.run pins s σ H _ I hq) fun u s1 ⟨y, H1, I1, ry, a, ey, q⟩ => ?_) ht
  subst ey
  obtain rfl : u = Value.ref a := ry
  refine StX.callO_with (thn (ha.run pos pins s1 σ H1 _ I1 q) fun us s2 ⟨vs, H2, I2, rv, ⟨C, dx, fs, hi⟩, r, hr, q2⟩ => ?_) he hpl
  obtain ⟨ox, od, J, hd⟩ := StX.insC_at I2 (.inr ⟨dx, fs, hi⟩)
  exact ⟨⟨C, ox, od, J, hd⟩, hr X l h pins s2 σ H2 vs us Q I2 rv q2⟩
theorem s_callO {k : Nat} {H : Hp} {Q : VK} {a C g dx : Addr} {fs : List (Str × V)} {vs : List V} {sp : Sp} (hi : H a = some (.ins C dx fs)) (c : StX.CallO X0.K C g) (F : Fn X0 k g sp) (hr : Room k X0.A) (q : sp (.ref a :: vs) H Q E) : ∃ r, CaD X0 E (.ref a) r ∧ r vs H Q :=
  ⟨fun vs H Q => (∃ dx fs, H a = some (.ins C dx fs)) ∧ sp (.ref a :: vs) H Q E, fun X l h pins s σ H xs us Q I r ⟨hi, q⟩ => by
    rw [← l.K] at c
    exact StX.run_callO c (l.fn F) (l.room hr) h I (.inr hi) r q, ⟨dx, fs, hi⟩, q⟩
/-- C.m(e, ..), m a classmethod -/
def tCmA (X0 : Cx) (E : XK) (m : Str) (ta : TE) (t : TA) : TE := fun σ H Q => ta σ H fun x H1 => ∃ C mc p g k sp, x = .ref C ∧ ClX.CRead X0.K C mc ∧ ClX.CMet X0.K C mc m p g ∧ Fn X0 k g sp ∧ Room k X0.A ∧ t σ H1 fun vs H2 => sp (.ref C :: vs) H2 Q E
theorem pe_cmA {pl : Sem Bool} (l : Like X0 X) (h : Pas X E) (he : PE X o ta) (ha : PA X (e :: es) t)
    (hst : starEach (e :: es) X.env = (false, eval e X.env) :: starEach es X.env := by rfl) (hpl : (backTo pos (starEach es X.env)).any (·.1) = false := by rfl)
    (ht : eval (.Call (.Attribute o m apos) (e :: es) [] pos) X.env = (do
      let ov ← eval o X.env
      standAt apos.atName
      let (f, first) ← holding [ov] (getMethod ov m pl)
      callWith pos f first (backTo pos (starEach (e :: es) X.env)) (backToKw pos (keywordEach [] X.env))) := by rfl) :
    PE X (.Call (.Attribute o m apos) (e :: es) [] pos) (tCmA X0 E m ta t) := by
  refine ⟨fun pins s σ H Q I hq => ?_⟩
  refine PySem.W.methodCall_KW (pl := pl) (thn (he.run pins s σ H _ I hq) fun u s1 ⟨x, H1, I1, rx, C, mc, p, g, k, sp, ex, r, c, F, hr, q⟩ => ?_) ht
  subst ex
  obtain rfl : u = Value.ref C := rx
  rw [← l.K] at r c
  refine ClX.getmethcm_ok I1 r c fun s2 I2 => ?_
  refine ClX.callwith_cm I2 (ClX.base_none I1 (Nat.le_refl _)) c.fi (thn (ha.run pos _ s2 σ H1 _ I2 q) fun us s3 ⟨vs, H2, I3, rv, q2⟩ => ⟨⟨ClX.pin_at I3, I3.kIn⟩, ?_⟩) hst hpl
  exact ClX.run_cm (l.fn F) (l.room hr) h I3 rv q2
/-- o[i] op= e -/
def tAgS (X0 : Cx) (E : XK) (f : Value → Value → Sem Value) (to ti te : TE) (tset : TSet) : TS := fun D σ H => to σ H fun o H1 => ti σ H1 fun i H2 => (∃ a xs k v, o = .ref a ∧ i = .int k ∧ SqL X0.K H2 a xs ∧ atI xs k = some v ∧
  te σ H2 fun y H4 => ∃ r, OpD X0 E f r ∧ r v y H4 fun z H5 => tset o i z H5 fun H6 => D.nx σ H6)
end
end Odd

namespace Odd
open PySem PySem.Spec PyProof.Rows L2
/-! ### o[i] op= e for lists -/
section
variable {X0 X : Cx} {E : XK}
def tGetL (K : PySem.W.Frag) : V → V → Hp → VK → Prop := fun o i H Q => ∃ a xs k v, o = .ref a ∧ i = .int k ∧ 0 ≤ k ∧ SqL K H a xs ∧ xs[k.toNat]? = some v ∧ Q v H
theorem get_listA : PGet X (tGetL X.K) := by
  intro pins s σ H o i ov iv Q I ro ri h
  obtain ⟨a, xs, k, v, rfl, rfl, h0, hq, hx, q⟩ := h
  cases ro
  obtain ⟨t, rfl⟩ := ri
  obtain ⟨its, r, pl, hz⟩ := I.list hq
  obtain ⟨w, ew, rw'⟩ := r.get hx
  have hl := r.length
  have hn := line63
  have hk : k.toNat < xs.length := (List.getElem?_eq_some_iff.1 hx).1
  exact wpAny_getItem_list pl.isList h0 (by omega) (by simpa using ew) ⟨v, H, I, rw', q⟩
theorem ps_agS {op : Operator} {o i e : Expr} {to ti te : TE} {tpos pos : Pos} (l : Like X0 X) (h : Pas X E) (ho : PE X o to) (hi : PE X i ti) (he : PE X e te)
    (ha : ∀ ov iv new, augStore i ov iv new = (do holding [new, ov, iv] (setItem ov iv new); release [new, ov, iv] []; pure .next) := by intros; rfl) :
    PS X (.AugAssign (.Subscript o i tpos) op e pos) (tAugS to ti te (tGetL X.K) (fun x y H Q => ∃ r, OpD X0 E (inplaceOp op) r ∧ r x y H Q) rSetL) :=
  ps_augS ho hi get_listA he (fun pins s σ H x y v u Q I rx ry ⟨r, hr, q⟩ => hr X l h pins s σ H x y v u Q I rx ry q) set_list ha
theorem w_agS {K : PySem.W.Frag} {to ti te : TE} {tget : V → V → Hp → VK → Prop} {tip : TIp} {tset : TSet} {D : Ends} {σ : L2.St} {H : Hp}
    (h : to σ H fun o H1 => ti σ H1 fun i H2 => tget o i H2 fun x H3 => te σ H3 fun y H4 => tip x y H4 fun z H5 => tset o i z H5 fun H6 => D.nx σ H6) : tAugS to ti te tget tip tset D σ H := h
theorem s_getL {K : PySem.W.Frag} {H : Hp} {Q : VK} {a : Addr} {xs : List V} {k : Int} {v : V} (hq : SqL K H a xs) (h0 : 0 ≤ k) (hx : xs[k.toNat]? = some v) (q : Q v H) : tGetL K (.ref a) (.int k) H Q := ⟨a, xs, k, v, rfl, rfl, h0, hq, hx, q⟩
end
/-! ### enumerate of a tuple -/
section
variable {prog : Program} {w : World} {A : Around}
/-- a tuple's own iterator hands its items out -/
theorem draws_tup (hh : A.handled = none) (it t : Addr) (ne : t ≠ it) (items : Array Value) :
    Draws prog w A it [it, t] items.size (fun i v => items[i]? = some v) (fun i h => h.IsTupleIter it t i ∧ h.IsTuple t items) :=
  ⟨fun _ _ st => let ⟨o, e, _⟩ := st.1; ⟨o, e⟩, fun _ _ _ st k => ⟨st.1.at fun o e => k it (by simp) o e, let ⟨o, e, r⟩ := st.2; ⟨o, k t (by simp) o e, r⟩⟩,
    fun i s Q E hi st hQ => wpAny_nextOf_tuple_item st.1 st.2 (x := items[i]) (by simp [hi]) fun h' a b => hQ _ h' s.toks (by simp [hi]) ⟨a, st.2.extBut b.extBut ne⟩ b,
    fun s Q E st hE => wpAny_nextOf_tuple_end hh st.1 st.2 (by simp) hE⟩
theorem draws_end (hh : A.handled = none) (it t : Addr) (items : Array Value) (i : Nat) (hi : items[i]? = none) :
    Draws prog w A it [it, t] 0 (fun _ _ => True) (fun _ h => h.IsTupleIter it t i ∧ h.IsTuple t items) :=
  ⟨fun _ _ st => let ⟨o, e, _⟩ := st.1; ⟨o, e⟩, fun _ _ _ st k => ⟨st.1.at fun o e => k it (by simp) o e, let ⟨o, e, r⟩ := st.2; ⟨o, k t (by simp) o e, r⟩⟩,
    fun i s Q E hi => absurd hi (Nat.not_lt_zero _), fun s Q E st hE => wpAny_nextOf_tuple_end hh st.1 st.2 hi hE⟩
set_option maxHeartbeats 4000000 in
theorem meets_enum1 {v : Value} {o : Obj} {Hs : Heap → Prop} (B : Begins v o Hs) :
    Meets (Builtin.«enumerate.__new__» ⟨[.type "enumerate", v], []⟩) (fun _ R s => Hs s.heap ∧
      R (.ok (.ret (.ref (s.heap.push o).objs.size))) { s with heap := (s.heap.push o).push { cls := .type "enumerate", data := .fields #[.none, .bool false, .ref s.heap.objs.size, rawInt 0, .none, .none] } }) :=
  .of_wp fun prog w A R s h => by
    obtain ⟨hp, g, d, tk, os⟩ := s
    obtain ⟨h1, h⟩ := h
    have hsub := sub_enumerate
    have q1 : ∀ {A' : Around} {E : Value → Shared → Prop} {Q : Value → Shared → Prop}, Q (.ref hp.objs.size) ⟨hp.push o, g, d, tk, os⟩ → wpAny (model prog w) A' (pyIter v) Q E ⟨hp, g, d, tk, os⟩ :=
      fun q => B.iter prog w _ _ ⟨hp, g, d, tk, os⟩ _ h1 q
    wp_walk using q1
    refine wpAny_stack_any fun st => wpAny_pure ?_
    split
    · rename_i c _ _ _ _ _
      cases (c == Value.type "enumerate") <;>
      · wp_walk using q1
        exact ⟨_, rfl, h⟩
    · wp_walk using q1
      exact ⟨_, rfl, h⟩
theorem call_enum1 {E : Value → Shared → Prop} {s : Shared} {v : Value} {o : Obj} {Hs : Heap → Prop} {Q : Value → Shared → Prop} (B : Begins v o Hs) (h1 : Hs s.heap)
    (h : ∀ h', IsEnum h' (s.heap.objs.size + 1) s.heap.objs.size 0 .none → h'.get? s.heap.objs.size = some o → (∀ b u, s.heap.get? b = some u → h'.get? b = some u) → Q (.ref (s.heap.objs.size + 1)) { s with heap := h' }) :
    wpAny (model prog w) A (call (.type "enumerate") [v]) Q E s := by
  refine callType_new F.called_enumerate (by decide) (F.typeCall_enumerate_1 _) (F.newCall_enumerate_1 _) (fun obj => F.args_object_init_2 obj _) F.entry_enumerate_new (meets_enum1 B) ⟨h1, ?_⟩
  show _ ∧ _
  rw [Heap.size_push]
  have he : IsEnum ((s.heap.push o).push { cls := .type "enumerate", data := .fields #[.none, .bool false, .ref s.heap.objs.size, rawInt 0, .none, .none] }) (s.heap.objs.size + 1) s.heap.objs.size 0 .none := by
    have z := Heap.get?_push_size (s.heap.push o) (o := { cls := .type "enumerate", data := .fields #[.none, .bool false, .ref s.heap.objs.size, rawInt 0, .none, .none] }) rfl
    rw [Heap.size_push] at z
    exact z
  exact ⟨⟨_, he, rfl⟩, h _ he (Heap.get?_push_of_some _ (Heap.get?_push_size _ B.free)) fun b u e => Heap.get?_push_of_some _ (Heap.get?_push_of_some _ e)⟩
end
/-- the tuple at a, each item in a new pair with its index -/
def Itet (K : PySem.W.Frag) (a : Addr) : It :=
  ⟨fun i H => ∃ (xs : List V) (x : V), SqT K H a xs ∧ xs[i]? = some x, fun i H v H' => ∃ T x, v = .ref T ∧ H T = none ∧ H' = upd H T (.tup [.int (i : Nat), x]) ∧ ∀ xs, SqT K H a xs → xs[i]? = some x, fun i H => ∃ xs : List V, SqT K H a xs ∧ xs.length ≤ i⟩
theorem turn_enumT {P : Program} {w : World} {K : PySem.W.Frag} {elts : List Expr} {kk : Nat} {tpos : Pos} (a e it : Addr) :
    Turn P w K (.Tuple elts kk tpos) (Itet K a) [e, it] e (fun i h => (∃ old, IsEnum h e it ((i : Nat) : Int) old) ∧ h.IsTupleIter it a i ∧ e ≠ it ∧ e ≠ a) where
  mem := List.mem_cons_self ..
  obj := fun i h st b hb => by
    obtain ⟨⟨old, he⟩, ⟨o, ho, _, hd⟩, _⟩ := st
    rcases List.mem_cons.mp hb with z | z
    · exact ⟨_, by rw [z]; exact he, fun v q => by cases q⟩
    · rw [List.mem_singleton.mp z]
      exact ⟨o, ho, fun v q => by rw [hd] at q; cases q⟩
  keep := fun i h h' st k => ⟨st.1.imp fun old he => k e (by simp) _ he, st.2.1.at fun o q => k it (by simp) o q, st.2.2⟩
  item := by
    intro X hP hw hK hc i pins s σ H E I hf st hg
    subst hP hw hK
    obtain ⟨⟨old, he⟩, hit, hne, hna⟩ := st
    obtain ⟨xs, x, hq, hx⟩ := hg
    obtain ⟨its, rv, p, hz⟩ := I.tuple hq
    obtain ⟨u, hu, ru⟩ := rv.get hx
    have pT : s.heap.IsTuple a its.toArray := p
    have nai : a ≠ it := fun z => by
      obtain ⟨o1, e1, c1, _⟩ := pT
      obtain ⟨o2, e2, c2, _⟩ := hit
      rw [z, e2] at e1
      cases e1
      rw [c2] at c1
      exact absurd (Value.type.inj c1) (by decide)
    have hlt : i < its.toArray.size := by
      have := (List.getElem?_eq_some_iff.1 hu).1
      simpa using this
    have D := draws_tup (prog := X.prog) (w := X.w) (A := X.A.in1) (I.ok.hd hc) it a nai its.toArray
    refine wpAny_pyNext_enum_itemD D he ⟨hit, pT⟩ hlt hne (by simp [hne, hna]) fun y h' tk hy ho hs' hT hsz hk => ?_
    have ey : y = u := by
      have h2 : its[i]? = some y := by simpa using hy
      rw [hu] at h2
      exact (Option.some.inj h2).symm
    subst ey
    have hel : e < s.heap.objs.size := Heap.lt_size he
    refine ⟨_, rfl, wpAny_letOwnedTupleGo_enum (s := { s with heap := h', toks := tk + 1 }) ho fun h'' he' sb => ?_⟩
    have hT2 : h''.get? s.heap.objs.size = some { cls := .type "tuple", data := .seq #[.int i tk, y] } := (sb.2 _ (Nat.ne_of_gt hel)).trans hT
    have new : ObjOk X.prog X.w (upd H s.heap.objs.size (.tup [.int (i : Nat), x])) h'' s.heap.objs.size (.tup [.int (i : Nat), x]) :=
      ⟨by show 2 ≤ sizeLine; decide, [.int i tk, y], .cons ⟨_, rfl⟩ (.cons ru .nil), ⟨_, hT2, rfl, _, rfl⟩⟩
    have I1 := I.turnedNew (t' := tk + 1) (ch := [e, it]) (fun b ob hb q => (sb.2 b (fun z => hb (by simp [z]))).trans (hk b ob (fun z => hb (by simp [z])) (fun z => hb (by simp [z])) q)) hf (Nat.le_refl _) new
    refine ⟨.ref s.heap.objs.size, _, I1, rfl, ⟨_, x, rfl, I.hok.fresh (Nat.le_refl _), rfl, fun ys hy => by rw [I.tuple_inj hy hq]; exact hx⟩, ⟨⟨y, ?_⟩, hs'.1.at fun o q => (sb.2 it (Ne.symm hne)).trans q, hne, hna⟩, fun b hb => ?_⟩
    · rw [show ((i + 1 : Nat) : Int) = (i : Int) + 1 by omega]
      exact he'
    · obtain ⟨o1, e1, _⟩ := hit
      have hb' : b < s.heap.objs.size := by
        rcases List.mem_cons.mp hb with z | z
        · rw [z]; exact hel
        · rw [List.mem_singleton.mp z]; exact Heap.lt_size e1
      rw [upd_ne (Nat.ne_of_lt hb')]
      exact (hf b hb).1
  done := by
    intro X hP hw hK hc i pins s σ H E I hf st hg
    subst hP hw hK
    obtain ⟨⟨old, he⟩, hit, hne, hna⟩ := st
    obtain ⟨xs, hq, hx⟩ := hg
    obtain ⟨its, rv, p, hz⟩ := I.tuple hq
    obtain ⟨f0, f1, f2, f3, f4, f5⟩ := hf it (by simp)
    have hl := rv.length
    have D := draws_end (prog := X.prog) (w := X.w) (A := X.A.in1) (I.ok.hd hc) it a its.toArray i (by simp; omega)
    exact wpAny_pyNext_enum_endD D he ⟨hit, p⟩ fun h' eb => ⟨rfl, I.turned (t' := s.toks) (fun b o hb q => eb b o hb q) f0 f1 f3 f4 f5⟩
  self := fun A i s Q E st h => let ⟨⟨_, he⟩, _⟩ := st; wpAny_pyIter_enum he h
def iEnumA (K : PySem.W.Frag) (ta : TA) : TI := fun σ H R => ta σ H fun vs H1 => ∃ a, vs = [.ref a] ∧ (((∃ xs, SqL K H1 a xs) ∧ R (Ite K a) H1) ∨ ((∃ xs, SqT K H1 a xs) ∧ R (Itet K a) H1))
theorem pi_enumA {X : Cx} {e : Expr} {ta : TA} {p pos tpos : Pos} {elts : List Expr} {kk : Nat} (hg : Gl X "enumerate") (hm : X.mg "enumerate" = none) (ha : PA X [e] ta) (hs : starEach [e] X.env = [(false, eval e X.env)] := by rfl) :
    PI X (.Tuple elts kk tpos) (.Call (.Name "enumerate" p) [e] [] pos) (iEnumA X.K ta) := by
  refine ⟨fun pins s σ H R I h => ?_⟩
  refine Call_ (ld_blt I hg hm boot_enumerate (PyProof.Rows.callWith_type1 (thn (ha.run pos pins s σ H _ I h) fun us s1 ⟨vs, H1, I1, r1, q1⟩ => ?_) hs rfl))
  obtain ⟨a, ex, q⟩ := q1
  subst ex
  cases r1 with
  | cons r rr =>
    cases rr
    cases r
    have fin : ∀ h' : Heap, (∀ b o, s1.heap.get? b = some o → h'.get? b = some o) → ∀ b ∈ [s1.heap.objs.size + 1, s1.heap.objs.size], FpOk X pins H1 b := fun h' hk b hb => by
      have hle : s1.heap.objs.size ≤ b := by
        rcases List.mem_cons.mp hb with z | z
        · omega
        · rw [List.mem_singleton.mp z]; exact Nat.le_refl _
      exact I1.fpOk hle (I1.hok.fresh hle)
    rcases q with ⟨⟨xs, hq⟩, q⟩ | ⟨⟨xs, hq⟩, q⟩
    · obtain ⟨its, rv, p', hz⟩ := I1.list hq
      refine call_enum1 (begins_list a its.toArray) p'.isList fun h' he hit hk => wpAny_pyIter_enum he ?_
      exact ⟨s1.heap.objs.size + 1, [s1.heap.objs.size + 1, s1.heap.objs.size], _, _, H1, rfl, I1.kept (t' := s1.toks) hk, turn_enum a (s1.heap.objs.size + 1) s1.heap.objs.size, ⟨⟨.none, he⟩, ⟨_, hit, rfl, rfl⟩, Nat.succ_ne_self _⟩, fin h' hk, q⟩
    · obtain ⟨its, rv, p', hz⟩ := I1.tuple hq
      have pT : s1.heap.IsTuple a its.toArray := p'
      have hlt : a < s1.heap.objs.size := by obtain ⟨_, z, _⟩ := pT; exact Heap.lt_size z
      refine call_enum1 (begins_tuple a its.toArray) pT fun h' he hit hk => wpAny_pyIter_enum he ?_
      exact ⟨s1.heap.objs.size + 1, [s1.heap.objs.size + 1, s1.heap.objs.size], _, _, H1, rfl, I1.kept (t' := s1.toks) hk, turn_enumT a (s1.heap.objs.size + 1) s1.heap.objs.size, ⟨⟨.none, he⟩, ⟨_, hit, rfl, rfl⟩, Nat.succ_ne_self _, Nat.ne_of_gt (Nat.lt_succ_of_lt hlt)⟩, fin h' hk, q⟩
/-- for i, x in enumerate(a tuple) -/
theorem walk_enumT {K : PySem.W.Frag} {a : Addr} {xs : List V} : Walk (Itet K a) xs.length (fun H => SqT K H a xs) (YPair (fun i => some (.int (i : Nat))) (fun i => xs[i]?)) := by
  refine ⟨fun i _ hi q => ⟨xs, xs[i], q, by simp [hi]⟩, fun _ q => ⟨xs, q, Nat.le_refl _⟩, fun i H v H' _ q y => ?_⟩
  obtain ⟨T, x, h1, h2, h3, h4⟩ := y
  exact ⟨T, .int (i : Nat), x, h1, h2, h3, rfl, h4 xs q⟩
end Odd

namespace Odd
open PySem PySem.Spec PyProof.Rows L2
/-! ### loops -/
section
variable {K : PySem.W.Frag} {a T : Addr} {xs : List V} {g : TG} {tb : TS} {D : Ends} {σ : L2.St} {H : Hp} {tl : TE} {ta : TA} {i j : Nat} {x y : V} {R : L2.St → Hp → Prop}
theorem g_pair (hT : SqT K H T [x, y]) (h : R ((σ.set i (some x)).set j (some y)) H) : gTup K 2 (gCons (gName i) (gCons (gName j) gNil)) (.ref T) σ H R := ⟨T, [x, y], rfl, hT, rfl, x, [y], rfl, y, [], rfl, rfl, h⟩
theorem f_tup (Pv : Nat → L2.St → Hp → Prop) (ht : ∀ R : VK, R (.ref a) H → tl σ H R) (h0 : Pv 0 σ H) (hl : ∀ i σ H, i ≤ xs.length → Pv i σ H → SqT K H a xs)
    (hs : ∀ i x σ H, xs[i]? = some x → Pv i σ H → g x σ H fun σ2 H2 => tb { D with nx := Pv (i + 1), ct := Pv (i + 1), bk := D.nx } σ2 H2) (hd : ∀ σ H, Pv xs.length σ H → D.nx σ H) : tFor (iSeq K tl) g tb D σ H :=
  ht _ ⟨a, rfl, .inr ⟨⟨xs, hl 0 σ H (Nat.zero_le _) h0⟩, for_tup Pv h0 hl hs hd⟩⟩
theorem f_lst (Pv : Nat → L2.St → Hp → Prop) (ht : ∀ R : VK, R (.ref a) H → tl σ H R) (h0 : Pv 0 σ H) (hl : ∀ i σ H, i ≤ xs.length → Pv i σ H → SqL K H a xs)
    (hs : ∀ i x σ H, xs[i]? = some x → Pv i σ H → g x σ H fun σ2 H2 => tb { D with nx := Pv (i + 1), ct := Pv (i + 1), bk := D.nx } σ2 H2) (hd : ∀ σ H, Pv xs.length σ H → D.nx σ H) : tFor (iSeq K tl) g tb D σ H :=
  ht _ ⟨a, rfl, .inl ⟨⟨xs, hl 0 σ H (Nat.zero_le _) h0⟩, for_list Pv h0 hl hs hd⟩⟩
/-- .. the list comes with other things that are made on the way -/
theorem f_lstN (ht : tl σ H fun x H1 => ∃ a xs, x = .ref a ∧ ∃ Pv : Nat → L2.St → Hp → Prop, Pv 0 σ H1 ∧ (∀ i σ H, i ≤ xs.length → Pv i σ H → SqL K H a xs) ∧
    (∀ i x σ H, xs[i]? = some x → Pv i σ H → g x σ H fun σ2 H2 => tb { D with nx := Pv (i + 1), ct := Pv (i + 1), bk := D.nx } σ2 H2) ∧ ∀ σ H, Pv xs.length σ H → D.nx σ H) (mono : ∀ (σ : L2.St) (H : Hp) (Q Q' : VK), (∀ v H1, Q v H1 → Q' v H1) → tl σ H Q → tl σ H Q') : tFor (iSeq K tl) g tb D σ H :=
  mono _ _ _ _ (fun v H1 ⟨a, xs, ev, Pv, h0, hl, hs, hd⟩ => ⟨a, ev, .inl ⟨⟨xs, hl 0 σ H1 (Nat.zero_le _) h0⟩, for_list Pv h0 hl hs hd⟩⟩) ht
theorem w_for {wi : TI} (h : wi σ H fun J H1 => ∃ W : Nat → Nat → L2.St → Hp → Prop, (∃ m, W 0 m σ H1) ∧ ∀ i m σ H, W i m σ H →
  (J.stop i H ∧ D.nx σ H) ∨ (J.go i H ∧ ∃ N : L2.St → Hp → Prop, (∀ σ' H', N σ' H' → ∃ m', m' < m ∧ W (i + 1) m' σ' H') ∧ ∀ x H', J.yld i H x H' → g x σ H' fun σ2 H2 => tb { D with nx := N, ct := N, bk := D.nx } σ2 H2)) : tFor wi g tb D σ H := h
theorem w_isq {RR : It → Hp → Prop} (h : tl σ H fun x H1 => ∃ a, x = .ref a ∧ (((∃ xs, SqL K H1 a xs) ∧ RR (Itl K a) H1) ∨ ((∃ xs, SqT K H1 a xs) ∧ RR (Itt K a) H1))) : iSeq K tl σ H RR := h
/-- for i, x in enumerate(a tuple) -/
theorem f_enumT (Pv : Nat → L2.St → Hp → Prop) (ht : ∀ R : List V → Hp → Prop, R [.ref a] H → ta σ H R) (h0 : Pv 0 σ H) (hl : ∀ i σ H, i ≤ xs.length → Pv i σ H → SqT K H a xs)
    (hs : ∀ k x σ H T, xs[k]? = some x → Pv k σ H → H T = none → tb { D with nx := Pv (k + 1), ct := Pv (k + 1), bk := D.nx } ((σ.set i (some (.int (k : Nat)))).set j (some x)) (upd H T (.tup [.int (k : Nat), x]))) (hd : ∀ σ H, Pv xs.length σ H → D.nx σ H) :
    tFor (iEnumA K ta) (gTup K 2 (gCons (gName i) (gCons (gName j) gNil))) tb D σ H :=
  ht _ ⟨a, rfl, .inr ⟨⟨xs, hl 0 σ H (Nat.zero_le _) h0⟩, for_it walk_enumT Pv h0 hl (fun k x σ H H' hk p y => by
    obtain ⟨T, u, v, e1, e2, e3, e4, e5⟩ := y
    cases e4
    subst e1 e3
    exact g_pair (SqT.of upd_same) (hs k v σ H T e5 p e2)) hd⟩⟩
/-- for i in range(n) -/
theorem f_rng {n : Nat} (Pv : Nat → L2.St → Hp → Prop) (ht : ∀ R : List V → Hp → Prop, R [.int n] H → ta σ H R) (hn : n < 100000) (h0 : Pv 0 σ H)
    (hs : ∀ i σ H, i < n → Pv i σ H → g (.int (i : Nat)) σ H fun σ2 H2 => tb { D with nx := Pv (i + 1), ct := Pv (i + 1), bk := D.nx } σ2 H2) (hd : ∀ σ H, Pv n σ H → D.nx σ H) : tFor (iRng1 ta) g tb D σ H :=
  ht _ ⟨n, rfl, by omega, by omega, by
    rw [Int.toNat_natCast]
    exact for_range Pv h0 (fun k σ H hk p => by rw [Int.zero_add]; exact hs k σ H hk p) hd⟩
end
/-- the last item -/
theorem at_last {α : Type} (xs : List α) (h : xs ≠ []) : atI xs (-1) = some (xs.getLast h) := by
  have hl : 0 < xs.length := List.length_pos_iff.2 h
  have e : ixN xs.length (-1) = some (xs.length - 1) := by
    unfold ixN
    rw [if_neg (by omega), if_pos (by omega)]
    congr 1
    omega
  unfold atI
  rw [e]
  show xs[xs.length - 1]? = _
  rw [List.getLast_eq_getElem, List.getElem?_eq_getElem (by omega)]
theorem fnr_star2 {P : Program} {w : World} {K : PySem.W.Frag} {mg : Str → Option Value} {base : Heap} {x qual p1 p2 pv : Str} {st : Stmt} {f : Addr} {fd : FuncData} {N : List Str} {k : Nat} {sp : Sp} (F : Fun K x qual st f fd) (S : FnScope N ([p1, p2] ++ [pv]) (defScope st))
    (h0 : ∀ (kV doc pm : Value) (an : Option Addr) (cdv ct a b : Value), bindArgs (PySem.W.fnOf x qual (defArgs st) (defBody st) (defScope st) .none kV doc pm an cdv ct) ⟨[a, b], []⟩ = (newTuple [] >>= fun t => pure [(p1, a), (p2, b), (pv, t)]))
    (h1 : ∀ (kV doc pm : Value) (an : Option Addr) (cdv ct a b r : Value) (rs : List Value), bindArgs (PySem.W.fnOf x qual (defArgs st) (defBody st) (defScope st) .none kV doc pm an cdv ct) ⟨a :: b :: r :: rs, []⟩ = (newTuple (r :: rs) >>= fun t => pure [(p1, a), (p2, b), (pv, t)]))
    (hbody : ∀ (cdv : Value) (A : Around) (outer : List Env) (s : Shared) (H : Hp) (vs : List V) (Q : VK) (E : XK), Room k (A.deeper (envOfC qual (defScope st) s.heap.objs.size f cdv)) → sp vs H Q E →
      ∃ t, PSs (cxOf (L2.CX P w) P w K mg base N qual (defScope st) f cdv A outer s H E) (defBody st) t ∧ t { nx := fun _ H' => Q .non H', rt := Q } (start N vs) H) :
    FnR P w K mg base (L2.CX P w) (k + 1) f (fun vs H Q E => ∃ ws rest, vs = ws ++ rest ∧ ws.length = [p1, p2].length ∧ rest.length ≤ sizeLine ∧ ∀ p, H p = Option.none → sp (ws ++ [V.ref p]) (upd H p (.tup rest)) Q E) :=
  fnr_star F S (fun kV doc pm an cdv ct us rest hl => StX.bind_star2 (B := fun l => bindArgs (PySem.W.fnOf x qual (defArgs st) (defBody st) (defScope st) .none kV doc pm an cdv ct) ⟨l, []⟩) (h0 kV doc pm an cdv ct) (h1 kV doc pm an cdv ct) us rest hl) hbody
section
variable {X0 : Cx} {E : XK} {H : Hp} {Q : VK} {l b : Addr} {xs zs : List V}
theorem s_cat (h : H l = some (.lst xs)) (h' : H b = some (.lst zs)) (hz : xs.length + zs.length ≤ sizeLine) (q : ∀ p, H p = none → Q (.ref p) (upd H p (.lst (xs ++ zs)))) : ∃ r, OpD X0 E (binaryOp .Add) r ∧ r (.ref l) (.ref b) H Q :=
  ⟨rCat, fun _ _ _ => op_cat, l, b, xs, zs, rfl, rfl, h, h', hz, q⟩
theorem s_rep {k : Int} (h : H l = some (.lst xs)) (h0 : -(2 ^ 63) ≤ k) (h1 : k < 2 ^ 63) (hz : xs.length * k.toNat ≤ sizeLine) (q : ∀ p, H p = none → Q (.ref p) (upd H p (.lst (List.replicate k.toNat xs).flatten))) : ∃ r, OpD X0 E (binaryOp .Mult) r ∧ r (.ref l) (.int k) H Q :=
  ⟨rRep, fun _ _ _ => op_rep, l, k, xs, rfl, rfl, h, h0, h1, hz, q⟩
theorem s_catT (h : SqT X0.K H l xs) (h' : SqT X0.K H b zs) (hz : xs.length + zs.length ≤ sizeLine) (q1 : xs = [] → Q (.ref b) H) (q2 : xs ≠ [] → zs = [] → Q (.ref l) H) (q3 : xs ≠ [] → zs ≠ [] → ∀ p, H p = none → Q (.ref p) (upd H p (.tup (xs ++ zs)))) : ∃ r, OpD X0 E (binaryOp .Add) r ∧ r (.ref l) (.ref b) H Q :=
  ⟨rCatA X0.K, fun X l _ => by rw [← l.K]; exact op_catA, l, b, xs, zs, rfl, rfl, h, h', hz, q1, q2, q3⟩
end
theorem flat1 {α : Type} (x : α) : ∀ n : Nat, (List.replicate n [x]).flatten = List.replicate n x
  | 0 => rfl
  | n + 1 => by rw [List.replicate_succ, List.flatten_cons, flat1 x n]; rfl
theorem pa_starA {X0 X : Cx} {e : Expr} {es : List Expr} {te : TE} {t : TA} {p : Pos} (l : Like X0 X) (he : PE X e te) (hr : PA X es t) (hs : starEach (.Starred e p :: es) X.env = (true, eval e X.env) :: starEach es X.env := by rfl) : PA X (.Starred e p :: es) (StX.tStar X0.K te t) := by
  rw [← l.K]
  exact StX.pa_star he hr hs
theorem w_star {K : PySem.W.Frag} {te : TE} {t : TA} {σ : L2.St} {H : Hp} {Q : List V → Hp → Prop} (h : StX.tStar K te t σ H Q) : StX.tStar K te t σ H Q := h
end Odd

namespace Odd
open PySem PySem.Spec PyProof.Rows L2
/-! ### comprehensions whose items are not known beforehand, and which change what stands at S -/
/-- one turn, from H1 with the items o -/
def TurnI (S : Addr → Prop) (Pv : Nat → List V → Hp → Prop) (i : Nat) (tt : TT) (te : TE) (σ2 : L2.St) (H1 : Hp) (o : List V) : Prop :=
  ∀ (K1 : VK) (K0 : Hp → Prop), (∀ y H4, SameB S H1 H4 → Pv (i + 1) (o ++ [y]) H4 → K1 y H4) → (∀ H3, SameB S H1 H3 → Pv (i + 1) o H3 → K0 H3) → tt σ2 H1 fun b H3 => if b = true then te σ2 H3 K1 else K0 H3
theorem turnI_map {S : Addr → Prop} {Pv : Nat → List V → Hp → Prop} {i : Nat} {te : TE} {σ2 : L2.St} {H1 : Hp} {o : List V} (h : ∀ R : VK, (∀ y H4, SameB S H1 H4 → Pv (i + 1) (o ++ [y]) H4 → R y H4) → te σ2 H1 R) : TurnI S Pv i tYes te σ2 H1 o := fun K1 K0 k1 _ => by
  show (if true = true then te σ2 H1 K1 else K0 H1)
  rw [if_pos rfl]
  exact h K1 k1
section
variable {K : PySem.W.Frag} {J : It} {n : Nat} {G : Hp → Prop} {Y : Nat → Hp → V → Hp → Prop} {g : TG} {tt : TT} {te : TE} {vs : List Nat} {σ : L2.St} {H : Hp} {Q : VK}
theorem SameB.upd {S : Addr → Prop} {H H' : Hp} {D : Addr} {u : HO} (s : SameB S H H') (h : H D = none) : SameB S H (upd H' D u) := fun b o nb e => by rw [upd_ne (ne_of_none e h)]; exact s b o nb e
theorem c_walkI (S : Addr → Prop) (Pv : Nat → List V → Hp → Prop) (w : Walk J n G Y) (hS : ∀ b, S b → H b ≠ none) (h0 : ∀ D, H D = none → Pv 0 [] (upd H D (.lst []))) (hz : ∀ i o H', i < n → Pv i o H' → o.length < 100000) (hG : ∀ H', SameB S H H' → G H')
    (hD : ∀ i o H' D l l', H D = none → H' D = some (.lst l) → Pv i o H' → Pv i o (upd H' D (.lst l')))
    (turn : ∀ i x H1 H' o, i < n → SameB S H H1 → Pv i o H1 → Y i H1 x H' → ∀ R : L2.St → Hp → Prop, (∀ σ2, wipe σ2 vs = wipe σ vs → SameB S H1 H' → TurnI S Pv i tt te σ2 H' o → R σ2 H') → g x (wipe σ vs) H' R)
    (q : ∀ p o H', H p = none → SameB S H H' → Pv n o H' → H' p = some (.lst o) → Q (.ref p) H') :
    ∀ D, H D = none → ∃ W : Nat → Nat → Hp → Prop, (∃ m, W 0 m (upd H D (.lst []))) ∧ ∀ i m H, W i m H →
      (J.stop i H ∧ Q (.ref D) H) ∨ (J.go i H ∧ ∃ Nx : Hp → Prop, (∀ H', Nx H' → ∃ m', m' < m ∧ W (i + 1) m' H') ∧ ∀ x H', J.yld i H x H' → g x (wipe σ vs) H' fun σ2 H2 => wipe σ2 vs = wipe σ vs ∧ tt σ2 H2 fun b H3 =>
        if b = true then te σ2 H3 fun y H4 => ∃ acc, H4 D = some (.lst acc) ∧ acc.length < sizeLine ∧ Nx (upd H4 D (.lst (acc ++ [y]))) else Nx H3) := fun D hDn => by
  have nS : ¬ S D := fun z => hS D z hDn
  refine lc_it w (Qd := fun H' => Q (.ref D) H') (fun i H' => ∃ o, SameB S H H' ∧ H' D = some (.lst o) ∧ Pv i o H') ⟨[], (SameB.refl H).upd hDn, upd_same, h0 D hDn⟩ (fun i H' _ p => hG H' p.choose_spec.1) (fun i x H1 H' hi p y => ?_) fun H' p => ?_
  · obtain ⟨o, s1, d1, p1⟩ := p
    refine turn i x H1 H' o hi s1 p1 y _ fun σ2 ew s2 t => ⟨ew, ?_⟩
    have d2 : H' D = some (.lst o) := s2 _ _ nS d1
    exact t _ _ (fun y H4 s4 p4 => ⟨o, s4 _ _ nS d2, Nat.lt_of_lt_of_le (hz i o H1 hi p1) (by decide), o ++ [y], ((s1.trans s2).trans s4).upd hDn, upd_same, hD _ _ _ _ _ _ hDn (s4 _ _ nS d2) p4⟩)
      fun H3 s3 p3 => ⟨o, (s1.trans s2).trans s3, s3 _ _ nS d2, p3⟩
  · obtain ⟨o, s1, d1, p1⟩ := p
    exact q D o H' hDn s1 p1 d1
variable {a b : Addr} {xs ys : List V} {j : Nat}
/-- over a tuple, a list: the target a name -/
theorem c_tupI (S : Addr → Prop) (Pv : Nat → List V → Hp → Prop) (hS : ∀ b, S b → H b ≠ none) (h0 : ∀ D, H D = none → Pv 0 [] (upd H D (.lst []))) (hz : ∀ i o H', i < xs.length → Pv i o H' → o.length < 100000) (hx : ∀ H', SameB S H H' → SqT K H' a xs)
    (hD : ∀ i o H' D l l', H D = none → H' D = some (.lst l) → Pv i o H' → Pv i o (upd H' D (.lst l'))) (hw : ∀ x, wipe ((wipe σ vs).set j (some x)) vs = wipe σ vs)
    (turn : ∀ i x H' o, xs[i]? = some x → SameB S H H' → Pv i o H' → TurnI S Pv i tt te ((wipe σ vs).set j (some x)) H' o)
    (q : ∀ p o H', H p = none → SameB S H H' → Pv xs.length o H' → H' p = some (.lst o) → Q (.ref p) H')
    {tl : TE} (ht : ∀ R : VK, R (.ref a) H → tl σ H R) : tLc (iSeq K tl) (gName j) tt te vs σ H Q :=
  ht _ ⟨a, rfl, .inr ⟨⟨xs, hx H (SameB.refl H)⟩, c_walkI S Pv walk_tupS hS h0 hz hx hD (fun i x H1 H' o hi s p y R k => by
    obtain ⟨e1, e2⟩ := y
    subst e1
    exact k _ (hw x) (SameB.refl _) (turn i x _ o e2 s p)) q⟩⟩
theorem c_listI (S : Addr → Prop) (Pv : Nat → List V → Hp → Prop) (hS : ∀ b, S b → H b ≠ none) (h0 : ∀ D, H D = none → Pv 0 [] (upd H D (.lst []))) (hz : ∀ i o H', i < xs.length → Pv i o H' → o.length < 100000) (hx : ∀ H', SameB S H H' → SqL K H' a xs)
    (hD : ∀ i o H' D l l', H D = none → H' D = some (.lst l) → Pv i o H' → Pv i o (upd H' D (.lst l'))) (hw : ∀ x, wipe ((wipe σ vs).set j (some x)) vs = wipe σ vs)
    (turn : ∀ i x H' o, xs[i]? = some x → SameB S H H' → Pv i o H' → TurnI S Pv i tt te ((wipe σ vs).set j (some x)) H' o)
    (q : ∀ p o H', H p = none → SameB S H H' → Pv xs.length o H' → H' p = some (.lst o) → Q (.ref p) H')
    {tl : TE} (ht : ∀ R : VK, R (.ref a) H → tl σ H R) : tLc (iSeq K tl) (gName j) tt te vs σ H Q :=
  ht _ ⟨a, rfl, .inl ⟨⟨xs, hx H (SameB.refl H)⟩, c_walkI S Pv walk_listS hS h0 hz hx hD (fun i x H1 H' o hi s p y R k => by
    obtain ⟨e1, e2⟩ := y
    subst e1
    exact k _ (hw x) (SameB.refl _) (turn i x _ o e2 s p)) q⟩⟩
/-- over range(n) -/
theorem c_rngI {ta : TA} {n : Nat} (S : Addr → Prop) (Pv : Nat → List V → Hp → Prop) (hn : n < 100000) (hS : ∀ b, S b → H b ≠ none) (h0 : ∀ D, H D = none → Pv 0 [] (upd H D (.lst []))) (hz : ∀ i o H', i < n → Pv i o H' → o.length < 100000)
    (hD : ∀ i o H' D l l', H D = none → H' D = some (.lst l) → Pv i o H' → Pv i o (upd H' D (.lst l'))) (hw : ∀ x, wipe ((wipe σ vs).set j (some x)) vs = wipe σ vs)
    (turn : ∀ (i : Nat) H' o, i < n → SameB S H H' → Pv i o H' → TurnI S Pv i tt te ((wipe σ vs).set j (some (.int i))) H' o)
    (q : ∀ p o H', H p = none → SameB S H H' → Pv n o H' → H' p = some (.lst o) → Q (.ref p) H')
    (ht : ∀ R : List V → Hp → Prop, R [.int n] H → ta σ H R) : tLc (iRng1 ta) (gName j) tt te vs σ H Q :=
  ht _ ⟨n, rfl, by omega, by omega, by
    rw [Int.toNat_natCast]
    exact c_walkI S Pv (Y := YFn fun i => .int (0 + (i : Int))) (G := fun _ => True) ⟨fun i _ hi _ => hi, fun _ _ => Nat.le_refl _, fun i H x H' _ _ y => y⟩ hS h0 hz (fun _ _ => True.intro) hD (fun i x H1 H' o hi s p y R k => by
      obtain ⟨e1, e2⟩ := y
      subst e1 e2
      refine k _ (hw _) (SameB.refl _) ?_
      show TurnI S Pv i tt te ((wipe σ vs).set j (some (.int ((0 : Int) + (i : Int))))) H' o
      rw [Int.zero_add]
      exact turn i _ o hi s p) q⟩
end
theorem pi_seqA {X0 X : Cx} {tg e : Expr} {te : TE} (l : Like X0 X) (he : PE X e te) : PI X tg e (iSeq X0.K te) := by
  rw [← l.K]
  exact pi_seq he
section
variable {X0 : Cx} {E : XK} {H : Hp} {Q : VK} {l : Addr}
theorem inV_int (z : Int) : ∀ ss : List Int, inV (.int z) (ss.map V.int) = decide (z ∈ ss)
  | [] => rfl
  | s :: ss => by
    have ih := inV_int z ss
    unfold inV at ih ⊢
    rw [List.map_cons, List.any_cons, ih]
    show ((s == z) || decide (z ∈ ss)) = decide (z ∈ s :: ss)
    by_cases h : z ∈ s :: ss
    · rw [decide_eq_true h]
      rcases List.mem_cons.1 h with e | e
      · rw [e, beq_self_eq_true, Bool.true_or]
      · rw [decide_eq_true e, Bool.or_true]
    · rw [decide_eq_false h, decide_eq_false (fun e => h (List.mem_cons_of_mem _ e)), Bool.or_false]
      exact beq_eq_false_iff_ne.2 fun e => h (by rw [e]; exact List.mem_cons_self ..)
theorem s_in {z : Int} {ss : List Int} (h : SqL X0.K H l (ss.map V.int) ∨ SqT X0.K H l (ss.map V.int)) (q : Q (.bl (decide (z ∈ ss))) H) : ∃ r, OpD X0 E (compareOp .In) r ∧ r (.int z) (.ref l) H Q :=
  ⟨rIn X0.K false, fun X li _ => by rw [← li.K]; exact op_in_seq, l, _, rfl, h, rfl, by rw [List.all_map, List.all_eq_true]; exact fun _ _ => rfl, by
    show Q (.bl (inV (.int z) (ss.map V.int))) H
    rw [inV_int]
    exact q⟩
theorem w_par {i j : Nat} {ta : TA} {D : Ends} {σ : L2.St} (h : ta σ H fun vs H1 => ∃ v w, vs = [v, w] ∧ D.nx ((σ.set i (some v)).set j (some w)) H1) : tPar i j ta D σ H := h
end
section
theorem w_coA {X0 : Cx} {E : XK} {tf : TE} {t : TA} {σ : L2.St} {H : Hp} {Q : VK} (h : tf σ H fun y H1 => ∃ a, y = V.ref a ∧ t σ H1 fun vs H2 => (∃ C dx fs, H2 a = some (.ins C dx fs)) ∧ ∃ r, CaD X0 E (.ref a) r ∧ r vs H2 Q) : tCoA X0 E tf t σ H Q := h
theorem w_cmA {X0 : Cx} {E : XK} {m : Str} {ta : TE} {t : TA} {σ : L2.St} {H : Hp} {Q : VK} (h : ta σ H fun x H1 => ∃ C mc p g k sp, x = .ref C ∧ ClX.CRead X0.K C mc ∧ ClX.CMet X0.K C mc m p g ∧ Fn X0 k g sp ∧ Room k X0.A ∧ t σ H1 fun vs H2 => sp (.ref C :: vs) H2 Q E) : tCmA X0 E m ta t σ H Q := h
end
/-! ### round the table -/
def up (lo : Int) : Nat → List Int
  | 0 => []
  | k + 1 => lo :: up (lo + 1) k
theorem up_snoc : ∀ (k : Nat) (lo : Int), up lo (k + 1) = up lo k ++ [lo + (k : Int)]
  | 0, lo => by show [lo] = [lo + ((0 : Nat) : Int)]; rw [show lo + ((0 : Nat) : Int) = lo by omega]
  | k + 1, lo => by
    show lo :: up (lo + 1) (k + 1) = lo :: (up (lo + 1) k ++ [lo + ((k + 1 : Nat) : Int)])
    rw [up_snoc k (lo + 1), show lo + 1 + (k : Int) = lo + ((k + 1 : Nat) : Int) by omega]
theorem up_mem : ∀ {k : Nat} {lo x : Int}, x ∈ up lo k → lo ≤ x ∧ x < lo + (k : Int)
  | 0, _, _, h => by simp [up] at h
  | k + 1, lo, x, h => by
    rcases List.mem_cons.1 h with e | e
    · rw [e]; omega
    · have := up_mem e
      omega
/-- the place after j steps from m -/
def pl (n : Nat) (m : Int) (j : Nat) : Int := if m + (j : Int) < (n : Int) then m + (j : Int) else m + (j : Int) - (n : Int)
theorem pl_next {n : Nat} {m : Int} {j : Nat} (h0 : 0 ≤ m) (h1 : m < (n : Int)) (hj : j < n) : (pl n m j + 1) % (n : Int) = pl n m (j + 1) := by
  unfold pl
  by_cases a : m + (j : Int) < (n : Int)
  · rw [if_pos a]
    by_cases b : m + ((j + 1 : Nat) : Int) < (n : Int)
    · rw [if_pos b, Int.emod_eq_of_lt (by omega) (by omega)]
      omega
    · rw [if_neg b, show m + (j : Int) + 1 = (n : Int) by omega, Int.emod_self]
      omega
  · rw [if_neg a, if_neg (by omega), Int.emod_eq_of_lt (by omega) (by omega)]
    omega
theorem pl_range {n : Nat} {m : Int} {j : Nat} (h0 : 0 ≤ m) (h1 : m < (n : Int)) (hj : j ≤ n) : 0 ≤ pl n m j ∧ pl n m j < (n : Int) := by
  unfold pl
  split <;> omega
/-- the places of the first j steps -/
def pls (n : Nat) (m : Int) : Nat → List Int
  | 0 => []
  | j + 1 => pls n m j ++ [pl n m (j + 1)]
theorem pls_low {n : Nat} {m : Int} : ∀ {j : Nat}, m + (j : Int) < (n : Int) → pls n m j = up (m + 1) j
  | 0, _ => rfl
  | j + 1, h => by
    rw [up_snoc]
    show pls n m j ++ [pl n m (j + 1)] = _
    rw [pls_low (by omega)]
    unfold pl
    rw [if_pos h, show m + ((j + 1 : Nat) : Int) = m + 1 + (j : Int) by omega]
theorem pls_high {n : Nat} {m : Int} {k : Nat} (hk : m + (k : Int) + 1 = (n : Int)) : ∀ i : Nat, (i : Int) ≤ m + 1 → pls n m (k + i) = up (m + 1) k ++ up 0 i
  | 0, _ => by rw [Nat.add_zero, pls_low (by omega)]; show _ = _ ++ []; rw [List.append_nil]
  | i + 1, h => by
    show pls n m (k + i) ++ [pl n m (k + i + 1)] = _
    rw [pls_high hk i (by omega), up_snoc, List.append_assoc]
    unfold pl
    rw [if_neg (by omega), show m + ((k + i + 1 : Nat) : Int) - (n : Int) = 0 + (i : Int) by omega]
theorem pls_all {n : Nat} {m : Int} (h0 : 0 ≤ m) (h1 : m < (n : Int)) : pls n m n = up (m + 1) (n - 1 - m.toNat) ++ up 0 (m.toNat + 1) := by
  have h := pls_high (n := n) (m := m) (k := n - 1 - m.toNat) (by omega) (m.toNat + 1) (by omega)
  rw [show n - 1 - m.toNat + (m.toNat + 1) = n by omega] at h
  exact h
/-- who is there of the places -/
def hits (n : Nat) (m : Int) (ss : List Int) (j : Nat) : List Int := (pls n m j).filter fun p => decide (p ∈ ss)
theorem hits_next (n : Nat) (m : Int) (ss : List Int) (j : Nat) : hits n m ss (j + 1) = if pl n m (j + 1) ∈ ss then hits n m ss j ++ [pl n m (j + 1)] else hits n m ss j := by
  unfold hits
  show (pls n m j ++ [pl n m (j + 1)]).filter _ = _
  rw [List.filter_append]
  by_cases h : pl n m (j + 1) ∈ ss
  · rw [if_pos h]; simp [List.filter_cons, h]
  · rw [if_neg h]; simp [List.filter_cons, h]
theorem hits_pre (n : Nat) (m : Int) (ss : List Int) (j : Nat) : ∀ i, ∃ r, hits n m ss (j + i) = hits n m ss j ++ r
  | 0 => ⟨[], by rw [List.append_nil]; rfl⟩
  | i + 1 => by
    obtain ⟨r, hr⟩ := hits_pre n m ss j i
    rw [show j + (i + 1) = j + i + 1 from rfl, hits_next, hr]
    split
    · exact ⟨_, List.append_assoc ..⟩
    · exact ⟨r, rfl⟩
end Odd

namespace Odd
open PySem PySem.Spec PyProof.Rows L2
/-! ### x != y by the own == (what the root class's own word does) -/
theorem ne_bind (self : Value) : bindSpecial (.builtin "object.__ne__") self = pure (.builtin "object.__ne__", [self]) :=
  (Slot.of (T := "object") (name := "__ne__") (owner := "object") (n := "__ne__") (by rw [typeLookup_type, builtinLookup_eq_fast]; kernel_rfl) (by decide +kernel) (by decide +kernel) (by decide +kernel)
    (.inl (by decide +kernel)) (by rw [isSubtype_type]; kernel_rfl)).bind self
section
variable {X : Cx} {CX : CXT} {C g : Addr} {n : Nat} {sp : Sp} {E : XK}
theorem own_ne {prog : Program} {w : World} {A : Around} {K : PySem.W.Frag} {x : Addr} {ox : Obj} {od : Option Obj} {y : Value} {Ev : Value → Shared → Prop} {s : Shared} {Q : Option Value → Shared → Prop} (KX : K.In s.heap) (J : PySem.W.InstAt s.heap x ox C od)
    (ne : PySem.W.findIn K (.ref C) "__ne__" = some (some (.builtin "object.__ne__"))) (ob : PySem.W.subIn K (.ref C) (.type "object") = some true) (hs : PySem.W.findIn K (.ref C) "__eq__" = some (some (.ref g))) (hf : PySem.W.isFn K (.ref g) = true) (hu : A.in1.units < cLine)
    (hcall : wpAny (model prog w) A.in1 (call (.ref g) [.ref x, y]) (fun v s' => ∃ b, v = .bool b ∧ Q (some (.bool (!b))) s') Ev s) :
    wpAny (model prog w) A (callSpecialIfBound? (.ref x) "__ne__" [y]) Q Ev s := by
  have body : wpAny (model prog w) A (call (.builtin "object.__ne__") [.ref x, y]) (fun v => Q (some v)) Ev s := by
    have ha := F.cmpArgs_ne (.ref x) y
    refine wpAny_call (codeAny_call_builtin (by decide +kernel) F.cmpEntry_ne ?_)
    simp only [checkBuiltinCall, F.cmpKind_ne, F.cmpSplit_ne]
    refine wpAny_bind ?_
    unfold isInstance
    refine wpAny_bind (J.type.here ((PySem.W.looks_subIn KX ob).here ?_))
    repeat (first
      | with_reducible refine wpAny_cRoomFor hu ?_
      | with_reducible refine wpAny_bind (wpAny_cRoomFor hu ?_)
      | (refine wpAny_bind (m := callSpecialIfBound? (.ref x) (Str.ofString "__eq__") [y]) (PySem.W.ifBound_K KX J hs hf (wpAny_mono hcall (fun v s' hv => by
          obtain ⟨b, rfl, hq⟩ := hv
          repeat (first | exact hq | exact wpAny_pure hq | exact wpAny_truthy_bool hq | (refine wpAny_bind (m := truthy (.bool _)) (wpAny_truthy_bool ?_)) | wp_step)) fun _ _ e => e)))
      | wp_step)
  simp only [callSpecialIfBound?, bindSpecialIfBound?]
  refine wpAny_holding (wpAny_bind (wpAny_bind (wpAny_bind (J.type.here ((PySem.W.looks_findIn KX ne).here ?_)))))
  have back : wpAny (model prog w) A (call (.builtin "object.__ne__") ([.ref x] ++ [y]) >>= fun v => pure (some v)) Q Ev s := wpAny_bind (wpAny_mono body (fun v s' h' => wpAny_pure h') fun _ _ h' => h')
  simp only [ne_bind]
  refine wpAny_bind (wpAny_askSetting (wpAny_ite ?_))
  split
  · exact wpAny_bind (wpAny_pure (wpAny_pure back))
  · exact wpAny_tryCatch (wpAny_bind (wpAny_pure (wpAny_pure back)))
/-- x != y -/
def rNeI (K : PySem.W.Frag) (C : Addr) (sp : Sp) (E : XK) : R2 := fun x y H Q => ∃ a b dx fs t, x = .ref a ∧ y = .ref b ∧ H a = some (.ins C dx fs) ∧ TyX K H y t ∧ PySem.W.notFirst K C t = true ∧ sp [x, y] H (fun z H' => ∃ k, z = .bl k ∧ Q (.bl (!k)) H') E
theorem op_neI (ne : PySem.W.findIn X.K (.ref C) "__ne__" = some (some (.builtin "object.__ne__"))) (ob : PySem.W.subIn X.K (.ref C) (.type "object") = some true) (hs : PySem.W.findIn X.K (.ref C) "__eq__" = some (some (.ref g))) (hf : PySem.W.isFn X.K (.ref g) = true)
    (F : FnR X.prog X.w X.K X.mg X.base CX n g sp) (hr : Room (n + 1) X.A) (hx : Passes CX X E) : OpR X (compareOp .NotEq) (rNeI X.K C sp E) := by
  intro pins s σ H x y v u Q I rx ry h
  obtain ⟨a, b, dx, fs, t, rfl, rfl, ha, ty, hn, q⟩ := h
  cases (show v = Value.ref a from rx)
  cases (show u = Value.ref b from ry)
  obtain ⟨ox, od, J⟩ := inst_at I ha
  obtain ⟨PP, Z, hz, _⟩ := kit_of I ry ty
  have one : wpAny (model X.prog X.w) X.A (tryCompare (.ref a) "__ne__" (.ref b)) (fun r s' => ∃ v, r = some v ∧ EP X pins σ Q v s') X.xe s := by
    unfold tryCompare
    refine wpAny_bind (own_ne I.kIn J ne ob hs hf hr.in1.units0 (wpAny_mono (call_in1 (vs := [.ref a, .ref b]) F hr hx I (.cons rfl (.cons ry .nil)) q) (fun w s' z => ?_) fun _ _ x => x))
    obtain ⟨z', H', I', rz, k, rfl, qz⟩ := z
    cases rz
    exact ⟨k, rfl, wpAny_pure ⟨_, rfl, .bl (!k), H', I', rfl, qz⟩⟩
  show wpAny _ _ (richCompare .NotEq (.ref a) (.ref b)) _ _ s
  unfold richCompare
  simp only [oneThing_ref]
  refine wpAny_holding (wpAny_bind (wpAny_cRoomFor hr.units0 ?_))
  refine wpAny_bind (J.type.here (wpAny_bind ((Z.ty _ _ I.kIn hz).here ?_)))
  split
  · rename_i qq
    have e : PySem.W.subIn X.K t (.ref C) = some false := by
      rcases Bool.or_eq_true_iff.mp hn with e | e
      · rw [beq_iff_eq.mp e] at qq; simp at qq
      · exact beq_iff_eq.mp e
    refine wpAny_bind ((PySem.W.looks_subIn I.kIn e).here ?_)
    simp only [Bool.false_eq_true, if_false]
    refine wpAny_bind (wpAny_mono one (fun r s' z => ?_) fun _ _ e => e)
    obtain ⟨v, rfl, hq⟩ := z
    exact wpAny_pure hq
  · refine wpAny_bind (wpAny_pure ?_)
    simp only [Bool.false_eq_true, if_false]
    refine wpAny_bind (wpAny_mono one (fun r s' z => ?_) fun _ _ e => e)
    obtain ⟨v, rfl, hq⟩ := z
    exact wpAny_pure hq
end
theorem s_neOwn {X0 : Cx} {E : XK} {H : Hp} {Q : VK} {k : Nat} {C g a b dx : Addr} {fs : List (Str × V)} {sp : Sp} {t : Value} (N : OwnNe X0.K C) (ob : PySem.W.subIn X0.K (.ref C) (.type "object") = some true) (M : Meth X0.K C "__eq__" g) (F : Fn X0 k g sp) (hr : Room (k + 1) X0.A) (ha : H a = some (.ins C dx fs)) (ty : TyX X0.K H (.ref b) t) (hn : PySem.W.notFirst X0.K C t = true)
    (q : sp [.ref a, .ref b] H (fun z H' => ∃ k, z = .bl k ∧ Q (.bl (!k)) H') E) : ∃ r, OpD X0 E (compareOp .NotEq) r ∧ r (.ref a) (.ref b) H Q :=
  ⟨rNeI X0.K C sp E, fun X l h => by rw [← l.K]; exact op_neI (by rw [l.K]; exact N.ne) (by rw [l.K]; exact ob) (by rw [l.K]; exact M.at_) (by rw [l.K]; exact M.fn) (l.fn F) (l.room hr) h, a, b, dx, fs, t, rfl, rfl, ha, ty, hn, q⟩
theorem w_cb {r : List V → Hp → VK → Prop} {t : TA} {σ : L2.St} {H : Hp} {Q : VK} (h : t σ H fun vs H1 => r vs H1 Q) : tCB r t σ H Q := h
theorem w_augI {X0 : Cx} {E : XK} {i : Nat} {f : Value → Value → Sem Value} {te : TE} {D : Ends} {σ : L2.St} {H : Hp} {v : V} (hs : σ[i]? = some (some v)) (h : te σ H fun y H1 => ∃ r, OpD X0 E f r ∧ r v y H1 fun z H2 => D.nx (σ.set i (some z)) H2) : tAugA X0 E i f te D σ H := ⟨v, hs, h⟩
end Odd

namespace Odd
open PySem PySem.Spec PyProof.Rows L2
/-! ### e[::s] where s comes to -1 -/
section
variable {X0 X : Cx} {e se : Expr} {te ts : TE} {p3 pos : Pos}
def tRevA (K : PySem.W.Frag) (te ts : TE) : TE := fun σ H Q => te σ H fun x H1 => ∃ a xs, x = .ref a ∧ SqL K H1 a xs ∧ ts σ H1 fun y H2 => ∃ i, y = .int i ∧ some i = some (-1 : Int) ∧ H2 = H1 ∧ ∀ p, H1 p = none → Q (.ref p) (upd H1 p (.lst xs.reverse))
theorem pe_revA (l : Like X0 X) (he : PE X e te) (hse : PE X se ts) : PE X (.Subscript e (.Slice none none (some se) p3) pos) (tRevA X0.K te ts) := by
  refine ⟨fun pins s σ H Q I h => ?_⟩
  refine Subscript_ (thn (he.run pins s σ H _ I h) fun v s1 ⟨x, H1, I1, r1, q1⟩ => ?_)
  obtain ⟨a, xs, ex, hx, q⟩ := q1
  subst ex
  cases r1
  rw [← l.K] at hx
  have hst : PO X (some se) (tPart ts) := po_some hse
  refine wpAny_Slice (thn (po_none.run pins s1 σ H1 (fun o H2 => o = none ∧ H2 = H1) I1 ⟨rfl, rfl⟩) fun vl s2 ⟨l, H2, I2, pl, el, e2⟩ => ?_)
  subst el e2
  refine thn (po_none.run pins s2 σ H2 (fun o H3 => o = none ∧ H3 = H2) I2 ⟨rfl, rfl⟩) fun vu s3 ⟨u, H3, I3, pu, eu, e3⟩ => ?_
  subst eu e3
  refine thn (hst.run pins s3 σ H3 (fun o H4 => o = some (-1) ∧ H4 = H3 ∧ ∀ p, H3 p = none → Q (.ref p) (upd H3 p (.lst xs.reverse))) I3 q) fun vs s4 ⟨o, H4, I4, ps, eo, e4, q⟩ => ?_
  subst eo e4
  have I5 : Inv X pins σ H4 { s4 with heap := s4.heap.push { cls := .type "slice", data := .fields #[vl, vu, vs] } } := I4.kept (t' := s4.toks) fun b ob q => Heap.get?_push_of_some _ q
  obtain ⟨its, r, ht, hz⟩ := I5.list hx
  have hlen := r.length
  show wpAny (model X.prog X.w) X.A (subscriptTail e (.Slice none none (some se) p3) (.ref a) (.ref s4.heap.objs.size)) (EP X pins σ Q) X.xe { s4 with heap := s4.heap.push { cls := .type "slice", data := .fields #[vl, vu, vs] } }
  refine tail_any (ops := [.ref a, .ref s4.heap.objs.size]) ht.isList.typeIs (PySem.slot_list_getitem.lookup) ?_ (by with_unfolding_all rfl)
  refine wpAny_getItem_list_slice ht.isList (Heap.IsSliceOf.new _ vl vu vs) pl pu ps (by decide) ?_ (by rw [List.size_toArray]; omega)
  rw [PySem.W.krv_pick]
  refine ⟨.ref _, _, I5.laid (t' := s4.toks) (o := .lst xs.reverse) (fun b ob q => Heap.get?_push_of_some _ q) (Nat.le_refl _) ?_, rfl, q _ (I5.hok.fresh (Nat.le_refl _))⟩
  exact ⟨by rw [List.length_reverse]; exact hz, _, 0, r.reverse, Heap.get?_push_size _ rfl⟩
theorem w_rev {K : PySem.W.Frag} {σ : L2.St} {H : Hp} {Q : VK} (h : te σ H fun x H1 => ∃ a xs, x = .ref a ∧ SqL K H1 a xs ∧ ts σ H1 fun y H2 => ∃ i, y = .int i ∧ some i = some (-1 : Int) ∧ H2 = H1 ∧ ∀ p, H1 p = none → Q (.ref p) (upd H1 p (.lst xs.reverse))) : tRevA K te ts σ H Q := h
theorem w_par3 {i j l : Nat} {ta : TA} {D : Ends} {σ : L2.St} {H : Hp} (h : ta σ H fun vs H1 => ∃ u v w, vs = [u, v, w] ∧ D.nx (((σ.set i (some u)).set j (some v)).set l (some w)) H1) : tPar3 i j l ta D σ H := h
end
end Odd

namespace Odd
open PySem PySem.Spec PyProof.Rows L2 LamX NdefX
/-! ### a base that also holds what is not tracked now: the maker's cells -/
section
def subB (s : Shared) (H : Hp) (l : List Addr) : Heap := PySem.W.hideAll (hidT s.heap H) l
theorem subB_of {s : Shared} {H : Hp} {l : List Addr} {b : Addr} {o : Obj} (e : (subB s H l).get? b = some o) : s.heap.get? b = some o ∧ H b = none ∧ b ∉ l :=
  ⟨(of_hidT (PySem.W.of_hideAll l e)).1, (of_hidT (PySem.W.of_hideAll l e)).2, fun z => by
    have q : (subB s H l).get? b = none := PySem.W.hideAll_none l z
    rw [q] at e
    cases e⟩
theorem subB_get {s : Shared} {H : Hp} {l : List Addr} {b : Addr} {o : Obj} (e : s.heap.get? b = some o) (n : H b = none) (hl : b ∉ l) : (subB s H l).get? b = some o := PySem.W.hideAll_get l (hidT_get e n) hl
theorem subB_none {s : Shared} {H : Hp} {l : List Addr} {b : Addr} (hl : b ∈ l) : (subB s H l).get? b = none := PySem.W.hideAll_none l hl
theorem subB_size (s : Shared) (H : Hp) (l : List Addr) : (subB s H l).objs.size = s.heap.objs.size := by
  unfold subB
  rw [PySem.W.hideAll_size, hidT_size]
theorem mod_up {K : PySem.W.Frag} {mg : Str → Option Value} {B B' : Heap} (m : Mod K mg B) (k : ∀ b o, B.get? b = some o → B'.get? b = some o) : Mod K mg B' :=
  ⟨m.kin.keeps k, m.glob.keeps k, let ⟨mb, h1, h2⟩ := m.blt; ⟨mb, h1.keeps k, h2⟩, m.nolimit.keeps k⟩
theorem frames_base {h B B' : Heap} : ∀ {l : List Env}, h.FunFrames B l → (∀ b ∈ frs l, B'.get? b = none) → h.FunFrames B' l
  | [], _, _ => True.intro
  | e :: l, ⟨h1, ⟨L, o, e1, e2, e3, e4⟩, h3⟩, n => by
    have hL : L ∈ frs (e :: l) := List.mem_filterMap.mpr ⟨e, List.mem_cons_self, e1⟩
    exact ⟨h1, ⟨L, o, e1, n L hL, e3, e4⟩, frames_base h3 fun b hb => n b (by
      obtain ⟨x, hx, q⟩ := List.mem_filterMap.mp hb
      exact List.mem_filterMap.mpr ⟨x, List.mem_cons_of_mem _ hx, q⟩)⟩
variable {X : Cx} {pins : List (Addr × Obj)} {σ : L2.St} {H : Hp} {s : Shared}
theorem base_sub (I : Inv X pins σ H s) {l : List Addr} (hl : ∀ b o, X.base.get? b = some o → b ∉ l) : ∀ b o, X.base.get? b = some o → (subB s H l).get? b = some o := fun b o e => subB_get (I.bs b o e).1 (I.bs b o e).2 (hl b o e)
theorem base_nofr (I : Inv X pins σ H s) : ∀ b o, X.base.get? b = some o → b ∉ frs X.stack := fun b o e z => by
  have q := (I.stack.mem z).1
  rw [e] at q
  cases q
theorem env0_sub (I : Inv X pins σ H s) : Env0 X.prog X.w X.K X.mg (subB s H (frs X.stack)) X.A X.stack s H :=
  ⟨I.ok.frames, mod_up I.ok.mod (base_sub I (base_nofr I)), fun b o e => ⟨(subB_of e).1, (subB_of e).2.1⟩, Nat.le_of_eq (subB_size ..), frames_base I.stack fun b hb => subB_none hb, I.stkFree, I.hok, I.bare⟩
/-- what the captured names hold, in a base -/
def CellsB (X : Cx) (σ : L2.St) (B : Heap) : Prop :=
  (∀ y c, X.env.cells.lookup y = some c → ∃ v, B.IsCell c v) ∧ (∀ x y c, X.env.cells.lookup x = some c → X.env.cells.lookup y = some c → x = y) ∧
    (∀ (i : Nat) (y : Str) (v : V), X.N[i]? = some y → σ[i]? = some (some v) → (X.env.scope.names.lookup y = some .cell) → ∃ c u, X.env.cells.lookup y = some c ∧ RelV v u ∧ B.IsCell c (some u)) ∧ ∀ y, X.env.scope.names.lookup y = some .cell → ∃ c, X.env.cells.lookup y = some c
theorem cells_sub (I : Inv X pins σ H s) {l : List Addr} (hl : ∀ y c, X.env.cells.lookup y = some c → c ∉ l) : CellsB X σ (subB s H l) := by
  have up : ∀ {y : Str} {c : Addr} {v : Option Value}, X.env.cells.lookup y = some c → s.heap.IsCell c v → (subB s H l).IsCell c v := fun {y c v} e ⟨o, ho, hd⟩ => ⟨o, subB_get ho (I.freeC y c e) (hl y c e), hd⟩
  refine ⟨fun y c e => ?_, I.ok.inj, fun i y v e1 e2 e3 => ?_, fun y k => I.ok.has _ (.inl k)⟩
  · obtain ⟨v, z⟩ := I.cell y c e
    exact ⟨v, up e z⟩
  · obtain ⟨m, hn, look⟩ := I.loc
    obtain ⟨u, r, q⟩ := look i y v e1 e2 (.inr (.inl e3))
    rcases q with ⟨k, _⟩ | ⟨_, c, e, z⟩
    · have k : X.env.scope.names.lookup y = some .local := k
      rw [e3] at k
      cases k
    · exact ⟨c, u, e, r, up e z⟩
theorem cells_nofr (I : Inv X pins σ H s) (hfn : ∀ x, X.fn x = true) : ∀ y c, X.env.cells.lookup y = some c → c ∉ frs X.stack := fun y c e z => by
  obtain ⟨v, o, ho, hd⟩ := I.cell y c e
  rcases List.mem_cons.mp (I.stkSub c z) with q | q
  · exact I.cne y c e q
  · obtain ⟨_, o', ho', _⟩ := I.ok.funs.mem q
    exact absurd (Nat.lt_of_lt_of_le (Heap.lt_size ho') (I.ok.cab y c (hfn y) e)) (Nat.lt_irrefl _)
end
/-! ### lambdas: made -/
section
/-- the object at f is the lambda of these words, its defaults at dV -/
def LamO (f : Addr) (F : NF) (bd : Expr) (dV : Value) : HO := .ext fun h => ∃ (od : Option Addr) (sl : Array (Option Value)) (doc pm ctv : Value), h.get? f = some (⟨.type "function", od, .func (PySem.W.kdv_fn F.name F.qual F.params (.expr bd) F.scope F.cl dV doc pm (.ref F.c) ctv), sl⟩ : Obj)
theorem lamO_ne {f : Addr} {F : NF} {bd : Expr} {dV : Value} (ps : Array Value) : LamO f F bd dV ≠ .tbl ps := fun z => by
  unfold LamO at z
  cases z
theorem lamO_at {P : Program} {w : World} {H : Hp} {h : Heap} {f : Addr} {F : NF} {bd : Expr} {dV : Value} (hok : HOk P w H h) (e : H f = some (LamO f F bd dV)) :
    ∃ (od : Option Addr) (sl : Array (Option Value)) (doc pm ctv : Value), h.get? f = some (⟨.type "function", od, .func (PySem.W.kdv_fn F.name F.qual F.params (.expr bd) F.scope F.cl dV doc pm (.ref F.c) ctv), sl⟩ : Obj) := (hok f _ e).1
variable {X : Cx} {pins : List (Addr × Obj)} {σ : L2.St} {H : Hp} {s : Shared}
theorem inv_lam {F : NF} {bd : Expr} {dV : Value} {o : Obj} {t' : Nat} {doc pm ctv : Value} (I : Inv X pins σ H s) (ho : o = { cls := .type "function", data := .func (PySem.W.kdv_fn F.name F.qual F.params (.expr bd) F.scope F.cl dV doc pm (.ref F.c) ctv) }) :
    Inv X pins σ (upd H s.heap.objs.size (LamO s.heap.objs.size F bd dV)) { s with heap := s.heap.push o, toks := t' } := by
  subst ho
  have here : (s.heap.push ({ cls := .type "function", data := .func (PySem.W.kdv_fn F.name F.qual F.params (.expr bd) F.scope F.cl dV doc pm (.ref F.c) ctv) } : Obj)).get? s.heap.objs.size = some _ := Heap.get?_push_size _ rfl
  exact I.laid (a := s.heap.objs.size) (fun b u e => Heap.get?_push_of_some _ e) (Nat.le_refl _) ⟨⟨_, _, doc, pm, ctv, here⟩, ⟨_, here⟩, fun h1 h2 ⟨d1, d2, d3, d4, d5, d6⟩ st => ⟨d1, d2, d3, d4, d5, st _ d6⟩⟩
/-- the words of a lambda that X's code makes -/
def lamNF (X : Cx) (params : Arguments) (scope : Scope) (c' : Addr) : NF := ⟨"<lambda>", X.env.qual ++ "<lambda>", params, [], scope, cloFrom X.env.cells scope.names [], c'⟩
/-- the end of the making: the code object is new, or it stands in the table -/
theorem lam_tail {T : List (Addr × Str)} {c P : Addr} {params : Arguments} {bd : Expr} {scope : Scope} {pos : Pos} {dV : Value} {E Q : Value → Shared → Prop} (I : Inv X pins σ H s) (TB : TabB X.base X.mg c P) (hcode : X.env.code = .ref c)
    (hin : (P, X.env.qual ++ "<lambda>") ∈ T) (hone : ∀ p ∈ T, p.1 = P → p.2 = X.env.qual ++ "<lambda>") (hT : Tabs T H) (hfree : ∀ y ∈ scope.names, y.2 = .free → ∃ c, X.env.cells.lookup y.1 = some c)
    (k : ∀ (f c' : Addr) (H1 : Hp) (s' : Shared), Inv X pins σ H1 s' → ExtN H H1 → (∀ b, H1 b = Option.none → H b = Option.none) → Tabs T H1 → H f = none → H1 f = some (LamO f (lamNF X params scope c') bd dV) → H1 c' = some (CodeO c' (X.env.qual ++ "<lambda>")) → Q (.ref f) s') :
    wpAny (model X.prog X.w) X.A (makeTail "<lambda>" (X.env.qual ++ "<lambda>") params (.expr bd) scope X.env dV .none none pos pos.line) Q E s := by
  obtain ⟨ps, tabP, tri, among⟩ := hT _ hin
  have bltP : s.heap.BuiltinsAt X.mg P := TB.bm.keeps I.bk
  have heapP : s.heap.get? P = some { cls := .none, data := .fields ps } := I.hok P _ tabP
  cases found : codeAmong pos ps.toList with
  | some cv =>
    obtain ⟨c', rfl, known⟩ := among pos cv found
    refine PySem.W.kdv_makeTailHit (mg := X.mg) (c := c) (P := P) (ps := ps) (closure_ok hfree) I.ok.glob (I.mod.glob.keeps I.bk) hcode (TB.code.keeps I.bk) heapP tri found bltP fun ctv doc h' tk up _ => ?_
    have I1 : Inv X pins σ H { s with heap := h', toks := tk } := I.kept up
    have fresh : H h'.objs.size = none := I1.hok.fresh (Nat.le_refl _)
    have I2 := inv_lam (F := lamNF X params scope c') (bd := bd) (dV := dV) (t' := tk) (doc := doc) (pm := (X.mg "__name__").getD .none) (ctv := ctv) I1 rfl
    exact k h'.objs.size c' _ _ I2 (fun b o e _ => (upd_ne (ne_of_none e fresh)).trans e) (fun b e => upd_none e) (hT.ext fun b o e => (upd_ne (ne_of_none e fresh)).trans e) fresh upd_same ((upd_ne (ne_of_none known fresh)).trans known)
  | none =>
    refine PySem.W.kdv_makeTail (mg := X.mg) (c := c) (P := P) (ps := ps) (closure_ok hfree) I.ok.glob (I.mod.glob.keeps I.bk) hcode (TB.code.keeps I.bk) heapP tri found TB.gP bltP fun c' ctv doc h' tk but ge lt rec tabP' => ?_
    obtain ⟨c2, oc, vs, t, e2, r1, r2, r3⟩ := rec
    cases e2
    have newC : H c' = none := I.hok.fresh ge
    have I1 := inv_table (t' := tk) (more := #[rawInt pos.line, rawInt pos.col, .ref c']) (h' := h') I tabP (fun b o hb e => but b o hb e) tabP' ge ⟨oc, vs, t, r1, r2, r3⟩
    generalize hG : upd (upd H P (.tbl (ps ++ #[rawInt pos.line, rawInt pos.col, .ref c']))) c' (CodeO c' (X.env.qual ++ "<lambda>")) = G at I1
    have gC : G c' = some (CodeO c' (X.env.qual ++ "<lambda>")) := by rw [← hG]; exact upd_same
    have gP : G P = some (.tbl (ps ++ #[rawInt pos.line, rawInt pos.col, .ref c'])) := by rw [← hG, upd_ne (ne_of_none tabP newC)]; exact upd_same
    have gO : ∀ b o, b ≠ P → H b = some o → G b = some o := fun b o nb e => by rw [← hG, upd_ne (ne_of_none e newC), upd_ne nb]; exact e
    have ext : ExtN H G := fun b o e n => gO b o (fun z => n ps (Option.some.inj (e.symm.trans (by rw [z]; exact tabP)))) e
    have tabs : Tabs T G := fun p hp => by
      by_cases hb : p.1 = P
      · rw [hone p hp hb, hb]
        refine ⟨_, gP, ?_, fun p' cv hcv => ?_⟩
        · rw [Array.toList_append]
          exact PySem.TriplesOk_snoc _ _ _ _ tri
        · rw [Array.toList_append] at hcv
          rcases among_app _ tri hcv with z | z
          · obtain ⟨c0, q1, q2⟩ := among p' cv z
            exact ⟨c0, q1, ext _ _ q2 codeO_ne⟩
          · exact ⟨c', z, gC⟩
      · obtain ⟨ps', q1, q2, q3⟩ := hT p hp
        exact ⟨ps', gO _ _ hb q1, q2, fun p' cv hcv => let ⟨c0, w1, w2⟩ := q3 p' cv hcv; ⟨c0, w1, ext _ _ w2 codeO_ne⟩⟩
    have fresh : G h'.objs.size = none := I1.hok.fresh (Nat.le_refl _)
    have I2 := inv_lam (F := lamNF X params scope c') (bd := bd) (dV := dV) (t' := tk) (doc := doc) (pm := (X.mg "__name__").getD .none) (ctv := ctv) I1 rfl
    have up : ∀ b o, G b = some o → upd G h'.objs.size (LamO h'.objs.size (lamNF X params scope c') bd dV) b = some o := fun b o e => (upd_ne (ne_of_none e fresh)).trans e
    exact k h'.objs.size c' _ _ I2 (fun b o e n => up _ _ (ext b o e n)) (fun b e => by
      have z := upd_none e
      rw [← hG] at z
      exact upd_none (upd_none z)) (tabs.ext up) (I.hok.fresh (Nat.le_trans ge (Nat.le_of_lt lt))) upd_same (up _ _ gC)
/-- what a lambda's making asks: tables, then the new function -/
def tLam0 (T : List (Addr × Str)) (mk : Addr → NF) (bd : Expr) : TE := fun _ H Q => Tabs T H ∧ ∀ (f c' : Addr) (H1 : Hp), ExtN H H1 → (∀ b, H1 b = Option.none → H b = Option.none) → Tabs T H1 → H f = none → H1 f = some (LamO f (mk c') bd .none) → H1 c' = some (CodeO c' (mk c').qual) → Q (.ref f) H1
theorem pe_lam0 {T : List (Addr × Str)} {c P : Addr} {bd : Expr} {params : Arguments} {scope : Scope} {pos : Pos} (TB : TabB X.base X.mg c P) (hcode : X.env.code = .ref c) (hin : (P, X.env.qual ++ "<lambda>") ∈ T)
    (hone : ∀ p ∈ T, p.1 = P → p.2 = X.env.qual ++ "<lambda>") (L : LamS X.env.scope scope) (hd : params.defaults = []) (hk : params.kw_defaults = []) : PE X (.Lambda params bd scope pos) (tLam0 T (lamNF X params scope) bd) := by
  refine ⟨fun pins s σ H Q I h => ?_⟩
  obtain ⟨tab, go⟩ := h
  refine PySem.W.kla_eval (by rw [defaultsOf_eq, hd, hk]; rfl) ?_
  rw [makeFunction_eq]
  simp only [pure_bind, if_true, List.isEmpty_nil, List.filterMap_nil, List.zip_nil_right]
  exact lam_tail I TB hcode hin hone tab (L.has I.ok) fun f c' H1 s' I1 e1 e2 e3 e4 e5 e6 => ⟨.ref f, H1, I1, rfl, go f c' H1 e1 e2 e3 e4 e5 e6⟩
/-- one default, an int -/
def tLam1 (T : List (Addr × Str)) (mk : Addr → NF) (bd : Expr) (n : Int) : TE := fun _ H Q => Tabs T H ∧ ∀ (f c' t : Addr) (H1 : Hp), ExtN H H1 → (∀ b, H1 b = Option.none → H b = Option.none) → Tabs T H1 → H f = none → H1 f = some (LamO f (mk c') bd (.ref t)) → H1 c' = some (CodeO c' (mk c').qual) → H1 t = some (.tup [.int n]) → Q (.ref f) H1
theorem pe_lam1 {T : List (Addr × Str)} {c P : Addr} {bd : Expr} {params : Arguments} {scope : Scope} {pos pn : Pos} {n : Int} {j : Nat} (TB : TabB X.base X.mg c P) (hcode : X.env.code = .ref c) (hin : (P, X.env.qual ++ "<lambda>") ∈ T)
    (hone : ∀ p ∈ T, p.1 = P → p.2 = X.env.qual ++ "<lambda>") (L : LamS X.env.scope { scope with names := scope.names.filter fun y => y.2 != .local }) (hd : params.defaults = [.Constant (.int n) j pn]) (hk : params.kw_defaults = []) : PE X (.Lambda params bd scope pos) (tLam1 T (lamNF X params scope) bd n) := by
  refine ⟨fun pins s σ H Q I h => ?_⟩
  obtain ⟨tab, go⟩ := h
  refine PySem.W.kdv_lam (by rw [hd]; rfl) hk ?_
  rw [hd]
  refine PySem.W.kdv_all1 (thn (pe_int.run pins s σ H (fun v H' => v = .int n ∧ H' = H) I ⟨rfl, rfl⟩) fun u s1 ⟨v, H', I1, r1, e1, e2⟩ => PySem.W.kdv_all0 ?_)
  subst e1 e2
  rw [makeFunction_eq]
  simp only [pure_bind, if_true, List.isEmpty_nil, List.isEmpty_cons, Bool.false_eq_true, if_false, List.filterMap_nil, List.zip_nil_right]
  refine wpAny_bind (wpAny_newTextTuple ?_)
  have I2 : Inv X pins σ (upd H' s1.heap.objs.size (.tup [.int n])) { s1 with heap := s1.heap.push { cls := .type "tuple", data := .seq [u].toArray } } := by
    refine I1.laid (t' := s1.toks) (fun b o e => Heap.get?_push_of_some _ e) (Nat.le_refl _) ?_
    exact ⟨by show 1 ≤ sizeLine; decide, [u], .cons r1 .nil, _, Heap.get?_push_size _ rfl, rfl, _, rfl⟩
  have fresh : H' s1.heap.objs.size = none := I1.hok.fresh (Nat.le_refl _)
  have up : ∀ b o, H' b = some o → upd H' s1.heap.objs.size (.tup [.int n]) b = some o := fun b o e => (upd_ne (ne_of_none e fresh)).trans e
  refine lam_tail I2 TB hcode hin hone (tab.ext up) (fun y hy e => L.has I2.ok y (List.mem_filter.2 ⟨hy, by rw [e]; rfl⟩) e) fun f c' H1 s' I3 e1 e2 e3 e4 e5 e6 => ⟨.ref f, H1, I3, rfl, go f c' s1.heap.objs.size H1 (fun b o e nt => e1 b o (up _ _ e) nt) (fun b e => upd_none (e2 b e)) e3 (upd_none e4) e5 e6 ?_⟩
  exact e1 _ _ upd_same (fun ps z => by cases z)
end
end Odd

namespace Odd
open PySem PySem.Spec PyProof.Rows L2 LamX NdefX
/-! ### lambdas: called -/
/-- f called without arguments, at the heap H -/
def CallAt (P : Program) (w : World) (K : PySem.W.Frag) (mg : Str → Option Value) (base : Heap) (k : Nat) (f : Addr) (H : Hp) (Q : VK) (E : XK) : Prop :=
  ∀ (A : Around) (outer : List Env) (s : Shared), Room k A → Env0 P w K mg base A outer s H → codeAny (model P w) A (.call (.ref f) ⟨[], []⟩) (CR (L2.CX P w) outer P w H s Q E) s
/-- what the captured cells hold, in a base -/
structure CellsL (cl : List (Str × Addr)) (fr : List Str) (ws : List (Option V)) (B : Heap) : Prop where
  len : ws.length = fr.length
  all : ∀ y c, cl.lookup y = some c → ∃ v, B.IsCell c v
  inj : ∀ x y c, cl.lookup x = some c → cl.lookup y = some c → x = y
  has : ∀ (i : Nat) (y : Str), fr[i]? = some y → ∃ c, cl.lookup y = some c ∧ ∀ v, ws[i]? = some (some v) → ∃ u, RelV v u ∧ B.IsCell c (some u)
section
variable {P : Program} {w : World} {K : PySem.W.Frag} {mg : Str → Option Value} {base : Heap} {N ps fr : List Str} {F : NF} {f : Addr} {H : Hp} {Q : VK} {E : XK} {k : Nat} {bd : Expr} {dV : Value} {vs : List V} {ws : List (Option V)}
theorem CellsL.at {A : Around} {outer : List Env} {s : Shared} (C : CellsL F.cl fr ws base) (e0 : Env0 P w K mg base A outer s H) : CellsAt F.cl fr ws s.heap H where
  len := C.len
  all := fun y c e => by
    obtain ⟨v, o, ho, hd⟩ := C.all y c e
    exact ⟨(e0.bs c o ho).2, v, o, (e0.bs c o ho).1, hd⟩
  inj := C.inj
  has := fun i y e => by
    obtain ⟨c, hc, hv⟩ := C.has i y e
    refine ⟨c, hc, fun v ev => ?_⟩
    obtain ⟨u, ru, o, ho, hd⟩ := hv v ev
    exact ⟨u, ru, o, (e0.bs c o ho).1, hd⟩
theorem pas_lam {A : Around} {outer : List Env} {s : Shared} : Pas (ncx (L2.CX P w) P w K mg base N F f A outer s H E) E :=
  passes_call (takes_of rfl rfl rfl rfl : Takes (ncx (L2.CX P w) P w K mg base N F f A outer s H E) (fun cls d _ H => E cls d H)) fun _ _ _ _ h => h
/-- a lambda by its body -/
theorem lam_callAt (S : NScope N ps fr F.scope) (hf : H f = some (LamO f F bd dV)) (hc : H F.c = some (CodeO F.c F.qual)) (hl : vs.length = ps.length) (C : CellsL F.cl fr ws base)
    (hb : ∀ (s : Shared) (doc pm ctv : Value), HOk P w H s.heap → ∃ us, Vals vs us ∧ BindsTo s (PySem.W.kdv_fn F.name F.qual F.params (.expr bd) F.scope F.cl dV doc pm (.ref F.c) ctv) ⟨[], []⟩ (ps.zip us))
    (hbody : ∀ (A : Around) (outer : List Env) (s : Shared), Room k (A.deeper (envF F f s.heap.objs.size)) → ∃ tb, PE (ncx (L2.CX P w) P w K mg base N F f A outer s H E) bd tb ∧ tb (startF N vs ws) H Q) : CallAt P w K mg base (k + 1) f H Q E := by
  intro A outer s hr e0
  have lim : s.heap.NoLimit := e0.mod.nolimit.keeps fun b o e => (e0.bs b o e).1
  obtain ⟨od, sl, doc, pm, ctv, ho⟩ := lamO_at e0.hok hf
  obtain ⟨us, rv, bind⟩ := hb s doc pm ctv e0.hok
  refine PySem.W.kla_callFunE hr.depth ho rfl S.co S.gen rfl (codeO_at e0.hok hc) (bind _ _ _ _ ?_)
  refine wpAny_newFunctionEnv S.nocell (fun ⟨n, _⟩ hy => S.par n (List.of_mem_zip hy).1) (fun h₁ hns hsb => ⟨lim.fresh _ hsb, ?_⟩) S.kind
  show codeAny _ _ (.expr bd (envF F f s.heap.objs.size)) _ _
  have up : ∀ b o, s.heap.get? b = some o → h₁.get? b = some o := fun b o e => hsb.extBut b o (Nat.ne_of_lt (Heap.lt_size e)) (Heap.get?_push_of_some _ e)
  obtain ⟨tb, pe, q⟩ := hbody A outer s (hr.deeper _)
  have I : Inv (ncx (L2.CX P w) P w K mg base N F f A outer s H E) [] (startF N vs ws) H { s with heap := h₁, toks := s.toks + (ps.zip us).length } := inv_startN S hr.hd e0 hl rv (C.at e0) hns up
  refine PySem.W.kla_codeExpr (wpAny_mono (pe.run [] _ (startF N vs ws) H Q I q) (fun u s' z => ?_) fun e s' z => z)
  obtain ⟨v, H', J, r, qq⟩ := z
  exact ⟨v, H', J.os, J.bare, J.base, J.hok, r, qq⟩
/-- no parameter -/
theorem lam_bind0 {qual : Str} {params : Arguments} {scope : Scope} {cl : List (Str × Addr)} {doc pm cv ctv : Value} {s : Shared} (h : bindArgs (PySem.W.kdv_fn "<lambda>" qual params (.expr bd) scope cl .none doc pm cv ctv) ⟨[], []⟩ = pure []) :
    ∃ us, Vals ([] : List V) us ∧ BindsTo s (PySem.W.kdv_fn "<lambda>" qual params (.expr bd) scope cl .none doc pm cv ctv) ⟨[], []⟩ (([] : List Str).zip us) := ⟨[], .nil, .of_eq h⟩
/-- one parameter, with a default -/
theorem lam_bind1 {qual x : Str} {n : Int} {t : Addr} {params : Arguments} {scope : Scope} {cl : List (Str × Addr)} {doc pm cv ctv : Value} {s : Shared} {kk : Option (Array Value) → Sem (List (Str × Value))} (hok : HOk P w H s.heap) (ht : H t = some (.tup [.int n]))
    (h1 : bindArgs (PySem.W.kdv_fn "<lambda>" qual params (.expr bd) scope cl (.ref t) doc pm cv ctv) ⟨[], []⟩ = seqItems? (.ref t) >>= kk) (h2 : ∀ u : Value, kk (some #[u]) = pure [(x, u)]) :
    ∃ us, Vals [V.int n] us ∧ BindsTo s (PySem.W.kdv_fn "<lambda>" qual params (.expr bd) scope cl (.ref t) doc pm cv ctv) ⟨[], []⟩ ([x].zip us) := by
  obtain ⟨_, its, rv, o, ho, hcl, m, hd⟩ := hok t _ ht
  obtain ⟨u, rfl, ru⟩ := vals1 rv
  refine ⟨[u], .cons ru .nil, ?_⟩
  obtain ⟨oc, od, dd, sl⟩ := o
  cases hd
  exact BindsTo.of_defaults (T := t) rfl ho rfl h1 (h2 u)
end
/-- x(), x a local that holds a lambda -/
def tAct (X : Cx) (i k : Nat) (W : WX) : TE := fun σ H Q => ∃ (f : Addr) (F : NF) (bd : Expr) (dV : Value) (Ef : XK), σ[i]? = some (some (.ref f)) ∧ H f = some (LamO f F bd dV) ∧ CallAt X.prog X.w X.K X.mg X.base k f H Q Ef ∧ (∀ cls d (σ' : L2.St) H', Ef cls d H' → W cls d σ' H') ∧ Room k X.A
theorem pe_act {X0 X : Cx} {a : Str} {i k : Nat} {W : WX} {p1 p2 : Pos} (l : Like X0 X) (tk : Takes X W) (hN : X.N[i]? = some a) (hv : Vis X.env.scope a) (hd : (a == ("__debug__" : Str)) = false := by decide) (hcd : (a == ("__classdict__" : Str)) = false := by decide) :
    PE X (.Call (.Name a p1) [] [] p2) (tAct X0 i k W) := by
  refine ⟨fun pins s σ H Q I h => ?_⟩
  obtain ⟨f, F, bd, dV, Ef, hs, hf, hc, hW, hr⟩ := h
  rw [← l.prog, ← l.w, ← l.K, ← l.mg, ← l.base] at hc
  rw [← l.A] at hr
  refine wpAny_Call_Name_kw (thn ((pe_var (pos := p1) (i := i) hN hv hd hcd).run pins s σ H (fun v H1 => v = .ref f ∧ H1 = H) I ⟨.ref f, hs, rfl, rfl⟩) fun u s1 ⟨v, H1, I1, r1, ev, eH⟩ => ?_)
  subst ev eH
  obtain rfl : u = Value.ref f := r1
  obtain ⟨od, sl, doc, pm, ctv, ho⟩ := lamO_at I1.hok hf
  refine PySem.W.callWith_F0 ⟨_, _, _, _, ho⟩ (wpAny_call (codeAny_mono (hc X.A X.stack s1 hr I1.env0) fun r s' hq => ?_))
  have thrown : Passes (L2.CX X.prog X.w) X Ef := passes_call tk fun cls d σ' H' e => hW cls d σ' H' e
  match r, hq with
  | .error e, hq => exact thrown pins σ H1 s1 e s' I1 hq
  | .ok (.ret u), hq => exact I1.after hq
/-- what stands at a slot -/
def slV (σ : L2.St) (j : Nat) : Option V := (σ[j]?).join
theorem slV_at {σ : L2.St} {j : Nat} {v : V} (h : slV σ j = some v) : σ[j]? = some (some v) := by
  unfold slV at h
  cases e : σ[j]? with
  | none => rw [e] at h; cases h
  | some o => rw [e] at h; cases o with
    | none => cases h
    | some u => cases h; rfl
theorem cells_of {X : Cx} {σ : L2.St} {B : Heap} {scope : Scope} {fr : List Str} {js : List Nat} (C : CellsB X σ B) (hfr0 : ∀ y ∈ scope.names, y.2 = .free → X.env.scope.names.lookup y.1 = some .cell)
    (hin : ∀ y ∈ fr, (y, NameKind.free) ∈ scope.names) (hj : js.map (fun j => X.N[j]?) = fr.map some) : CellsL (cloFrom X.env.cells scope.names []) fr (js.map (slV σ)) B := by
  have hfr : ∀ y ∈ scope.names, y.2 = .free → X.env.scope.names.lookup y.1 = some .cell ∧ ∃ c, X.env.cells.lookup y.1 = some c := fun y hy e => ⟨hfr0 y hy e, C.2.2.2 y.1 (hfr0 y hy e)⟩
  have cm : ∀ {y c}, (cloFrom X.env.cells scope.names []).lookup y = some c → X.env.cells.lookup y = some c := fun {y c} e => by
    rcases cloFrom_mem (PySem.mem_of_lookup e) with z | ⟨z, q⟩
    · cases z
    · obtain ⟨_, c1, q1⟩ := hfr _ z rfl
      have q1 : X.env.cells.lookup y = some c1 := q1
      rw [q1] at q
      have q : c = c1 := q
      rw [q]
      exact q1
  have len : js.length = fr.length := by
    have := congrArg List.length hj
    rwa [List.length_map, List.length_map] at this
  refine ⟨by rw [List.length_map]; exact len, fun y c e => C.1 y c (cm e), fun x y c e1 e2 => C.2.1 x y c (cm e1) (cm e2), fun i y e => ?_⟩
  have hy := List.mem_of_getElem? e
  obtain ⟨c, hc⟩ := mem_lookup (cloFrom_has (cells := X.env.cells) (acc := []) (hin y hy))
  refine ⟨c, hc, fun v ev => ?_⟩
  rw [List.getElem?_map] at ev
  cases ej : js[i]? with
  | none => rw [ej] at ev; cases ev
  | some j =>
    rw [ej] at ev
    have sv := slV_at (Option.some.inj ev)
    have nj : X.N[j]? = some y := by
      have z := congrArg (fun l => l[i]?) hj
      simp only [List.getElem?_map, ej, e, Option.map_some] at z
      exact Option.some.inj z
    obtain ⟨c2, u, e2, ru, ce⟩ := C.2.2.1 j y v nj sv (hfr _ (hin y hy) rfl).1
    have e3 := cm hc
    rw [e2] at e3
    cases e3
    exact ⟨u, ru, ce⟩
end Odd

namespace Odd
open PySem PySem.Spec PyProof.Rows L2 LamX NdefX
/-! ### a comprehension whose elements call lambdas of the maker -/
section
variable {X : Cx}
/-- its block, over a base that holds the maker's cells -/
abbrev blkB (X : Cx) (s : Shared) (H : Hp) (scope : Scope) (cenv : Env) (fp : List Addr) (B : Heap) : Cx := { X.blk s H scope cenv fp with base := B }
theorem rebase {s s' : Shared} {H H' : Hp} {scope : Scope} {cenv : Env} {fp : List Addr} {B : Heap} {pins : List (Addr × Obj)} {σ : L2.St} (I : Inv (X.blk s H scope cenv fp) pins σ H' s') (m : Mod X.K X.mg B) (b1 : ∀ b o, B.get? b = some o → s.heap.get? b = some o ∧ H b = none)
    (b2 : B.objs.size ≤ s.heap.objs.size) (b3 : ∀ b o, B.get? b = some o → b ∉ fp) (b4 : s.heap.FunFrames B X.stack) : Inv (blkB X s H scope cenv fp B) pins σ H' s' :=
  ⟨⟨m, I.ok.kind, I.ok.glob, I.ok.blt, I.ok.above, I.ok.inj, I.ok.has, I.ok.cab, I.ok.hd, I.ok.frames, I.ok.stk, I.ok.exf, b1, b2, b3, I.ok.exfs, b4, I.ok.frf⟩, I.os, I.bare, I.base, I.loc, I.cell, I.free, I.freeC, I.pin, I.hok, I.len⟩
def tLcB (X : Cx) (wi : TI) (g : TG) (te : Heap → TE) (vs : List Nat) : TE := fun σ H Q => wi σ H fun J H1 => ∀ B, CellsB X σ B → ∀ D, H1 D = none → ∃ W : Nat → Nat → Hp → Prop, (∃ m, W 0 m (upd H1 D (.lst []))) ∧ ∀ i m H, W i m H →
  (J.stop i H ∧ Q (.ref D) H) ∨ (J.go i H ∧ ∃ Nx : Hp → Prop, (∀ H', Nx H' → ∃ m', m' < m ∧ W (i + 1) m' H') ∧ ∀ x H', J.yld i H x H' → g x (wipe σ vs) H' fun σ2 H2 => wipe σ2 vs = wipe σ vs ∧ tYes σ2 H2 fun b H3 =>
    if b = true then te B σ2 H3 fun y H4 => ∃ acc, H4 D = some (.lst acc) ∧ acc.length < sizeLine ∧ Nx (upd H4 D (.lst (acc ++ [y]))) else Nx H3)
theorem pe_lcB {elt tg iter : Expr} {scope : Scope} {own : List (Str × Nat)} {pos : Pos} {wi : TI} {g : TG} {te : Heap → TE} (calm : X.calm = true) (hfn : ∀ x, X.fn x = true) (nd : X.N.Nodup) (hi : PI X tg iter wi) (ok : BlkOk X.N X.env.scope scope own)
    (hg : ∀ (s : Shared) (H : Hp) (C : Addr) (cl : List (Str × Addr)) (fp : List Addr) (B : Heap), PG (blkB X s H scope (compEnvC scope cl C X.env) fp B) tg g)
    (he : ∀ (s : Shared) (H : Hp) (C : Addr) (cl : List (Str × Addr)) (fp : List Addr) (B : Heap), PE (blkB X s H scope (compEnvC scope cl C X.env) fp B) elt (te B)) (fold : ∀ x, foldedSetIterable iter X.env x = pure x := by intro _; rfl) :
    PE X (.ListComp elt [⟨tg, iter, [], 0⟩] scope pos) (tLcB X wi g te (own.map (·.2))) := by
  refine ⟨fun pins s σ H Q I start => ?_⟩
  rw [eval_ListComp]
  have cellOf : ∀ y ∈ scope.names, y.2 = .free → ∃ c, X.env.cells.lookup y.1 = some c := fun y hy e => (ok.free y hy e).elim (fun k => I.ok.has _ (.inl k)) fun k => I.ok.has _ (.inr k)
  refine wpAny_comprehension_free (use := none) rfl fold (closure_ok cellOf) ok.kind (fun y hy e => (ok.uniq y hy).trans (by rw [e])) (thn (hi.run pins s σ H _ I start) fun _ s1 run1 => thn run1 fun _ s2 run2 => ?_)
  obtain ⟨it, fp, tn, J, H2, rfl, I2, T, walk2, free2, body⟩ := run2
  refine wpAny_newObj_type (newEnv_comp ?_) (by show 0 ≤ sizeLine; decide)
  obtain ⟨D, eD⟩ : ∃ D, D = s2.heap.objs.size := ⟨_, rfl⟩
  rw [← eD]
  have newD : H2 D = none := I2.hok.fresh (by rw [eD]; exact Nat.le_refl _)
  -- the list, empty
  obtain ⟨s3, e3⟩ : ∃ s3 : Shared, s3 = { s2 with heap := s2.heap.push { cls := .type "list", data := .seq ([] : List Value).toArray } } := ⟨_, rfl⟩
  have heap3 : s3.heap = s2.heap.push { cls := .type "list", data := .seq ([] : List Value).toArray } := by rw [e3]
  obtain ⟨H3, eH3⟩ : ∃ H3, H3 = upd H2 D (.lst []) := ⟨_, rfl⟩
  have I3 : Inv X pins σ H3 s3 := by
    rw [e3, eH3, eD]
    exact I2.laid (t' := s2.toks) (fun b o e => Heap.get?_push_of_some _ e) (Nat.le_refl _) ⟨Nat.zero_le _, [], 0, .nil, Heap.get?_push_size _ rfl⟩
  have under : ∀ b ∈ fp, b < s2.heap.objs.size := fun b hb => let ⟨_, e, _⟩ := T.obj _ _ walk2 b hb; Heap.lt_size e
  have free3 : ∀ b ∈ fp, FpOk X pins H3 b ∧ b < s3.heap.objs.size := fun b hb => by
    have lt := under b hb
    refine ⟨⟨?_, (free2 b hb).2⟩, by rw [heap3, Heap.size_push]; exact Nat.lt_succ_of_lt lt⟩
    rw [eH3, upd_ne (by rw [eD]; exact Nat.ne_of_lt lt)]
    exact (free2 b hb).1
  have walk3 : tn 0 s3.heap := T.keep _ _ _ walk2 fun b _ o e => by rw [heap3]; exact Heap.get?_push_of_some _ e
  -- the base for the block
  obtain ⟨B, eB⟩ : ∃ B, B = subB s3 H3 (frs X.stack ++ fp) := ⟨_, rfl⟩
  have inB : ∀ b o, B.get? b = some o → s3.heap.get? b = some o ∧ H3 b = none ∧ b ∉ frs X.stack ++ fp := fun b o e => by rw [eB] at e; exact subB_of e
  have modB : Mod X.K X.mg B := by
    rw [eB]
    refine mod_up I3.ok.mod (base_sub I3 fun b o e z => ?_)
    rcases List.mem_append.1 z with z | z
    · exact base_nofr I3 b o e z
    · have q := (free3 b z).1.2.2.2.1
      rcases q with q | q
      · exact I3.ok.noex b o e q
      · exact absurd (Nat.lt_of_lt_of_le (Heap.lt_size e) (Nat.le_trans I3.ok.bsz q)) (Nat.lt_irrefl _)
  have cellsB : CellsB X σ B := by
    rw [eB]
    refine cells_sub I3 fun y c e z => ?_
    rcases List.mem_append.1 z with z | z
    · exact cells_nofr I3 hfn y c e z
    · exact (free3 c z).1.2.2.2.2.1 y c e rfl
  have sizeB : B.objs.size ≤ s3.heap.objs.size := by rw [eB, subB_size]; exact Nat.le_refl _
  have framesB : s3.heap.FunFrames B X.stack := frames_base I3.stack fun b hb => by rw [eB]; exact subB_none (List.mem_append_left _ hb)
  have re : ∀ {cenv : Env} {pins' : List (Addr × Obj)} {σ' : L2.St} {H' : Hp} {s' : Shared}, Inv (X.blk s3 H3 scope cenv fp) pins' σ' H' s' → Inv (blkB X s3 H3 scope cenv fp B) pins' σ' H' s' := fun I' =>
    rebase I' modB (fun b o e => ⟨(inB b o e).1, (inB b o e).2.1⟩) sizeB (fun b o e z => (inB b o e).2.2 (List.mem_append_right _ z)) framesB
  obtain ⟨W, ⟨m0, w0⟩, turns⟩ := body B cellsB D newD
  rw [← eH3] at w0
  have I4 := block_start I3 ok nd free3
  have goes := hg s3 H3 s3.heap.objs.size (cellsFrom (s3.heap.objs.size + 1) scope.names (cloFrom X.env.cells scope.names [])) fp B
  have elem := he s3 H3 s3.heap.objs.size (cellsFrom (s3.heap.objs.size + 1) scope.names (cloFrom X.env.cells scope.names [])) fp B
  have shown : ({ s2 with heap := s2.heap.push { cls := .type "list", data := .seq ([] : List Value).toArray } } : Shared) = s3 := e3.symm
  rw [shown]
  show codeAny _ _ (.compStart (.ListComp elt [⟨tg, iter, [], 0⟩] scope pos) 0 (.ref it) (.ref D) (compEnvC scope (cellsFrom (s3.heap.objs.size + 1) scope.names (cloFrom X.env.cells scope.names [])) s3.heap.objs.size X.env)) (compPost (model X.prog X.w) X.A X.xe none (EP X pins σ Q) (.ref D) s3.heap.objs.size) { s3 with heap := pushCells (s3.heap.push { cls := .type "dict", data := .dict #[] }) scope.names }
  have locD : (compEnvC scope (cellsFrom (s3.heap.objs.size + 1) scope.names (cloFrom X.env.cells scope.names [])) s3.heap.objs.size X.env).locals = s3.heap.objs.size := rfl
  generalize compEnvC scope (cellsFrom (s3.heap.objs.size + 1) scope.names (cloFrom X.env.cells scope.names [])) s3.heap.objs.size X.env = ce at I4 goes elem locD ⊢
  obtain ⟨s4, e4⟩ : ∃ s4 : Shared, s4 = { s3 with heap := pushCells (s3.heap.push { cls := .type "dict", data := .dict #[] }) scope.names } := ⟨_, rfl⟩
  rw [← e4] at I4 ⊢
  have walk4 : tn 0 s4.heap := T.keep _ _ _ walk3 fun b _ o e => by rw [e4]; exact pushCells_keeps _ _ _ _ (Heap.get?_push_of_some _ e)
  have still : ∀ {σ' : L2.St} {H' : Hp} {s' : Shared}, Inv (blkB X s3 H3 scope ce fp B) [] σ' H' s' → (∀ b ∈ fp, H' b = none) → ∀ b ∈ fp, FpOk (blkB X s3 H3 scope ce fp B) [] H' b := fun {σ' H' s'} I' hn b hb =>
    ⟨hn b hb, (I'.ok.exf b hb).1, I'.ok.exfs b hb, .inl hb, fun x c e => (I'.ok.exf b hb).2 x c e, fun p hp => absurd (show p ∈ ([] : List (Addr × Obj)) ++ [] from hp) (by simp)⟩
  have loop : codeAny (model X.prog X.w) X.A (.compLoop (.ListComp elt [⟨tg, iter, [], 0⟩] scope pos) 0 (.ref it) (.ref D) ce) (compPost (model X.prog X.w) X.A X.xe none (EP X pins σ Q) (.ref D) s3.heap.objs.size) s4 := by
    refine compLoop_any (fun n s' => ∃ i H', Inv (blkB X s3 H3 scope ce fp B) [] (wipe σ (own.map (·.2))) H' s' ∧ tn i s'.heap ∧ (∀ b ∈ fp, H' b = none) ∧ W i n H') (fun n s5 inv5 => ?_) m0 ⟨0, H3, re I4, walk4, fun b hb => (free3 b hb).1.1, w0⟩
    obtain ⟨i, H5, I5, walk5, none5, w5⟩ := inv5
    rcases turns i n H5 w5 with ⟨stop, last⟩ | ⟨go, Nx, next, step⟩
    · refine thnF (T.done (blkB X s3 H3 scope ce fp B) rfl rfl rfl calm i [] s5 _ H5 (fun _ _ => False) I5 (still I5 none5) walk5 stop) fun r s6 ⟨er, I6⟩ => ?_
      subst er
      have back : Inv X pins σ H5 s6 := I3.call' (ch := fp) I6.os I6.base I6.hok I6.bare fun b hb => let z := (free3 b hb).1; ⟨z.2.2.2.1, z.2.1, z.2.2.2.2.1, z.2.2.2.2.2⟩
      have gone : H5 s3.heap.objs.size = none := by
        have z : H5 ce.locals = none := I6.free
        rwa [locD] at z
      obtain ⟨m, ns, _⟩ := I6.loc
      have ns : s6.heap.Ns ce.locals m := ns
      rw [locD] at ns
      refine ⟨m, ns, fun h7 only => ?_⟩
      obtain ⟨f0, f1, f2, f3, f4, f5⟩ := I3.fpOk (Nat.le_refl _) gone
      exact ⟨.ref D, H5, back.turned (t' := s6.toks) (fun b o hb e => (only.2 b hb).trans e) f0 f1 f3 f4 f5, rfl, last⟩
    · refine thnF (T.item (blkB X s3 H3 scope ce fp B) rfl rfl rfl calm i [] s5 _ H5 (fun _ _ => False) I5 (still I5 none5) walk5 go) fun r s6 ⟨u, er, run6⟩ => ?_
      subst er
      refine thnF run6 fun _ s7 ⟨x, H7, I7, rx, yl, walk7, none7⟩ => ?_
      have pinned := I7.pinned (still I7 none7) (T.obj _ _ walk7)
      refine thnF (goes.run _ s7 _ H7 x u _ pinned rx (step x H7 yl)) fun _ s8 ⟨σ8, H8, I8, same8, q8⟩ => ?_
      refine thnF ((pts_nil (X := blkB X s3 H3 scope ce fp B)).run _ s8 σ8 H8 _ I8 q8) fun b s9 ⟨H9, I9, q9⟩ => ?_
      have done : ∀ {s' : Shared} {H' : Hp}, Inv (blkB X s3 H3 scope ce fp B) ([] ++ pinsAt fp s7.heap) σ8 H' s' → Nx H' → ∃ m, m < n ∧ ∃ i H', Inv (blkB X s3 H3 scope ce fp B) [] (wipe σ (own.map (·.2))) H' s' ∧ tn i s'.heap ∧ (∀ b ∈ fp, H' b = none) ∧ W i m H' := fun {s' H'} I' nx => by
        obtain ⟨m', lt, w'⟩ := next H' nx
        have pin' : ∀ b ∈ fp, ∀ o, s7.heap.get? b = some o → s'.heap.get? b = some o ∧ H' b = none := fun b hb o e => ⟨(I'.pin (b, o) (List.mem_append_right _ (List.mem_append_right _ (mem_pinsAt hb e)))).1, (I'.pin (b, o) (List.mem_append_right _ (List.mem_append_right _ (mem_pinsAt hb e)))).2.1⟩
        refine ⟨m', lt, i + 1, H', (I'.unpinned (pins := [])).weak (by rw [← same8, wipe_length]) (fun j v e => (wipe_some (by rw [same8]; exact e)).1), T.keep _ _ _ walk7 fun b hb o e => (pin' b hb o e).1, fun b hb => ?_, w'⟩
        obtain ⟨o, e, _⟩ := T.obj _ _ walk7 b hb
        exact (pin' b hb o e).2
      cases b with
      | false =>
        rw [if_neg Bool.false_ne_true] at q9 ⊢
        exact done I9 q9
      | true =>
        rw [if_pos rfl] at q9 ⊢
        refine thnF (elem.run _ s9 σ8 H9 _ I9 q9) fun z s10 ⟨yv, H10, I10, ry, acc, atD, short, nx⟩ => ?_
        exact app_ok (X := blkB X s3 H3 scope ce fp B) I10 atD short ry fun s11 I11 => done I11 nx
  exact codeAny_compStart_list loop (T.self X.A 0 _ _ _ walk4 loop)
end
/-- x(e, ..), x a global def that may call the maker's lambdas -/
def tGlB (X : Cx) (E : XK) (x : Str) (t : TA) : TE := fun σ H Q => ∃ a, X.mg x = some (.ref a) ∧ PySem.W.keepIn X.K (.ref a) = true ∧ t σ H fun vs H1 => ∀ B, CellsB X σ B → ∃ k sp, FnR X.prog X.w X.K X.mg B (L2.CX X.prog X.w) k a sp ∧ Room k X.A ∧ sp vs H1 Q E
theorem pe_glB {X : Cx} {E : XK} {x : Str} {e : Expr} {es : List Expr} {t : TA} {p pos : Pos} (h : Pas X E) (hfn : ∀ x, X.fn x = true) (hg : Gl X x) (ha : PA X (e :: es) t) (hdb : (x == ("__debug__" : Str)) = false := by decide) (he : starEach (e :: es) X.env = (false, eval e X.env) :: starEach es X.env := by rfl)
    (hpl : (backTo pos (starEach es X.env)).any (·.1) = false := by rfl) : PE X (.Call (.Name x p) (e :: es) [] pos) (tGlB X E x t) := by
  refine ⟨fun pins s σ H Q I ⟨f, hm, hk, q⟩ => ?_⟩
  refine wpAny_Call_Name_kw (ld_glob I hg hm ?_ hdb)
  refine PySem.W.callWith_K (h₀ := X.base) I.ok.mod.kin hk (thn (ha.run pos pins s σ H _ I q) fun us s1 ⟨vs, H1, I1, r1, go⟩ => ⟨I1.kIn, ?_⟩) he hpl
  obtain ⟨k, sp, F, hr, q1⟩ := go _ (cells_sub I1 (cells_nofr I1 hfn))
  refine wpAny_call (codeAny_mono (F X.A X.stack s1 H1 us vs Q E hr (env0_sub I1) r1 q1) fun r s' hq => ?_)
  match r, hq with
  | .error e, hq => exact h pins σ H1 s1 e s' I1 hq
  | .ok (.ret u), hq => exact I1.after hq
/-- a def of which the code object is known -/
theorem okXC {P : Program} {w : World} {K : PySem.W.Frag} {mg : Str → Option Value} {base : Heap} {x qual : Str} {st : Stmt} {f : Addr} {fd : FuncData} {N ps : List Str} {k : Nat} {sp : Sp} {cv : Value} (F : Fun K x qual st f fd) (hc : fd.code = cv) (S : FnScope N ps (defScope st)) (len : ∀ vs H Q E, sp vs H Q E → vs.length = ps.length)
    (hbody : ∀ (A : Around) (outer : List Env) (s : Shared) (H : Hp) (vs : List V) (Q : VK) (E : XK), Room k (A.deeper (envOfC qual (defScope st) s.heap.objs.size f cv)) → sp vs H Q E →
      ∃ t, PSs (cxOf (L2.CX P w) P w K mg base N qual (defScope st) f cv A outer s H E) (defBody st) t ∧ t { nx := fun _ H' => Q .non H', rt := Q } (start N vs) H) : FnOk P w K mg base (L2.CX P w) (k + 1) f fd ps sp := by
  obtain ⟨oc, od, kV, doc, pm, an, cdv, ct, osl, rfl, lk, hcd⟩ := F.ex
  have e : cdv = cv := hc
  subst e
  exact fn_of lk hcd S len fun A outer s H vs Q E hr hsp => hbody A outer s H vs Q E hr hsp
end Odd

namespace Odd
open PySem PySem.Spec PyProof.Rows L2 LamX NdefX
abbrev rb (X : Cx) (B : Heap) : Cx := { X with base := B }
/-! ### checks -/
def capB (sc scope : Scope) (N fr : List Str) (js : List Nat) : Bool :=
  scope.names.all (fun y => !decide (y.2 = .free) || decide (sc.names.lookup y.1 = some .cell)) && fr.all (fun y => decide ((y, NameKind.free) ∈ scope.names)) && decide (js.map (fun j => N[j]?) = fr.map some)
theorem cells_by {X : Cx} {σ : L2.St} {B : Heap} {scope : Scope} {fr : List Str} {js : List Nat} (C : CellsB X σ B) (h : capB X.env.scope scope X.N fr js = true) : CellsL (cloFrom X.env.cells scope.names []) fr (js.map (slV σ)) B := by
  unfold capB at h
  simp only [Bool.and_eq_true, List.all_eq_true, Bool.or_eq_true, Bool.not_eq_true', decide_eq_true_eq, decide_eq_false_iff_not] at h
  exact cells_of C (fun y hy e => ((h.1.1 y hy).elim (fun z => absurd e z) id)) (fun y hy => h.1.2 y hy) h.2
/-- a lambda of X's called, at a heap where the maker's cells are in the base -/
theorem lam_go {X : Cx} {σ : L2.St} {B : Heap} {params : Arguments} {scope : Scope} {bd : Expr} {dV : Value} {c' f : Addr} {H : Hp} {Q : VK} {E : XK} {k : Nat} {vs : List V} (N ps fr : List Str) (js : List Nat) (ws : List (Option V)) (C : CellsB X σ B) (cap : capB X.env.scope scope X.N fr js = true) (S : nscB N ps fr scope = true)
    (hf : H f = some (LamO f (lamNF X params scope c') bd dV)) (hc : H c' = some (CodeO c' (X.env.qual ++ "<lambda>"))) (hl : vs.length = ps.length) (hw : js.map (slV σ) = ws)
    (hb : ∀ (s : Shared) (doc pm ctv : Value), HOk X.prog X.w H s.heap → ∃ us, Vals vs us ∧ BindsTo s (PySem.W.kdv_fn "<lambda>" (X.env.qual ++ "<lambda>") params (.expr bd) scope (cloFrom X.env.cells scope.names []) dV doc pm (.ref c') ctv) ⟨[], []⟩ (ps.zip us))
    (hbody : ∀ (A : Around) (outer : List Env) (s : Shared), Room k (A.deeper (envF (lamNF X params scope c') f s.heap.objs.size)) → ∃ tb, PE (ncx (L2.CX X.prog X.w) X.prog X.w X.K X.mg B N (lamNF X params scope c') f A outer s H E) bd tb ∧ tb (startF N vs ws) H Q) :
    CallAt X.prog X.w X.K X.mg B (k + 1) f H Q E := by
  subst hw
  exact lam_callAt (F := lamNF X params scope c') (nscope_by S) hf hc hl (cells_by C cap) hb hbody
/-! ### exceptions' classes, code objects -/
theorem exm_of {K : PySem.W.Frag} {C1 C2 : Addr} {b : Bool} (h1 : PySem.W.subIn K (.ref C2) (.type "BaseException") = some true) (h2 : PySem.W.typeIn K (.ref C2) = some (.type "type")) (h3 : PySem.W.isClsIn K C2 = true) (h4 : PySem.W.subIn K (.ref C1) (.ref C2) = some b) : PySem.W.exmOne K (.ref C1) (.ref C2) = some b := by
  have h3 : (PySem.W.clsIn K C2).isSome = true := h3
  unfold PySem.W.exmOne PySem.W.kitCls
  rw [h1, if_pos (by simp)]
  show (if ((PySem.W.clsIn K C2).isSome && PySem.W.typeIn K (.ref C2) == some (.type "type")) = true then PySem.W.subIn K (.ref C1) (.ref C2) else none) = some b
  rw [h3, h2]
  rw [if_pos (by simp)]
  exact h4
def hdOk (vs : Array Value) (c P : Addr) : Bool :=
  (match (vs[11]? : Option Value) with | some (.ref P') => P' == P | _ => false) && (match vs.getD 18 .none with | .str _ _ => true | _ => false) && (match vs.getD 7 .none with | .int _ _ => true | _ => false) &&
    (match vs.getD 9 .none with | .bool _ => true | _ => false) && (match vs.getD 10 .none with | .int _ _ => true | _ => false) && c != P
theorem hd_of {K : PySem.W.Frag} {c P : Addr} {od : Option Addr} {vs : Array Value} {sl : Array (Option Value)} (h : K.lookup c = some ⟨.type "code", od, .fields vs, sl⟩) (e : hdOk vs c P = true) : PySem.W.codeHdIn K c P = true := by
  unfold PySem.W.codeHdIn
  rw [h]
  exact e
/-! ### tables kept -/
theorem tabs_same {T : List (Addr × Str)} {H H' : Hp} (t : Tabs T H) (s : Same H H') : Tabs T H' := t.ext s
theorem tabs_b {T : List (Addr × Str)} {H H' : Hp} {st : Addr} {l : List V} (t : Tabs T H) (s : SameB (· = st) H H') (h : H st = some (.lst l)) : Tabs T H' := fun p hp => by
  obtain ⟨ps, h1, h2, h3⟩ := t p hp
  have up : ∀ b o, H b = some o → (∀ l, o ≠ .lst l) → H' b = some o := fun b o e n => s b o (fun z => by rw [z, h] at e; exact n l (Option.some.inj e).symm) e
  refine ⟨ps, up _ _ h1 (fun l z => by cases z), h2, fun pos cv hc => ?_⟩
  obtain ⟨c, e1, e2⟩ := h3 pos cv hc
  exact ⟨c, e1, up _ _ e2 fun l z => by unfold CodeO at z; cases z⟩
/-- all but tables kept -/
theorem ExtN.o {H H' : Hp} (e : ExtN H H') {b : Addr} {o : HO} (h : H b = some o) (n : ∀ ps, o ≠ .tbl ps) : H' b = some o := e b o h n
/-! ### the try -/
theorem w_try {X : Cx} {i k : Nat} {W : WX} {σ : L2.St} {H : Hp} {D : Ends} {f : Addr} {F : NF} {bd : Expr} {dV : Value} {Ef : XK} (hs : σ[i]? = some (some (.ref f))) (hf : H f = some (LamO f F bd dV)) (hc : CallAt X.prog X.w X.K X.mg X.base k f H D.rt Ef) (hW : ∀ cls d (σ' : L2.St) H', Ef cls d H' → W cls d σ' H') (hr : Room k X.A) :
    tRet (tAct X i k W) D σ H := ⟨f, F, bd, dV, Ef, hs, hf, hc, hW, hr⟩
/-! ### the comprehension's items -/
section
variable {X : Cx} {K : PySem.W.Frag} {te : Heap → TE} {vs : List Nat} {σ : L2.St} {H : Hp} {Q : VK} {a : Addr} {xs : List V} {j : Nat}
/-- over a list: items that are new objects -/
theorem c_listB (S : Addr → Prop) (Pv : Nat → List V → Hp → Prop) (hS : ∀ b, S b → H b ≠ none) (h0 : ∀ D, H D = none → Pv 0 [] (upd H D (.lst []))) (hz : ∀ i o H', i < xs.length → Pv i o H' → o.length < 100000) (hx : ∀ H', SameB S H H' → SqL K H' a xs)
    (hD : ∀ i o H' D l l', H D = none → H' D = some (.lst l) → Pv i o H' → Pv i o (upd H' D (.lst l'))) (hw : ∀ x, wipe ((wipe σ vs).set j (some x)) vs = wipe σ vs)
    (turn : ∀ B, CellsB X σ B → ∀ i x H' o, xs[i]? = some x → SameB S H H' → Pv i o H' → ∀ R : VK, (∀ y H4, SameB S H' H4 → Pv (i + 1) (o ++ [y]) H4 → R y H4) → te B ((wipe σ vs).set j (some x)) H' R)
    (q : ∀ p o H', H p = none → SameB S H H' → Pv xs.length o H' → H' p = some (.lst o) → Q (.ref p) H')
    {tl : TE} (ht : ∀ R : VK, R (.ref a) H → tl σ H R) : tLcB X (iSeq K tl) (gName j) te vs σ H Q :=
  ht _ ⟨a, rfl, .inl ⟨⟨xs, hx H (SameB.refl H)⟩, fun B hB => c_walkI S Pv walk_listS hS h0 hz hx hD (fun i x H1 H' o hi s p y R k => by
    obtain ⟨e1, e2⟩ := y
    subst e1
    exact k _ (hw x) (SameB.refl _) (turnI_map (turn B hB i x _ o e2 s p))) q⟩⟩
end
/-! ### a row of outcomes -/
section
variable {X : Cx} {K : PySem.W.Frag} {te : Heap → TE} {vs : List Nat} {σ : L2.St} {H : Hp} {Q : VK} {l : Addr} {j : Nat} {fs : List Addr} {nm : Str}
theorem c_outs (nm : Str) (hl : H l = some (.lst (fs.map V.ref))) (hn : fs.length ≤ 1000)
    (turn : ∀ B, CellsB X σ B → ∀ (i : Nat) (f : Addr) (H' : Hp), fs[i]? = some f → Same H H' → ∀ R : VK, (∀ T H'', H'' T = some (.tup [.str nm]) → Same H' H'' → R (.ref T) H'') → te B ((wipe σ vs).set j (some (.ref f))) H' R)
    (q : ∀ p (Ts : List Addr) H', Same H H' → H' p = some (.lst (Ts.map V.ref)) → Ts.length = fs.length → (∀ T ∈ Ts, H' T = some (.tup [.str nm])) → Q (.ref p) H')
    (hw : ∀ x, wipe ((wipe σ vs).set j (some x)) vs = wipe σ vs) {tl : TE} (ht : ∀ R : VK, R (.ref l) H → tl σ H R) : tLcB X (iSeq K tl) (gName j) te vs σ H Q := by
  refine c_listB (a := l) (xs := fs.map V.ref) (fun _ => False) (fun i o H' => ∃ Ts : List Addr, o = Ts.map V.ref ∧ Ts.length = i ∧ ∀ T ∈ Ts, H' T = some (.tup [.str nm])) (fun _ z => z.elim) (fun D hD => ⟨[], rfl, rfl, fun T z => by simp at z⟩) (fun i o H' hi p => ?_) (fun H' s => SqL.of (s _ _ id hl))
    (fun i o H' D l1 l2 hD hd p => ?_) hw (fun B hB i x H' o hx s p R hR => ?_) (fun p o H' hp s pv hL => ?_) ht
  · obtain ⟨Ts, rfl, h, _⟩ := p
    rw [List.length_map] at hi ⊢
    omega
  · obtain ⟨Ts, rfl, h, hT⟩ := p
    exact ⟨Ts, rfl, h, fun T m => by rw [upd_ne (fun z => by have e := hT T m; rw [z, hd] at e; cases e)]; exact hT T m⟩
  · rw [List.getElem?_map] at hx
    cases e : fs[i]? with
    | none => rw [e] at hx; cases hx
    | some f =>
      rw [e] at hx
      cases hx
      obtain ⟨Ts, rfl, h, hT⟩ := p
      refine turn B hB i f H' e (fun b o eb => s b o id eb) R fun T H'' eT s2 => hR _ _ (Same.b s2) ⟨Ts ++ [T], by rw [List.map_append]; rfl, by rw [List.length_append, h]; rfl, fun T' m => ?_⟩
      rcases List.mem_append.1 m with m | m
      · exact s2 _ _ (hT T' m)
      · rw [List.mem_singleton.1 m]
        exact eT
  · obtain ⟨Ts, rfl, h, hT⟩ := pv
    exact q p Ts H' (fun b o eb => s b o id eb) hL (by rw [h, List.length_map]) hT
theorem dp_outs {Ts : List Addr} {p : Addr} (hp : H p = some (.lst (Ts.map V.ref))) (hT : ∀ T ∈ Ts, H T = some (.tup [.str nm])) : Dp K H (.ref p) (.list (List.replicate Ts.length (.tuple [.str nm]))) := by
  refine .lst (SqL.of hp) ?_
  clear hp
  induction Ts with
  | nil => exact .nil
  | cons T Ts ih => exact .cons (.tup (SqT.of (hT T (List.mem_cons_self ..))) (.cons (.str nm) .nil)) (ih fun T' m => hT T' (List.mem_cons_of_mem _ m))
end
theorem keepN {H H' : Hp} (s : Same H H') : ExtN H H' := fun b o e _ => s b o e
end Odd

namespace Odd
open PySem PySem.SeqAt
open AutoSeq1 (wpAny_loadPart')
open MeetsSeq MeetsSeq2 MeetsSeq3 SeqRoads2
/-! ### (x, i) != (y, j), x and y own instances -/
theorem pair_ne {prog : Program} {w : World} {A : Around} {R : Result → Shared → Prop} (l b : Addr) (x1 x2 y1 y2 : Value) (n n2 : Nat) (dd dd2 : Option Addr) (sl sl2 : Array (Option Value)) (k2 : Bool) (J : Bool → Shared → Prop) {s : Shared}
    (h1 : wpAny (model prog w) A.in1 (eqBool x1 y1) J (fun e s' => R (.error e) s') s) (h2 : ∀ s', J true s' → EqAt A.in1 s' x2 y2 k2) (f1 : ∀ s', J false s' → R (.ok (.ret (.bool true))) s') (f2 : ∀ s', J true s' → R (.ok (.ret (.bool (!k2)))) s')
    (hl : s.heap.get? l = some { cls := .type "tuple", dict := dd, data := .seq #[x1, x2] n, slots := sl }) (hb : s.heap.get? b = some { cls := .type "tuple", dict := dd2, data := .seq #[y1, y2] n2, slots := sl2 }) :
    wpAny (model prog w) A.in1 (Builtin.«tuple.__ne__» ⟨[.ref l, .ref b], []⟩) (GQ.FinOf prog w A R) (fun e s' => R (.error e) s') s := by
  have sub := AutoSeq1.sub_tuple_tuple
  obtain ⟨hp, g, d, tk, os⟩ := s
  wp_walk using wpAny_loadPart' hl, wpAny_loadPart' hb, wpAny_forIn_list _ (fun rest b s' => b.1 = none ∧ ((rest = [(x1, y1), (x2, y2)] ∧ s' = ⟨hp, g, d, tk, os⟩) ∨ (rest = [(x2, y2)] ∧ J true s') ∨ (rest = [] ∧ k2 = true ∧ J true s'))) _
  case turn =>
    rintro ⟨u, v⟩ rest b s' ⟨hb', hc⟩
    rcases hc with ⟨hr, rfl⟩ | ⟨hr, hJ⟩ | ⟨hr, _⟩
    · injection hr with hx hr
      cases hx
      refine wpAny_bind (wpAny_mono h1 (fun r s2 hJ => ?_) fun _ _ z => z)
      cases r with
      | true =>
        obtain ⟨hp2, g2, d2, tk2, os2⟩ := s2
        wp_walk
        exact ⟨rfl, .inr (.inl ⟨hr, hJ⟩)⟩
      | false =>
        have q := f1 _ hJ
        obtain ⟨hp2, g2, d2, tk2, os2⟩ := s2
        wp_walk
        exact q
    · injection hr with hx hr
      cases hx
      refine wpAny_bind (h2 s' hJ prog w _ _ ?_)
      cases k2 with
      | true =>
        obtain ⟨hp2, g2, d2, tk2, os2⟩ := s'
        wp_walk
        exact ⟨rfl, .inr (.inr ⟨hr, rfl, hJ⟩)⟩
      | false =>
        have q := f2 _ hJ
        obtain ⟨hp2, g2, d2, tk2, os2⟩ := s'
        wp_walk
        exact q
    · cases hr
  case fin =>
    rintro ⟨b1, b2⟩ s' ⟨hb', hc⟩
    simp only at hb'
    subst hb'
    rcases hc with ⟨hr, _⟩ | ⟨hr, _⟩ | ⟨_, hk, hJ⟩
    · cases hr
    · cases hr
    · have q := f2 _ hJ
      rw [hk] at q
      obtain ⟨hp2, g2, d2, tk2, os2⟩ := s'
      wp_walk
      simpa [Builtin.Tuple.tupleCompareSizes] using q
  case h =>
    exact ⟨rfl, .inl ⟨rfl, rfl⟩⟩
end Odd
namespace Odd
open PySem PySem.Spec PyProof.Rows L2
section
variable {X : Cx} {CX : CXT} {E : XK} {n : Nat} {g C : Addr} {sp : Sp}
def rNePair (K : PySem.W.Frag) (C : Addr) (sp : Sp) (E : XK) : R2 := fun x y H Q => ∃ (T1 T2 r1 r2 : Addr) (i j : Int) (dx dy : Addr) (fs gs : List (Str × V)), x = .ref T1 ∧ y = .ref T2 ∧ SqT K H T1 [.ref r1, .int i] ∧ SqT K H T2 [.ref r2, .int j] ∧ H r1 = some (.ins C dx fs) ∧ H r2 = some (.ins C dy gs) ∧
  (r1 = r2 → Q (.bl (!decide (i = j))) H) ∧ (r1 ≠ r2 → sp [.ref r1, .ref r2] H (fun z H' => ∃ k, z = .bl k ∧ Q (.bl (!(k && decide (i = j)))) H') E)
theorem op_nePair (hs : PySem.W.findIn X.K (.ref C) "__eq__" = some (some (.ref g))) (hf : PySem.W.isFn X.K (.ref g) = true) (F : FnR X.prog X.w X.K X.mg X.base CX n g sp) (hr : Room (n + 1) X.A) (hx : Passes CX X E) : OpR X (compareOp .NotEq) (rNePair X.K C sp E) := by
  intro pins s σ H x y v u Q I rx ry h
  obtain ⟨T1, T2, r1, r2, i, j, dx, dy, fs, gs, rfl, rfl, h1, h2, ha, hb, q0, q⟩ := h
  cases (show v = Value.ref T1 from rx)
  cases (show u = Value.ref T2 from ry)
  obtain ⟨its1, rv1, p1, _⟩ := I.tuple h1
  obtain ⟨its2, rv2, p2, _⟩ := I.tuple h2
  obtain ⟨u1, u2, rfl, ru1, ru2⟩ := vals2 rv1
  obtain ⟨w1, w2, rfl, rw1, rw2⟩ := vals2 rv2
  obtain rfl : u1 = Value.ref r1 := ru1
  obtain rfl : w1 = Value.ref r2 := rw1
  obtain ⟨ti, rfl⟩ := (show ∃ t, u2 = Value.int i t from ru2)
  obtain ⟨tj, rfl⟩ := (show ∃ t, w2 = Value.int j t from rw2)
  obtain ⟨⟨cls, dd, data, sl⟩, ho, hc, m, hd⟩ := id p1
  obtain ⟨⟨cls2, dd2, data2, sl2⟩, ho2, hc2, m2, hd2⟩ := id p2
  simp only at hc hd hc2 hd2
  subst hc hd hc2 hd2
  have hu : X.A.units < cLine := hr.units0
  refine wpAny_richCompare_same_room (op := .NotEq) ⟨_, ho, rfl⟩ ⟨_, ho2, rfl⟩ PySem.F.slot_tuple_ne (GQ.call_here PySem.F.slot_tuple_ne ⟨_, ho, rfl⟩ PySem.F.entry_tuple_ne (PySem.F.args_tuple_ne_2 _ _) ?_) hu
  refine pair_ne (R := wants (fun v s' => v ≠ .notImplemented ∧ EP X pins σ Q v s') X.xe) T1 T2 (.ref r1) (.int i ti) (.ref r2) (.int j tj) m m2 dd dd2 sl sl2 (decide (i = j)) (fun k s' => ∃ H', Inv X pins σ H' s' ∧ Q (.bl (!(k && decide (i = j)))) H') ?_ (fun s' _ => ?_) (fun s' ⟨H', I', q'⟩ => ?_) (fun s' ⟨H', I', q'⟩ => ?_) ho ho2
  · by_cases hne : r1 = r2
    · subst hne
      exact SeqAt.EqAt.same (A := X.A.in1) (s := s) (.ref r1) X.prog X.w _ _ ⟨H, I, by simpa using q0 rfl⟩
    have q := q hne
    obtain ⟨ox, od, J⟩ := inst_at I ha
    obtain ⟨oy, od', J'⟩ := inst_at I hb
    obtain ⟨mm, hF⟩ := I.fr
    refine GQ.eqBool_refG hne (PySem.W.cmp_K (op := .Eq) (tb := .ref C) hr.in1.units0 hF I.ok.mod.kin J J'.type (by simp [PySem.W.notFirst]) hs hf (wpAny_mono (call_in1 (vs := [.ref r1, .ref r2]) F hr hx I (.cons rfl (.cons rfl .nil)) q) (fun z s' zz => ?_) fun _ _ e => e))
    obtain ⟨v', H', I', rz, k, rfl, qz⟩ := zz
    cases rz
    exact ⟨k, rfl, H', I', qz⟩
  · rw [show decide (i = j) = (i == j) by by_cases h : i = j <;> simp [h]]
    exact SeqAt.EqAt.int_int i ti j tj
  · exact ⟨(fun x => nomatch x), .bl true, H', I', rfl, q'⟩
  · exact ⟨(fun x => nomatch x), .bl (!decide (i = j)), H', I', rfl, by simpa using q'⟩
end
theorem s_nePair {X0 : Cx} {E : XK} {H : Hp} {Q : VK} {k : Nat} {C g T1 T2 r1 r2 dx dy : Addr} {i j : Int} {fs gs : List (Str × V)} {sp : Sp} (M : Meth X0.K C "__eq__" g) (F : Fn X0 k g sp) (hr : Room (k + 1) X0.A) (h1 : SqT X0.K H T1 [.ref r1, .int i]) (h2 : SqT X0.K H T2 [.ref r2, .int j]) (ha : H r1 = some (.ins C dx fs)) (hb : H r2 = some (.ins C dy gs))
    (q0 : r1 = r2 → Q (.bl (!decide (i = j))) H) (q : r1 ≠ r2 → sp [.ref r1, .ref r2] H (fun z H' => ∃ k, z = .bl k ∧ Q (.bl (!(k && decide (i = j)))) H') E) : ∃ r, OpD X0 E (compareOp .NotEq) r ∧ r (.ref T1) (.ref T2) H Q :=
  ⟨rNePair X0.K C sp E, fun X l h => by rw [← l.K]; exact op_nePair (by rw [l.K]; exact M.at_) (by rw [l.K]; exact M.fn) (l.fn F) (l.room hr) h, T1, T2, r1, r2, i, j, dx, dy, fs, gs, rfl, rfl, h1, h2, ha, hb, q0, q⟩
end Odd

namespace GBT
open PySem PyProof.Rows
open PySem.Sem (wp)
theorem meets_bool_tup (l : Addr) (items : Array Value) (hfit : (items.size : Int) < 2 ^ 63) :
    Meets (Builtin.«bool.__new__» ⟨[.type "bool", .ref l], []⟩) (fun _ R s => IsTup s.heap l items ∧ R (.ok (.ret (.bool (!items.isEmpty)))) { s with toks := s.toks + 1 + 1 }) :=
  Meets.of_wp fun prog w A R s hs => by
    obtain ⟨hl, hs⟩ := hs
    obtain ⟨hp, g, d, tk, os⟩ := s
    have f1 := F.conv_sub_bool
    repeat (any_goals (first | assumption | (with_reducible refine truthy_tuple hl hfit ?_) | wp_step))
    all_goals first | exact ⟨_, rfl, hs⟩ | exact hs | skip
theorem call_bool_tup {prog : Program} {w : World} {A : Around} {E : Value → Shared → Prop} {s : Shared} {l : Addr} {items : Array Value} {Q : Value → Shared → Prop} (hfit : (items.size : Int) < 2 ^ 63) (hl : IsTup s.heap l items)
    (h : Q (.bool (!items.isEmpty)) { s with toks := s.toks + 1 + 1 }) : wpAny (model prog w) A (call (.type "bool") [.ref l]) Q E s :=
  call_bool_1 (meets_bool_tup l items hfit) ⟨hl, rfl, h⟩
end GBT
namespace Odd
open PySem PySem.Spec PyProof.Rows L2
section
variable {X : Cx} {CX : CXT} {E : XK} {n : Nat} {g C : Addr} {sp : Sp}
/-- the truth of an own instance, by its own method -/
def rTruO (C : Addr) (sp : Sp) (E : XK) : V → Hp → (Bool → Hp → Prop) → Prop := fun x H Q => ∃ a dx fs, x = .ref a ∧ H a = some (.ins C dx fs) ∧ sp [x] H (fun z H' => ∃ b, z = .bl b ∧ Q b H') E
theorem tru_own (hs : PySem.W.findIn X.K (.ref C) "__bool__" = some (some (.ref g))) (hf : PySem.W.isFn X.K (.ref g) = true) (F : FnR X.prog X.w X.K X.mg X.base CX n g sp) (hr : Room n X.A) (hx : Passes CX X E) : TruR X (rTruO C sp E) := by
  intro pins s σ H x v Q I rx h
  obtain ⟨a, dx, fs, rfl, ha, q⟩ := h
  cases (show v = Value.ref a from rx)
  obtain ⟨ox, od, J⟩ := inst_at I ha
  unfold truthy
  refine wpAny_bind (PySem.W.special_fn I.kIn J hs (beq_iff_eq.mp hf) (wpAny_mono (call_ref (vs := [.ref a]) F hr hx I (.cons rfl .nil) q) (fun w s' z => ?_) fun _ _ x => x))
  obtain ⟨z', H', I', rz, b, rfl, qz⟩ := z
  cases (show w = Value.bool b from rz)
  exact wpAny_pure ⟨H', I', qz⟩
def rIxK : R2 := fun x y H Q => ∃ p v, x = .ref p ∧ DGet H p y (some v) ∧ Q v H
theorem ix_dict (hu : X.A.units + 1 < cLine) : IxO X rIxK := by
  intro value slice pins s σ H x y v u Q I rx ry h hs _
  obtain ⟨p, z, rfl, g, q⟩ := h
  cases (show v = Value.ref p from rx)
  exact tail_any (dict_typeIs I g) PySem.F.slot_dict_getitem.lookup (d_getItem hu I g ry fun w' s3 I3 rw' => ⟨z, H, I3, rw', q⟩) hs
theorem call_boolT : CallR X (.type "bool") (fun xs H Q => ∃ (a : Addr) (zs : List V), xs = [.ref a] ∧ SqT X.K H a zs ∧ Q (.bl (!zs.isEmpty)) H) := by
  intro pins s σ H xs us Q I r h
  obtain ⟨a, zs, rfl, hq, q⟩ := h
  obtain rfl := Vals.ref1 r
  obtain ⟨its, rv, pl, hz⟩ := I.tuple hq
  have hl := line63
  have hlen := rv.length
  refine GBT.call_bool_tup (by simp only [List.size_toArray]; omega) pl ?_
  exact ⟨.bl (!zs.isEmpty), H, I.tok _, by rw [isEmpty_of rv]; rfl, q⟩
end
/-- an attribute within a comprehension: pe_atA's last argument stood in the way of the kind of the whole -/
theorem pe_atB {X0 X : Cx} {E : XK} {e : Expr} {te : TE} {f : Str} {pos : Pos} (l : Like X0 X) (h : Pas X E) (he : PE X e te) (hb : ∀ m, attributeBase e f X.env m = m := by exact fun _ => rfl) : PE X (.Attribute e f pos) (tAtA X0 E f te) := pe_atA l h he (hb _)
theorem hu1 {k : Nat} {A : Around} (hr : Room k A) : A.units + 1 < cLine := by
  have := hr.units
  omega
section
variable {X0 : Cx} {E : XK} {H : Hp} {Q : VK}
theorem s_truO {k : Nat} {C g a dx : Addr} {fs : List (Str × V)} {sp : Sp} {QB : Bool → Hp → Prop} (M : Meth X0.K C "__bool__" g) (F : Fn X0 k g sp) (hr : Room k X0.A) (ha : H a = some (.ins C dx fs)) (q : sp [.ref a] H (fun z H' => ∃ b, z = .bl b ∧ QB b H') E) : ∃ r, TrD X0 E r ∧ r (.ref a) H QB :=
  ⟨rTruO C sp E, fun X l h => tru_own (by rw [l.K]; exact M.at_) (by rw [l.K]; exact M.fn) (l.fn F) (l.room hr) h, a, dx, fs, rfl, ha, q⟩
theorem s_ixK {k : Nat} {p : Addr} {kvs : List (Key × V)} {i : Int} {v : V} (hr : Room k X0.A) (h : H p = some (.dK kvs)) (e : valV kvs (.inl i) = some v) (q : Q v H) : ∃ r, IxD X0 E r ∧ r (.ref p) (.int i) H Q :=
  ⟨rIxK, fun X l _ => ix_dict (hu1 (l.room hr)), p, v, rfl, by rw [← e]; exact DGet.k (k := .inl i) h, q⟩
theorem s_boolT {p : Addr} {xs : List V} (h : SqT X0.K H p xs) (q : Q (.bl (!xs.isEmpty)) H) : ∃ r, CaD X0 E (.type "bool") r ∧ r [.ref p] H Q :=
  ⟨fun vs H Q => ∃ (a : Addr) (zs : List V), vs = [.ref a] ∧ SqT X0.K H a zs ∧ Q (.bl (!zs.isEmpty)) H, fun X l _ => by rw [← l.K]; exact call_boolT, p, xs, rfl, h, q⟩
theorem s_divmod {i j : Int} (h1 : 0 < j) (h2 : j < 1073741824) (q : ∀ p, H p = none → Q (.ref p) (upd H p (.tup [.int (i / j), .int (i % j)]))) : ∃ r, CaD X0 E (.builtin "divmod") r ∧ r [.int i, .int j] H Q :=
  ⟨_, fun X _ _ => call_divmod, i, j, rfl, ⟨h1, h2⟩, q⟩
end
section
variable {X0 X : Cx} {E : XK}
/-- o.m(e, ..), an own method -/
theorem pe_meA {o e : Expr} {es : List Expr} {ta : TE} {t : TA} {m : Str} {pos apos : Pos} {pl : Sem Bool} (l : Like X0 X) (h : Pas X E) (he : PE X o ta) (ha : PA X (e :: es) t)
    (hst : starEach (e :: es) X.env = (false, eval e X.env) :: starEach es X.env := by rfl) (hpl : (backTo pos (starEach es X.env)).any (·.1) = false := by rfl)
    (ht : eval (.Call (.Attribute o m apos) (e :: es) [] pos) X.env = (do
      let ov ← eval o X.env
      standAt apos.atName
      let (f, first) ← holding [ov] (getMethod ov m pl)
      callWith pos f first (backTo pos (starEach (e :: es) X.env)) (backToKw pos (keywordEach [] X.env))) := by rfl) :
    PE X (.Call (.Attribute o m apos) (e :: es) [] pos) (tMeA X0 E m ta t) := by
  refine ⟨fun pins s σ H Q I hq => ?_⟩
  refine PySem.W.methodCall_KW (pl := pl) (thn (he.run pins s σ H _ I hq) fun u s1 ⟨x, H1, I1, rx, a, C, dx, fs, g, ex, ea, c, hm, hk, lk, q⟩ => ?_) ht
  subst ex
  obtain rfl : u = Value.ref a := rx
  rw [← l.K] at c hm hk
  refine getmeth_ok I1 ea c hm lk ?_
  refine PySem.W.callWith_K (first := [.ref a]) (h₀ := X.base) I.ok.mod.kin hm.kp (thn (ha.run pos pins s1 σ H1 _ I1 q) fun us s2 ⟨vs, H2, I2, r, r', hr, q2⟩ => ⟨I2.kIn, ?_⟩) hst hpl
  exact hr X l h pins s2 σ H2 (.ref a :: vs) (.ref a :: us) Q I2 (.cons rfl r) q2
theorem w_meA {m : Str} {ta : TE} {t : TA} {σ : L2.St} {H : Hp} {Q : VK} (h : ta σ H fun x H1 => ∃ a C dx fs g, x = .ref a ∧ H1 a = some (.ins C dx fs) ∧ Cls X0.K C ∧ Meth X0.K C m g ∧ PySem.W.keepIn X0.K (.ref g) = true ∧ fs.lookup m = none ∧
  t σ H1 fun vs H2 => ∃ r, CaD X0 E (.ref g) r ∧ r (x :: vs) H2 Q) : tMeA X0 E m ta t σ H Q := h
end
/-! ### a row of outcomes of several names -/
section
variable {X : Cx} {K : PySem.W.Frag} {te : Heap → TE} {vs : List Nat} {σ : L2.St} {H : Hp} {Q : VK} {l : Addr} {j : Nat} {fs : List Addr}
theorem c_outsL (nms : List Str) (hnl : nms.length = fs.length) (hl : H l = some (.lst (fs.map V.ref))) (hn : fs.length ≤ 1000)
    (turn : ∀ B, CellsB X σ B → ∀ (i : Nat) (f : Addr) (nm : Str) (H' : Hp), fs[i]? = some f → nms[i]? = some nm → Same H H' → ∀ R : VK, (∀ T H'', H'' T = some (.tup [.str nm]) → Same H' H'' → R (.ref T) H'') → te B ((wipe σ vs).set j (some (.ref f))) H' R)
    (q : ∀ p (Ts : List Addr) H', Same H H' → H' p = some (.lst (Ts.map V.ref)) → Ts.length = nms.length → (∀ (i : Nat) T nm, Ts[i]? = some T → nms[i]? = some nm → H' T = some (.tup [.str nm])) → Q (.ref p) H')
    (hw : ∀ x, wipe ((wipe σ vs).set j (some x)) vs = wipe σ vs) {tl : TE} (ht : ∀ R : VK, R (.ref l) H → tl σ H R) : tLcB X (iSeq K tl) (gName j) te vs σ H Q := by
  refine c_listB (a := l) (xs := fs.map V.ref) (fun _ => False) (fun i o H' => ∃ Ts : List Addr, o = Ts.map V.ref ∧ Ts.length = i ∧ ∀ (k : Nat) T nm, Ts[k]? = some T → nms[k]? = some nm → H' T = some (.tup [.str nm])) (fun _ z => z.elim) (fun D hD => ⟨[], rfl, rfl, fun k T nm z => by simp at z⟩) (fun i o H' hi p => ?_) (fun H' s => SqL.of (s _ _ id hl))
    (fun i o H' D l1 l2 hD hd p => ?_) hw (fun B hB i x H' o hx s p R hR => ?_) (fun p o H' hp s pv hL => ?_) ht
  · obtain ⟨Ts, rfl, h, _⟩ := p
    rw [List.length_map] at hi ⊢
    omega
  · obtain ⟨Ts, rfl, h, hT⟩ := p
    by_cases hD2 : D ∈ Ts
    · obtain ⟨k, ek⟩ := List.mem_iff_getElem?.1 hD2
      obtain ⟨hk, _⟩ := List.getElem?_eq_some_iff.1 ek
      refine ⟨Ts, rfl, h, fun k' T nm e1 e2 => ?_⟩
      rw [upd_ne (fun z => by have e := hT k' T nm e1 e2; rw [z, hd] at e; cases e)]
      exact hT k' T nm e1 e2
    · exact ⟨Ts, rfl, h, fun k' T nm e1 e2 => by rw [upd_ne (fun z => by have e := hT k' T nm e1 e2; rw [z, hd] at e; cases e)]; exact hT k' T nm e1 e2⟩
  · rw [List.getElem?_map] at hx
    cases e : fs[i]? with
    | none => rw [e] at hx; cases hx
    | some f =>
      rw [e] at hx
      cases hx
      obtain ⟨hif, _⟩ := List.getElem?_eq_some_iff.1 e
      have en := List.getElem?_eq_getElem (l := nms) (i := i) (by omega)
      obtain ⟨Ts, rfl, h, hT⟩ := p
      refine turn B hB i f _ H' e en (fun b o eb => s b o id eb) R fun T H'' eT s2 => hR _ _ (Same.b s2) ⟨Ts ++ [T], by rw [List.map_append]; rfl, by rw [List.length_append, h]; rfl, fun k T' nm e1 e2 => ?_⟩
      by_cases hk : k < Ts.length
      · rw [List.getElem?_append_left hk] at e1
        exact s2 _ _ (hT k T' nm e1 e2)
      · rw [List.getElem?_append_right (by omega)] at e1
        cases z : k - Ts.length with
        | zero =>
          rw [z] at e1
          cases e1
          have : k = i := by omega
          rw [this, en] at e2
          cases e2
          exact eT
        | succ m => rw [z] at e1; simp at e1
  · obtain ⟨Ts, rfl, h, hT⟩ := pv
    exact q p Ts H' (fun b o eb => s b o id eb) hL (by rw [h, List.length_map, hnl]) hT
theorem dp_outsL {p : Addr} : ∀ {Ts : List Addr} {nms : List Str}, Ts.length = nms.length → (∀ (i : Nat) T nm, Ts[i]? = some T → nms[i]? = some nm → H T = some (.tup [.str nm])) → DpAll K H (Ts.map V.ref) (nms.map fun nm => .tuple [.str nm])
  | [], [], _, _ => .nil
  | [], _ :: _, h, _ => by simp at h
  | _ :: _, [], h, _ => by simp at h
  | T :: Ts, nm :: nms, h, k => .cons (.tup (SqT.of (k 0 T nm rfl rfl)) (.cons (.str nm) .nil)) (dp_outsL (p := p) (by simpa using h) fun i T' n' e1 e2 => k (i + 1) T' n' (by simpa using e1) (by simpa using e2))
end
end Odd

namespace Odd
open PySem PySem.Spec PyProof.Rows L2
/-! ### texts -/
section
variable {X0 : Cx} {E : XK} {H : Hp} {Q : VK} {QB : Bool → Hp → Prop} {i j : Int} {x y : Str}
theorem dec_strV (x y : Str) : decide (V.str x = V.str y) = decide (x = y) := by
  by_cases h : x = y
  · rw [decide_eq_true h, decide_eq_true (by rw [h])]
  · rw [decide_eq_false h, decide_eq_false fun e => h (by injection e)]
theorem s_catS (hz : x.length + y.length ≤ sizeLine) (q : Q (.str (x ++ y)) H) : ∃ r, OpD X0 E (binaryOp .Add) r ∧ r (.str x) (.str y) H Q := ⟨_, fun _ _ _ => op_add_str, x, y, rfl, rfl, hz, q⟩
theorem s_strI (h : i.natAbs.log2 < 1920) (q : Q (.str (toString i)) H) : ∃ r, CaD X0 E (.type "str") r ∧ r [.int i] H Q := ⟨_, fun _ _ _ => call_str_int, i, rfl, h, q⟩
theorem s_intS {n : Int} (h : PySem.intText? x = some n) (hl : x.length ≤ 640) (q : Q (.int n) H) : ∃ r, CaD X0 E (.type "int") r ∧ r [.str x] H Q := ⟨_, fun _ _ _ => call_int_str, x, n, rfl, h, hl, q⟩
theorem s_intI (q : Q (.int i) H) : ∃ r, CaD X0 E (.type "int") r ∧ r [.int i] H Q := ⟨_, fun _ _ _ => call_int1, .inl ⟨i, rfl, q⟩⟩
theorem s_lenStr (h : x.length ≤ sizeLine) (q : Q (.int x.length) H) : ∃ r, CaD X0 E (.builtin "len") r ∧ r [.str x] H Q := ⟨_, fun _ _ _ => call_len_str, x, rfl, h, q⟩
theorem s_eqS (q : Q (.bl (decide (x = y))) H) : ∃ r, OpD X0 E (compareOp .Eq) r ∧ r (.str x) (.str y) H Q := ⟨_, fun _ _ _ => op_eq, rfl, by rw [dec_strV]; exact q⟩
theorem s_neS (q : Q (.bl (!decide (x = y))) H) : ∃ r, OpD X0 E (compareOp .NotEq) r ∧ r (.str x) (.str y) H Q := ⟨_, fun _ _ _ => op_ne, rfl, by rw [dec_strV]; exact q⟩
theorem s_ixStr {c : Nat} (hz : x.length ≤ sizeLine) (h : atI x.cps.toList i = some c) (q : Q (.str ⟨#[c]⟩) H) : ∃ r, IxD X0 E r ∧ r (.str x) (.int i) H Q :=
  ⟨rIxS, fun _ _ _ => ix_plain ix_str, x, i, c, rfl, rfl, hz, h, q⟩
theorem s_max2 (hc : X0.calm = true) (q : Q (.int (if j > i then j else i)) H) : ∃ r, CaD X0 E (.builtin "max") r ∧ r [.int i, .int j] H Q := ⟨_, fun _ l _ => call_max2 (by rw [l.calm]; exact hc), i, j, rfl, q⟩
theorem s_min2 (hc : X0.calm = true) (q : Q (.int (if j < i then j else i)) H) : ∃ r, CaD X0 E (.builtin "min") r ∧ r [.int i, .int j] H Q := ⟨_, fun _ l _ => call_min2 (by rw [l.calm]; exact hc), i, j, rfl, q⟩
theorem w_m0 {r : V → List V → Hp → VK → Prop} {to : TE} {σ : L2.St} (h : to σ H fun x H1 => (∃ a, x = .str a) ∧ r x [] H1 Q) : tM0 r to σ H Q := h
theorem w_m1 {r : V → List V → Hp → VK → Prop} {to te : TE} {σ : L2.St} (h : to σ H fun x H1 => (∃ a, x = .str a) ∧ te σ H1 fun y H2 => r x [y] H2 Q) : tM1 r to te σ H Q := h
end
theorem g_trip {K : PySem.W.Frag} {T : Addr} {x y z : V} {i j l : Nat} {σ : L2.St} {H : Hp} {R : L2.St → Hp → Prop} (hT : SqT K H T [x, y, z]) (h : R (((σ.set i (some x)).set j (some y)).set l (some z)) H) : gTup K 3 (gCons (gName i) (gCons (gName j) (gCons (gName l) gNil))) (.ref T) σ H R :=
  ⟨T, [x, y, z], rfl, hT, rfl, x, [y, z], rfl, y, [z], rfl, z, [], rfl, rfl, h⟩
section
variable {K : PySem.W.Frag} {a : Addr} {xs : List V} {tb : TS} {D : Ends} {σ : L2.St} {H : Hp} {ta : TA} {i j : Nat} {tt : TT} {te : TE} {vs : List Nat} {Q : VK}
/-- for i, x in enumerate(a list) -/
theorem f_enumL (Pv : Nat → L2.St → Hp → Prop) (ht : ∀ R : List V → Hp → Prop, R [.ref a] H → ta σ H R) (h0 : Pv 0 σ H) (hl : ∀ i σ H, i ≤ xs.length → Pv i σ H → SqL K H a xs)
    (hs : ∀ k x σ H T, xs[k]? = some x → Pv k σ H → H T = none → tb { D with nx := Pv (k + 1), ct := Pv (k + 1), bk := D.nx } ((σ.set i (some (.int (k : Nat)))).set j (some x)) (upd H T (.tup [.int (k : Nat), x]))) (hd : ∀ σ H, Pv xs.length σ H → D.nx σ H) :
    tFor (iEnumA K ta) (gTup K 2 (gCons (gName i) (gCons (gName j) gNil))) tb D σ H :=
  ht _ ⟨a, rfl, .inl ⟨⟨xs, hl 0 σ H (Nat.zero_le _) h0⟩, for_it walk_enum Pv h0 hl (fun k x σ H H' hk p y => by
    obtain ⟨T, u, v, e1, e2, e3, e4, e5⟩ := y
    cases e4
    subst e1 e3
    exact g_pair (SqT.of upd_same) (hs k v σ H T e5 p e2)) hd⟩⟩
/-- [.. for i, x in enumerate(a list)], items made on the way -/
theorem c_enumLI (S : Addr → Prop) (Pv : Nat → List V → Hp → Prop) (hS : ∀ b, S b → H b ≠ none) (h0 : ∀ D, H D = none → Pv 0 [] (upd H D (.lst []))) (hz : ∀ i o H', i < xs.length → Pv i o H' → o.length < 100000) (hx : ∀ H', SameB S H H' → SqL K H' a xs)
    (hD : ∀ i o H' D l l', H D = none → H' D = some (.lst l) → Pv i o H' → Pv i o (upd H' D (.lst l'))) (hw : ∀ x y, wipe (((wipe σ vs).set i (some x)).set j (some y)) vs = wipe σ vs)
    (hT : ∀ k o H' T o', H' T = none → Pv k o H' → Pv k o (upd H' T o'))
    (turn : ∀ k x H' o, xs[k]? = some x → SameB S H H' → Pv k o H' → TurnI S Pv k tt te (((wipe σ vs).set i (some (.int (k : Nat)))).set j (some x)) H' o)
    (q : ∀ p o H', H p = none → SameB S H H' → Pv xs.length o H' → H' p = some (.lst o) → Q (.ref p) H')
    (ht : ∀ R : List V → Hp → Prop, R [.ref a] H → ta σ H R) : tLc (iEnumA K ta) (gTup K 2 (gCons (gName i) (gCons (gName j) gNil))) tt te vs σ H Q :=
  ht _ ⟨a, rfl, .inl ⟨⟨xs, hx H (SameB.refl H)⟩, c_walkI S Pv walk_enum hS h0 hz hx hD (fun k x H1 H' o hk s p y R q' => by
    obtain ⟨T, u, v, e1, e2, e3, e4, e5⟩ := y
    cases e4
    subst e1 e3
    have p' := hT k o H1 T (.tup [.int (k : Nat), v]) e2 p
    have s' : SameB S H1 (upd H1 T (.tup [.int (k : Nat), v])) := Same.b (same_new e2)
    exact g_pair (SqT.of upd_same) (q' _ (hw _ _) s' (turn k v _ o e5 (s.trans s') p'))) q⟩⟩
end
/-- one continuation where a conditional expression would make two -/
theorem w_ifJ {t : TT} {ta tb : TE} {σ : L2.St} {H : Hp} {Q : VK} (G : V → Hp → Prop) (h : ∀ R : VK, (∀ v H', G v H' → R v H') → tIf t ta tb σ H R) (q : ∀ v H', G v H' → Q v H') : tIf t ta tb σ H Q := h Q q
theorem w_lcR {ta : TA} {g : TG} {tt : TT} {te : TE} {vs0 : List Nat} {σ : L2.St} {H : Hp} {Q : VK} (h : ta σ H fun vs H1 => tLc (iRng1 fun _ H R => R vs H) g tt te vs0 σ H1 Q) : tLc (iRng1 ta) g tt te vs0 σ H Q := h
theorem w_lcQ {K : PySem.W.Frag} {tl : TE} {g : TG} {tt : TT} {te : TE} {vs0 : List Nat} {σ : L2.St} {H : Hp} {Q : VK} (h : tl σ H fun x H1 => tLc (iSeq K fun _ H R => R x H) g tt te vs0 σ H1 Q) : tLc (iSeq K tl) g tt te vs0 σ H Q := h
theorem w_lcE {K : PySem.W.Frag} {ta : TA} {g : TG} {tt : TT} {te : TE} {vs0 : List Nat} {σ : L2.St} {H : Hp} {Q : VK} (h : ta σ H fun vs H1 => tLc (iEnumA K fun _ H R => R vs H) g tt te vs0 σ H1 Q) : tLc (iEnumA K ta) g tt te vs0 σ H Q := h
theorem w_slf {r : V → Option Int → Option Int → Hp → VK → Prop} {te tu : TE} {σ : L2.St} {H : Hp} {Q : VK} (h : te σ H fun x H1 => tu σ H1 fun y H2 => ∃ i, y = .int i ∧ r x (some i) none H2 Q) : tSl r te (tPart tu) tNoPart σ H Q := h
end Odd

namespace Odd
open PySem PySem.Spec PyProof.Rows L2
/-! ### rows of numbers as texts -/
/-- a number written out -/
def numS (i : Int) : Str := (toString i : String)
theorem tl_numS {i : Int} (h : 0 ≤ i) : TL.tl (numS i) = TL.numL i.toNat := by
  obtain ⟨n, rfl⟩ := Int.eq_ofNat_of_zero_le h
  rw [Int.toNat_natCast]
  exact TL.tl_num n
theorem numS_len {i : Int} (h : 0 ≤ i) (h2 : i < 10 ^ 13) : (numS i).length ≤ 13 ∧ 1 ≤ (numS i).length := by
  rw [TL.len_tl, tl_numS h]
  refine ⟨TL.numL_len (by decide) (by omega), ?_⟩
  exact List.length_pos_iff.2 (TL.numL_ne _)
theorem numS_int {i : Int} (h : 0 ≤ i) (h2 : i < 10 ^ 13) : PySem.intText? (numS i) = some i := by
  obtain ⟨n, rfl⟩ := Int.eq_ofNat_of_zero_le h
  refine TL.int_num ?_
  have := TL.numL_len (n := n) (k := 13) (by decide) (by omega)
  omega
theorem digit_uni : ∀ c : Nat, 48 ≤ c → c ≤ 57 → PySem.Unicode.isDigit c = true := by
  intro c h1 h2
  have : c = 48 ∨ c = 49 ∨ c = 50 ∨ c = 51 ∨ c = 52 ∨ c = 53 ∨ c = 54 ∨ c = 55 ∨ c = 56 ∨ c = 57 := by omega
  rcases this with h | h | h | h | h | h | h | h | h | h <;> subst h <;> decide +kernel
theorem cps_all {x : Str} {f : Nat → Bool} (h : ∀ c ∈ TL.tl x, f c = true) : x.cps.all f = true := by
  rw [← Array.all_toList, List.all_eq_true]
  exact h
theorem numS_dig {i : Int} (h : 0 ≤ i) : ∀ c ∈ TL.tl (numS i), 48 ≤ c ∧ c ≤ 57 := fun c hc => by
  rw [tl_numS h] at hc
  exact TL.numL_digits _ c hc
theorem numS_ascii {i : Int} (h : 0 ≤ i) : Txt.isascii (numS i) = true := by
  unfold Txt.isascii
  exact cps_all fun c hc => by have := numS_dig h c hc; rw [decide_eq_true_iff]; omega
theorem numS_digit {i : Int} (h : 0 ≤ i) : Txt.isdigit (numS i) = true := by
  unfold Txt.isdigit
  have : 1 ≤ (numS i).length := by
    rw [TL.len_tl, tl_numS h]
    exact List.length_pos_iff.2 (TL.numL_ne _)
  rw [cps_all fun c hc => digit_uni c (numS_dig h c hc).1 (numS_dig h c hc).2, Bool.and_true, decide_eq_true_iff]
  omega
theorem numL_head : ∀ n : Nat, 0 < n → ∃ c r, TL.numL n = c :: r ∧ c ≠ 48 := by
  intro n
  induction n using Nat.strongRecOn with
  | _ n ih =>
    intro h0
    by_cases h : n < 10
    · rw [TL.numL_lt h]
      exact ⟨48 + n, [], rfl, by omega⟩
    · obtain ⟨c, r, e, hc⟩ := ih (n / 10) (by omega) (by omega)
      rw [TL.numL_step (by omega), e]
      exact ⟨c, r ++ [48 + n % 10], rfl, hc⟩
theorem numS_zero : numS 0 = "0" := by
  refine TL.ext_tl ?_
  rw [tl_numS (by decide)]
  decide +kernel
/-- what a joined text is made of -/
theorem joinL_len (S : List Nat) : ∀ ps : List (List Nat), (TL.joinL S ps).length ≤ (ps.map List.length).sum + ps.length * S.length
  | [] => Nat.zero_le _
  | [p] => by simp [TL.joinL]
  | p :: q :: r => by
    have ih := joinL_len S (q :: r)
    show (p ++ (S ++ TL.joinL S (q :: r))).length ≤ _
    rw [List.length_append, List.length_append, List.map_cons, List.sum_cons, List.length_cons, Nat.succ_mul]
    omega
theorem joinL_mem (S : List Nat) {c : Nat} : ∀ ps : List (List Nat), c ∈ TL.joinL S ps → c ∈ S ∨ ∃ p ∈ ps, c ∈ p
  | [], h => by simp [TL.joinL] at h
  | [p], h => .inr ⟨p, List.mem_singleton_self _, h⟩
  | p :: q :: r, h => by
    have h' : c ∈ p ++ (S ++ TL.joinL S (q :: r)) := h
    rcases List.mem_append.1 h' with h | h
    · exact .inr ⟨p, List.mem_cons_self .., h⟩
    · rcases List.mem_append.1 h with h | h
      · exact .inl h
      · rcases joinL_mem S (q :: r) h with h | ⟨z, hz, h⟩
        · exact .inl h
        · exact .inr ⟨z, List.mem_cons_of_mem _ hz, h⟩
/-- a row: a first word and numbers -/
def rowW (f : Str) (ns : List Int) : List Str := f :: ns.map numS
def rowS (f : Str) (ns : List Int) : Str := Txt.join " " (rowW f ns)
def Nums (ns : List Int) : Prop := ∀ i ∈ ns, 0 ≤ i ∧ i < 10 ^ 13
def FirstW (f : Str) : Prop := f.length ≤ 6 ∧ ∀ c ∈ TL.tl f, 97 ≤ c
theorem first_table : FirstW "table" := by constructor <;> decide +kernel
theorem first_bill : FirstW "bill" := by constructor <;> decide +kernel
theorem sum_le_of {α : Type} (f : α → Nat) (k : Nat) : ∀ l : List α, (∀ x ∈ l, f x ≤ k) → (l.map f).sum ≤ l.length * k
  | [], _ => by simp
  | x :: l, h => by
    have := sum_le_of f k l fun y hy => h y (List.mem_cons_of_mem _ hy)
    have := h x (List.mem_cons_self ..)
    rw [List.map_cons, List.sum_cons, List.length_cons, Nat.succ_mul]
    omega
theorem rowW_sum {f : Str} {ns : List Int} (hf : FirstW f) (h : Nums ns) (hl : ns.length ≤ 9) : ((rowW f ns).map (·.length)).sum + (rowW f ns).length * 1 ≤ 140 := by
  have e : ((rowW f ns).map (·.length)).sum = f.length + (ns.map fun i => (numS i).length).sum := by
    unfold rowW
    rw [List.map_cons, List.sum_cons, List.map_map]
    rfl
  have := sum_le_of (fun i => (numS i).length) 13 ns fun i hi => (numS_len (h i hi).1 (h i hi).2).1
  have : ns.length * 13 ≤ 9 * 13 := Nat.mul_le_mul_right _ hl
  have := hf.1
  rw [e]
  unfold rowW
  rw [List.length_cons, List.length_map]
  omega
theorem rowS_len {f : Str} {ns : List Int} (hf : FirstW f) (h : Nums ns) (hl : ns.length ≤ 9) : (rowS f ns).length ≤ 140 := by
  have h1 := rowW_sum hf h hl
  unfold rowS
  rw [TL.join_eq, TL.len_tl, TL.tl_join]
  refine Nat.le_trans (joinL_len _ _) ?_
  rw [List.map_map, List.length_map]
  have e : (List.map (List.length ∘ TL.tl) (rowW f ns)) = (rowW f ns).map (·.length) := List.map_congr_left fun x _ => (TL.len_tl x).symm
  rw [e, show (TL.tl " ").length = 1 from rfl]
  exact h1
theorem tl_sp : TL.tl " " = 32 :: [] := rfl
theorem tl_nl : TL.tl "\n" = 10 :: [] := rfl
theorem word_free {f : Str} {ns : List Int} (hf : FirstW f) (h : Nums ns) {c : Nat} (hc : c < 48) : ∀ p ∈ rowW f ns, c ∉ TL.tl p := fun p hp hm => by
  rcases List.mem_cons.1 hp with e | e
  · subst e
    have := hf.2 c hm
    omega
  · obtain ⟨i, hi, rfl⟩ := List.mem_map.1 e
    have := numS_dig (h i hi).1 c hm
    omega
theorem row_split {f : Str} {ns : List Int} (hf : FirstW f) (h : Nums ns) : Txt.split (rowS f ns) " " = rowW f ns :=
  TL.split_join tl_sp (by decide +kernel) (by unfold rowW; simp) (word_free hf h (by decide))
theorem row_free {f : Str} {ns : List Int} (hf : FirstW f) (h : Nums ns) : 10 ∉ TL.tl (rowS f ns) := fun hm => by
  unfold rowS at hm
  rw [TL.join_eq, TL.tl_join] at hm
  rcases joinL_mem _ _ hm with z | ⟨p, hp, z⟩
  · rw [tl_sp] at z
    simp at z
  · obtain ⟨x, hx, rfl⟩ := List.mem_map.1 hp
    exact word_free hf h (by decide) x hx z
/-- the first word of an evening's text, and its number -/
theorem table_row (n : Nat) : ("table " : Str) ++ numS n = rowS "table" [(n : Int)] := by
  refine TL.ext_tl ?_
  unfold rowS
  rw [TL.tl_append, TL.join_eq, TL.tl_join]
  show _ = TL.tl "table" ++ (TL.tl " " ++ TL.tl (numS n))
  rw [← List.append_assoc]
  rfl
/-- the numbers of the rows of an evening's text -/
def evRows (n : Nat) (bs : List (Int × List Int)) : List Str := rowS "table" [(n : Int)] :: bs.map fun b => rowS "bill" (b.1 :: b.2)
def evText (n : Nat) (bs : List (Int × List Int)) : Str := Txt.join "\n" (evRows n bs)
end Odd

namespace Odd
open PySem PySem.Spec PyProof.Rows L2
/-! ### comprehensions whose items are new lists: the list under way is named -/
def TurnJ (S : Addr → Prop) (Pv : Nat → List V → Hp → Prop) (D : Addr) (i : Nat) (tt : TT) (te : TE) (σ2 : L2.St) (H1 : Hp) (o : List V) : Prop :=
  ∀ (K1 : VK) (K0 : Hp → Prop), (∀ y H4, SameB S H1 H4 → Pv (i + 1) (o ++ [y]) (upd H4 D (.lst (o ++ [y]))) → K1 y H4) → (∀ H3, SameB S H1 H3 → Pv (i + 1) o H3 → K0 H3) → tt σ2 H1 fun b H3 => if b = true then te σ2 H3 K1 else K0 H3
theorem turnJ_map {S : Addr → Prop} {Pv : Nat → List V → Hp → Prop} {D : Addr} {i : Nat} {te : TE} {σ2 : L2.St} {H1 : Hp} {o : List V} (h : ∀ R : VK, (∀ y H4, SameB S H1 H4 → Pv (i + 1) (o ++ [y]) (upd H4 D (.lst (o ++ [y]))) → R y H4) → te σ2 H1 R) : TurnJ S Pv D i tYes te σ2 H1 o := fun K1 K0 k1 _ => by
  show (if true = true then te σ2 H1 K1 else K0 H1)
  rw [if_pos rfl]
  exact h K1 k1
section
variable {K : PySem.W.Frag} {J : It} {n : Nat} {G : Hp → Prop} {Y : Nat → Hp → V → Hp → Prop} {g : TG} {tt : TT} {te : TE} {vs : List Nat} {σ : L2.St} {H : Hp} {Q : VK}
theorem c_walkJ (S : Addr → Prop) (Pv : Addr → Nat → List V → Hp → Prop) (w : Walk J n G Y) (hS : ∀ b, S b → H b ≠ none) (h0 : ∀ D, H D = none → Pv D 0 [] (upd H D (.lst []))) (hz : ∀ D i o H', i < n → Pv D i o H' → o.length < 100000) (hG : ∀ H', SameB S H H' → G H')
    (turn : ∀ D i x H1 H' o, H D = none → i < n → SameB S H H1 → H1 D = some (.lst o) → Pv D i o H1 → Y i H1 x H' → ∀ R : L2.St → Hp → Prop, (∀ σ2, wipe σ2 vs = wipe σ vs → SameB S H1 H' → TurnJ S (Pv D) D i tt te σ2 H' o → R σ2 H') → g x (wipe σ vs) H' R)
    (q : ∀ p o H', H p = none → SameB S H H' → Pv p n o H' → H' p = some (.lst o) → Q (.ref p) H') :
    ∀ D, H D = none → ∃ W : Nat → Nat → Hp → Prop, (∃ m, W 0 m (upd H D (.lst []))) ∧ ∀ i m H, W i m H →
      (J.stop i H ∧ Q (.ref D) H) ∨ (J.go i H ∧ ∃ Nx : Hp → Prop, (∀ H', Nx H' → ∃ m', m' < m ∧ W (i + 1) m' H') ∧ ∀ x H', J.yld i H x H' → g x (wipe σ vs) H' fun σ2 H2 => wipe σ2 vs = wipe σ vs ∧ tt σ2 H2 fun b H3 =>
        if b = true then te σ2 H3 fun y H4 => ∃ acc, H4 D = some (.lst acc) ∧ acc.length < sizeLine ∧ Nx (upd H4 D (.lst (acc ++ [y]))) else Nx H3) := fun D hDn => by
  have nS : ¬ S D := fun z => hS D z hDn
  refine lc_it w (Qd := fun H' => Q (.ref D) H') (fun i H' => ∃ o, SameB S H H' ∧ H' D = some (.lst o) ∧ Pv D i o H') ⟨[], (SameB.refl H).upd hDn, upd_same, h0 D hDn⟩ (fun i H' _ p => hG H' p.choose_spec.1) (fun i x H1 H' hi p y => ?_) fun H' p => ?_
  · obtain ⟨o, s1, d1, p1⟩ := p
    refine turn D i x H1 H' o hDn hi s1 d1 p1 y _ fun σ2 ew s2 t => ⟨ew, ?_⟩
    have d2 : H' D = some (.lst o) := s2 _ _ nS d1
    exact t _ _ (fun y H4 s4 p4 => ⟨o, s4 _ _ nS d2, Nat.lt_of_lt_of_le (hz D i o H1 hi p1) (by decide), o ++ [y], ((s1.trans s2).trans s4).upd hDn, upd_same, p4⟩)
      fun H3 s3 p3 => ⟨o, (s1.trans s2).trans s3, s3 _ _ nS d2, p3⟩
  · obtain ⟨o, s1, d1, p1⟩ := p
    exact q D o H' hDn s1 p1 d1
variable {a b : Addr} {xs ys : List V} {j j2 : Nat}
theorem c_tupJ (S : Addr → Prop) (Pv : Addr → Nat → List V → Hp → Prop) (hS : ∀ b, S b → H b ≠ none) (h0 : ∀ D, H D = none → Pv D 0 [] (upd H D (.lst []))) (hz : ∀ D i o H', i < xs.length → Pv D i o H' → o.length < 100000) (hx : ∀ H', SameB S H H' → SqT K H' a xs)
    (hw : ∀ x, wipe ((wipe σ vs).set j (some x)) vs = wipe σ vs)
    (turn : ∀ D i x H' o, H D = none → xs[i]? = some x → SameB S H H' → H' D = some (.lst o) → Pv D i o H' → TurnJ S (Pv D) D i tt te ((wipe σ vs).set j (some x)) H' o)
    (q : ∀ p o H', H p = none → SameB S H H' → Pv p xs.length o H' → H' p = some (.lst o) → Q (.ref p) H')
    {tl : TE} (ht : ∀ R : VK, R (.ref a) H → tl σ H R) : tLc (iSeq K tl) (gName j) tt te vs σ H Q :=
  ht _ ⟨a, rfl, .inr ⟨⟨xs, hx H (SameB.refl H)⟩, c_walkJ S Pv walk_tupS hS h0 hz hx (fun D i x H1 H' o hD hi s d p y R k => by
    obtain ⟨e1, e2⟩ := y
    subst e1
    exact k _ (hw x) (SameB.refl _) (turn D i x _ o hD e2 s d p)) q⟩⟩
theorem c_listJ (S : Addr → Prop) (Pv : Addr → Nat → List V → Hp → Prop) (hS : ∀ b, S b → H b ≠ none) (h0 : ∀ D, H D = none → Pv D 0 [] (upd H D (.lst []))) (hz : ∀ D i o H', i < xs.length → Pv D i o H' → o.length < 100000) (hx : ∀ H', SameB S H H' → SqL K H' a xs)
    (hw : ∀ x, wipe ((wipe σ vs).set j (some x)) vs = wipe σ vs)
    (turn : ∀ D i x H' o, H D = none → xs[i]? = some x → SameB S H H' → H' D = some (.lst o) → Pv D i o H' → TurnJ S (Pv D) D i tt te ((wipe σ vs).set j (some x)) H' o)
    (q : ∀ p o H', H p = none → SameB S H H' → Pv p xs.length o H' → H' p = some (.lst o) → Q (.ref p) H')
    {tl : TE} (ht : ∀ R : VK, R (.ref a) H → tl σ H R) : tLc (iSeq K tl) (gName j) tt te vs σ H Q :=
  ht _ ⟨a, rfl, .inl ⟨⟨xs, hx H (SameB.refl H)⟩, c_walkJ S Pv walk_listS hS h0 hz hx (fun D i x H1 H' o hD hi s d p y R k => by
    obtain ⟨e1, e2⟩ := y
    subst e1
    exact k _ (hw x) (SameB.refl _) (turn D i x _ o hD e2 s d p)) q⟩⟩
theorem c_rngJ {ta : TA} {n : Nat} (S : Addr → Prop) (Pv : Addr → Nat → List V → Hp → Prop) (hn : n < 100000) (hS : ∀ b, S b → H b ≠ none) (h0 : ∀ D, H D = none → Pv D 0 [] (upd H D (.lst []))) (hz : ∀ D i o H', i < n → Pv D i o H' → o.length < 100000)
    (hw : ∀ x, wipe ((wipe σ vs).set j (some x)) vs = wipe σ vs)
    (turn : ∀ D (i : Nat) H' o, H D = none → i < n → SameB S H H' → H' D = some (.lst o) → Pv D i o H' → TurnJ S (Pv D) D i tt te ((wipe σ vs).set j (some (.int i))) H' o)
    (q : ∀ p o H', H p = none → SameB S H H' → Pv p n o H' → H' p = some (.lst o) → Q (.ref p) H')
    (ht : ∀ R : List V → Hp → Prop, R [.int n] H → ta σ H R) : tLc (iRng1 ta) (gName j) tt te vs σ H Q :=
  ht _ ⟨n, rfl, by omega, by omega, by
    rw [Int.toNat_natCast]
    exact c_walkJ S Pv (Y := YFn fun i => .int (0 + (i : Int))) (G := fun _ => True) ⟨fun i _ hi _ => hi, fun _ _ => Nat.le_refl _, fun i H x H' _ _ y => y⟩ hS h0 hz (fun _ _ => True.intro) (fun D i x H1 H' o hD hi s d p y R k => by
      obtain ⟨e1, e2⟩ := y
      subst e1 e2
      refine k _ (hw _) (SameB.refl _) ?_
      show TurnJ S (Pv D) D i tt te ((wipe σ vs).set j (some (.int ((0 : Int) + (i : Int))))) H' o
      rw [Int.zero_add]
      exact turn D i _ o hD hi s d p) q⟩
theorem c_enumLJ {ta : TA} (S : Addr → Prop) (Pv : Addr → Nat → List V → Hp → Prop) (hS : ∀ b, S b → H b ≠ none) (h0 : ∀ D, H D = none → Pv D 0 [] (upd H D (.lst []))) (hz : ∀ D i o H', i < xs.length → Pv D i o H' → o.length < 100000) (hx : ∀ H', SameB S H H' → SqL K H' a xs)
    (hw : ∀ x y, wipe (((wipe σ vs).set j (some x)).set j2 (some y)) vs = wipe σ vs)
    (hT : ∀ D k o H' T o', H' T = none → H' D = some (.lst o) → Pv D k o H' → Pv D k o (upd H' T o'))
    (turn : ∀ D k x H' o, H D = none → xs[k]? = some x → SameB S H H' → H' D = some (.lst o) → Pv D k o H' → TurnJ S (Pv D) D k tt te (((wipe σ vs).set j (some (.int (k : Nat)))).set j2 (some x)) H' o)
    (q : ∀ p o H', H p = none → SameB S H H' → Pv p xs.length o H' → H' p = some (.lst o) → Q (.ref p) H')
    (ht : ∀ R : List V → Hp → Prop, R [.ref a] H → ta σ H R) : tLc (iEnumA K ta) (gTup K 2 (gCons (gName j) (gCons (gName j2) gNil))) tt te vs σ H Q :=
  ht _ ⟨a, rfl, .inl ⟨⟨xs, hx H (SameB.refl H)⟩, c_walkJ S Pv walk_enum hS h0 hz hx (fun D k x H1 H' o hD hk s d p y R q' => by
    obtain ⟨T, u, v, e1, e2, e3, e4, e5⟩ := y
    cases e4
    subst e1 e3
    have p' := hT D k o H1 T (.tup [.int (k : Nat), v]) e2 d p
    have s' : SameB S H1 (upd H1 T (.tup [.int (k : Nat), v])) := Same.b (same_new e2)
    have d' : (upd H1 T (.tup [.int (k : Nat), v])) D = some (.lst o) := by rw [upd_ne (ne_of_none d e2)]; exact d
    exact g_pair (SqT.of upd_same) (q' _ (hw _ _) s' (turn D k v _ o hD e5 (s.trans s') d' p'))) q⟩⟩
end
theorem s_notIn {X0 : Cx} {E : XK} {H : Hp} {Q : VK} {l : Addr} {z : Int} {ss : List Int} (h : SqL X0.K H l (ss.map V.int) ∨ SqT X0.K H l (ss.map V.int)) (q : Q (.bl (!decide (z ∈ ss))) H) : ∃ r, OpD X0 E (compareOp .NotIn) r ∧ r (.int z) (.ref l) H Q :=
  ⟨rIn X0.K true, fun X li _ => by rw [← li.K]; exact op_notIn_seq, l, _, rfl, h, rfl, by rw [List.all_map, List.all_eq_true]; exact fun _ _ => rfl, by
    show Q (.bl (!inV (.int z) (ss.map V.int))) H
    rw [inV_int]
    exact q⟩
/-- a test of two parts that are known -/
theorem w_orT {t u : TT} {σ : L2.St} {H : Hp} {QB : Bool → Hp → Prop} {c d : Bool} (h1 : ∀ R : Bool → Hp → Prop, R c H → t σ H R) (h2 : ∀ R : Bool → Hp → Prop, R d H → u σ H R) (q : QB (c || d) H) : tOr t u σ H QB :=
  w_or (h1 _ (by
    cases c with
    | true => exact iteT q
    | false => exact iteF (h2 _ q)))
theorem w_andT {t u : TT} {σ : L2.St} {H : Hp} {QB : Bool → Hp → Prop} {c d : Bool} (h1 : ∀ R : Bool → Hp → Prop, R c H → t σ H R) (h2 : ∀ R : Bool → Hp → Prop, R d H → u σ H R) (q : QB (c && d) H) : tAnd t u σ H QB :=
  w_and (h1 _ (by
    cases c with
    | true => exact iteT (h2 _ q)
    | false => exact iteF q))
end Odd

namespace TM2
open PySem PySem.Spec PyProof.Rows L2
theorem tuple_mul1 (l : Addr) (items : Array Value) (n : Nat) (dd : Option Addr) (sl : Array (Option Value)) (x : Int) (u : Tok) (c0 : (decide (x < -(2 ^ 63)) || decide (x ≥ 2 ^ 63)) = false) (c1 : (items.isEmpty || x == 1) = true) :
    Meets (Builtin.«tuple.__mul__» ⟨[.ref l, .int x u], []⟩) (fun _ R s => s.heap.get? l = some { cls := .type "tuple", dict := dd, data := .seq items n, slots := sl } ∧
      R (.ok (.ret (Value.ref l))) s) :=
  .of_wp fun prog w A R s h => by
    obtain ⟨hp, g, d, tk, os⟩ := s
    obtain ⟨hl, h⟩ := h
    have f1 := AutoSeq1.idx_int
    wp_walk using wpAny_loadPart' hl
    repeat (first
      | (refine wpAny_ite_false (decide_eq_false (by rw [c0]; exact Bool.false_ne_true)) ?_; wp_walk using wpAny_loadPart' hl)
      | (refine wpAny_ite_true (decide_eq_true c1) ?_; wp_walk using wpAny_loadPart' hl))
    exact ⟨_, rfl, h⟩
theorem tuple_mul0 (l : Addr) (items : Array Value) (n : Nat) (dd : Option Addr) (sl : Array (Option Value)) (x : Int) (u : Tok) (c0 : (decide (x < -(2 ^ 63)) || decide (x ≥ 2 ^ 63)) = false) (c1 : (items.isEmpty || x == 1) = false) (c2 : (decide (x ≤ 0) || items.isEmpty) = true) :
    Meets (Builtin.«tuple.__mul__» ⟨[.ref l, .int x u], []⟩) (fun _ R s => s.heap.get? l = some { cls := .type "tuple", dict := dd, data := .seq items n, slots := sl } ∧
      R (.ok (.ret (Value.ref s.heap.objs.size))) { s with heap := s.heap.push { cls := Value.type "tuple", data := Data.seq #[] }, toks := s.toks }) :=
  .of_wp fun prog w A R s h => by
    obtain ⟨hp, g, d, tk, os⟩ := s
    obtain ⟨hl, h⟩ := h
    have f1 := AutoSeq1.idx_int
    wp_walk using wpAny_loadPart' hl
    repeat (first
      | (refine wpAny_ite_false (decide_eq_false (by rw [c0]; exact Bool.false_ne_true)) ?_; wp_walk using wpAny_loadPart' hl)
      | (refine wpAny_ite_false (decide_eq_false (by rw [c1]; exact Bool.false_ne_true)) ?_; wp_walk using wpAny_loadPart' hl)
      | (refine wpAny_ite_true (decide_eq_true c2) ?_; wp_walk using wpAny_loadPart' hl))
    exact ⟨_, rfl, h⟩
end TM2
namespace Odd
open PySem PySem.Spec PyProof.Rows L2
def rRepT1 (K : PySem.W.Frag) : R2 := fun x y H Q => ∃ l k xs, x = .ref l ∧ y = .int k ∧ SqT K H l xs ∧ 0 ≤ k ∧ k ≤ 1000 ∧ (xs = [] ∨ k = 1) ∧ Q (.ref l) H
def rRepT0 (K : PySem.W.Frag) : R2 := fun x y H Q => ∃ l xs, x = .ref l ∧ y = .int 0 ∧ SqT K H l xs ∧ xs ≠ [] ∧ ∀ p, H p = none → Q (.ref p) (upd H p (.tup []))
section
variable {X : Cx}
theorem op_repT1 : OpR X (binaryOp .Mult) (rRepT1 X.K) := by
  intro pins s σ H x y v u Q I rx ry h
  obtain ⟨l, k, xs, rfl, rfl, hT, h1, h2, hor, q⟩ := h
  cases rx
  obtain ⟨t, rfl⟩ := ry
  obtain ⟨its, r, ⟨⟨cls, dd, data, sl⟩, ho, hc, n, hd⟩, hs⟩ := I.tuple hT
  simp only at hc hd
  subst hc hd
  have hle : its.length = xs.length := r.length.symm
  have c0 : (decide (k < -(2 ^ 63)) || decide (k ≥ 2 ^ 63)) = false := by
    rw [decide_eq_false (by omega), decide_eq_false (by omega)] <;> rfl
  have c1 : (its.toArray.isEmpty || k == 1) = true := by
    rcases hor with e | e
    · rw [e] at hle
      rw [List.eq_nil_of_length_eq_zero hle]
      rfl
    · rw [e]
      simp
  exact wpAny_binaryOp_repeat_ref (T := "tuple") (U := "int") (by decide) ⟨_, ho, rfl⟩ (fun s' => typeIs_int s' k t) noFill_tuple_mul F.fills_int_mul F.slot_int_rmul repeat_tuple F.slot_int_index.lookup
    (call_meets F.slot_int_rmul (typeIs_int s k t) F.entry_int_rmul (F.args_int_rmul_2 _ _) (int_rmul_tuple k t l its.toArray n dd sl)
      ⟨ho, rfl, ⟨_, ho, rfl⟩, call_meets F.slot_tuple_mul ⟨_, ho, rfl⟩ F.entry_tuple_mul (F.args_tuple_mul_2 _ _) (TM2.tuple_mul1 l its.toArray n dd sl k t c0 c1) ⟨ho, ⟨.ref l, H, I, rfl, q⟩⟩⟩)
theorem op_repT0 : OpR X (binaryOp .Mult) (rRepT0 X.K) := by
  intro pins s σ H x y v u Q I rx ry h
  obtain ⟨l, xs, rfl, rfl, hT, hne, q⟩ := h
  cases rx
  obtain ⟨t, rfl⟩ := ry
  obtain ⟨its, r, ⟨⟨cls, dd, data, sl⟩, ho, hc, n, hd⟩, hs⟩ := I.tuple hT
  simp only at hc hd
  subst hc hd
  have hle : its.length = xs.length := r.length.symm
  have hn : its ≠ [] := fun e => hne (by
    rw [e] at hle
    exact List.eq_nil_of_length_eq_zero hle.symm)
  have hi : its.toArray.isEmpty = false := by
    cases its with
    | nil => exact absurd rfl hn
    | cons a b => rfl
  have c0 : (decide ((0 : Int) < -(2 ^ 63)) || decide ((0 : Int) ≥ 2 ^ 63)) = false := by decide
  have c1 : (its.toArray.isEmpty || (0 : Int) == 1) = false := by rw [hi]; rfl
  have c2 : (decide ((0 : Int) ≤ 0) || its.toArray.isEmpty) = true := by rw [hi]; rfl
  refine wpAny_binaryOp_repeat_ref (T := "tuple") (U := "int") (by decide) ⟨_, ho, rfl⟩ (fun s' => typeIs_int s' 0 t) noFill_tuple_mul F.fills_int_mul F.slot_int_rmul repeat_tuple F.slot_int_index.lookup
    (call_meets F.slot_int_rmul (typeIs_int s 0 t) F.entry_int_rmul (F.args_int_rmul_2 _ _) (int_rmul_tuple 0 t l its.toArray n dd sl)
      ⟨ho, rfl, ⟨_, ho, rfl⟩, call_meets F.slot_tuple_mul ⟨_, ho, rfl⟩ F.entry_tuple_mul (F.args_tuple_mul_2 _ _) (TM2.tuple_mul0 l its.toArray n dd sl 0 t c0 c1 c2) ⟨ho, ?_⟩⟩)
  refine ⟨.ref s.heap.objs.size, _, I.laid (t' := s.toks) (o := .tup []) (fun b ob q => Heap.get?_push_of_some _ q) (Nat.le_refl _) ?_, rfl, q _ (I.hok.fresh (Nat.le_refl _))⟩
  exact ⟨Nat.zero_le _, [], .nil, IsTup.new _ _⟩
variable {X0 : Cx} {E : XK} {H : Hp} {Q : VK} {l : Addr} {xs : List V}
/-- a tuple so many times: its items, wherever they stand then -/
theorem s_repT {k : Nat} (h : SqT X0.K H l xs) (hk : k ≤ 1000) (hz : xs.length ≤ 1000) (q : ∀ p H', Same H H' → SqT X0.K H' p (List.replicate k xs).flatten → Q (.ref p) H') : ∃ r, OpD X0 E (binaryOp .Mult) r ∧ r (.ref l) (.int k) H Q := by
  by_cases h1 : xs = [] ∨ k = 1
  · refine ⟨rRepT1 X0.K, fun X li _ => by rw [← li.K]; exact op_repT1, l, k, xs, rfl, rfl, h, by omega, by omega, by rcases h1 with z | z; exact .inl z; exact .inr (by omega), q l H (Same.refl _) ?_⟩
    rcases h1 with z | z
    · subst z
      rw [show (List.replicate k ([] : List V)).flatten = [] by simp]
      exact h
    · subst z
      rw [show (List.replicate 1 xs).flatten = xs by simp]
      exact h
  · by_cases h0 : k = 0
    · subst h0
      exact ⟨rRepT0 X0.K, fun X li _ => by rw [← li.K]; exact op_repT0, l, xs, rfl, rfl, h, fun z => h1 (.inl z), fun p hp => q p _ (same_new hp) (SqT.of upd_same)⟩
    · refine ⟨rRepT X0.K, fun X li _ => by rw [← li.K]; exact op_repT, l, k, xs, rfl, rfl, h, fun z => h1 (.inl z), by omega, by omega, hz, fun p hp => ?_⟩
      rw [Int.toNat_natCast]
      exact q p _ (same_new hp) (SqT.of upd_same)
end
end Odd

namespace Odd
open PySem PySem.Spec PyProof.Rows L2
/-! ### the least and the greatest by a def's answer -/
section
variable {prog : Program} {w : World} {A : Around}
theorem walkS_list (hh : A.handled = none) (I a : Addr) (hne : a ≠ I) (xs : List V) : WalksS prog w A I [I, a] [I] (fun x y => y = x) xs.length (fun i v => ∃ x, xs[i]? = some x ∧ RelV x v)
    (fun i s => s.heap.IsListIter I a i ∧ ∃ its, Vals xs its ∧ s.heap.IsList a its.toArray) where
  sub := fun b hb => by rw [List.mem_singleton.1 hb]; exact List.mem_cons_self ..
  grefl := fun _ => rfl
  gtrans := fun _ _ _ h1 h2 => h2.trans h1
  frame := fun i s h' tk st _ hk => by
    obtain ⟨it, its, rl, il⟩ := st
    exact ⟨it.at fun o e => hk I (by simp) o e, its, rl, il.at fun o e => hk a (by simp) o e⟩
  item := fun i s Q E hi st hQ => by
    obtain ⟨it, its, rl, il⟩ := st
    have hl := rl.length
    refine (Walks.list (prog := prog) (w := w) hh I a hne its.toArray).toS.item i s Q E (by rw [List.size_toArray]; omega) ⟨it, il⟩ fun v s' hP st' mv => ?_
    obtain ⟨x, hx⟩ : ∃ x, xs[i]? = some x := ⟨_, List.getElem?_eq_getElem hi⟩
    obtain ⟨u, hu, ru⟩ := rl.get hx
    have hv : its.toArray[i]? = some v := hP
    rw [List.getElem?_toArray, hu] at hv
    cases hv
    exact hQ _ s' ⟨x, hx, ru⟩ ⟨st'.1, its, rl, st'.2⟩ mv
  done := fun s Q E st hQ => by
    obtain ⟨it, its, rl, il⟩ := st
    have hl := rl.length
    exact (Walks.list (prog := prog) (w := w) hh I a hne its.toArray).toS.done s Q E ⟨by rw [List.size_toArray, ← hl]; exact it, il⟩ hQ
  self := fun i s Q E st hQ => wpAny_pyIter_listiter st.1 hQ
end
section
variable {prog : Program} {w : World} {A : Around} {E : Value → Shared → Prop} {s : Shared}
theorem list_walk {l : Addr} {items : Array Value} {R : Value → Shared → Prop} (hl : s.heap.IsList l items) (h : ∀ s₂ : Shared, s₂ = { s with heap := s₂.heap } → (∀ b o, s.heap.get? b = some o → s₂.heap.get? b = some o) → s₂.heap.IsListIter s.heap.objs.size l 0 → s₂.heap.IsList l items →
    s₂.heap.objs.size = s.heap.objs.size + 1 → R (.ref s.heap.objs.size) s₂) : wpAny (model prog w) A (pyIter (.ref l)) R E s :=
  wpAny_pyIter_list hl (h _ rfl (fun b o e => Heap.get?_push_of_some _ e) ⟨_, Heap.get?_push_size _ rfl, rfl, rfl⟩ (hl.at fun o e => Heap.get?_push_of_some _ e) (Heap.size_push ..))
end
/-- f(xs, key=g), the first item whose answer is best -/
def rKeyF (K : PySem.W.Frag) (g : Addr) (sp : Sp) (lt : Int → Int → Bool) : List V → List V → Hp → VK → Prop := fun vs zs H Q => ∃ (a : Addr) (xs : List V) (kf : Nat → Int), vs = [.ref a] ∧ zs = [.ref g] ∧ SqL K H a xs ∧ 0 < xs.length ∧
  (∀ i x H', xs[i]? = some x → Same H H' → sp [x] H' (fun v H2 => v = .int (kf i) ∧ Same H' H2) E0) ∧ ∀ x H', xs[argBest (fun i j => lt (kf i) (kf j)) (xs.length - 1)]? = some x → Same H H' → Q x H'
section
variable {X : Cx} {n : Nat} {g : Addr} {sp : Sp}
theorem key_run {lt : Int → Int → Bool} {op : CmpOp} {pins : List (Addr × Obj)} {σ : L2.St} {H : Hp} {s : Shared} {a : Addr} {xs : List V} {kf : Nat → Int} {Q : VK} (F : FnR X.prog X.w X.K X.mg X.base (L2.CX X.prog X.w) n g sp) (hr : Room (n + 1) X.A) (hc : X.calm = true)
    (hcmp : CmpOf X.prog X.w X.A.in1 op (fun i v => ∃ t, v = .int (kf i) t) (fun i j => lt (kf i) (kf j))) (I : Inv X pins σ H s) (hq : SqL X.K H a xs) (hne : 0 < xs.length)
    (hkey : ∀ i x H', xs[i]? = some x → Same H H' → sp [x] H' (fun v H2 => v = .int (kf i) ∧ Same H' H2) E0) (q : ∀ x H', xs[argBest (fun i j => lt (kf i) (kf j)) (xs.length - 1)]? = some x → Same H H' → Q x H') :
    wpAny (model X.prog X.w) X.A.in1 (pyIter (.ref a)) (fun it s₂ => ∃ I fp wr G m P St J V bt, it = .ref I ∧ WalksS X.prog X.w X.A.in1 I fp wr G m P St ∧ St 0 s₂ ∧ (∀ b ∈ fp, b < s₂.heap.objs.size) ∧ 0 < m ∧
      KeyRun X.prog X.w X.A.in1 (.ref g) op s₂.heap.objs.size wr G m P St J V bt ∧ J s₂ ∧ ∀ v s', P (argBest bt (m - 1)) v → J s' → EP X pins σ Q v s') X.xe s := by
  obtain ⟨its, rl, p, hz⟩ := I.list hq
  refine list_walk p.isList fun s₂ e2 k2 it2 il2 sz2 => ?_
  have hlt : a < s.heap.objs.size := by
    obtain ⟨o, ho, _⟩ := p.isList
    exact Heap.lt_size ho
  have I2 : L2.Inv X pins σ H s₂ := by
    rw [e2]
    exact I.kept (t' := s.toks) k2
  have nI0 : H s.heap.objs.size = none := I.hok.fresh (Nat.le_refl _)
  have nS0 : H s₂.heap.objs.size = none := I2.hok.fresh (Nat.le_refl _)
  have fI : FpOk X pins H s.heap.objs.size := I.fpOk (Nat.le_refl _) nI0
  have fS : FpOk X pins H s₂.heap.objs.size := I2.fpOk (Nat.le_refl _) nS0
  have nfr : ∀ {H' : Hp} {s' : Shared} {b : Addr}, L2.Inv X pins σ H' s' → FpOk X pins H b → b ∉ frs X.stack := fun I' f z => by
    rcases List.mem_cons.mp (I'.stkSub _ z) with y | y
    · exact f.2.1 y
    · exact f.2.2.1 y
  refine ⟨s.heap.objs.size, [s.heap.objs.size, a], [s.heap.objs.size], _, xs.length, _, _, fun s' => ∃ H', Same H H' ∧ L2.Inv X pins σ H' s' ∧ H' s.heap.objs.size = none ∧ H' s₂.heap.objs.size = none, fun i v _ => ∃ t, v = .int (kf i) t, fun i j => lt (kf i) (kf j), rfl, walkS_list (A := X.A.in1) (I.ok.hd hc) _ a (Nat.ne_of_lt hlt) xs, ?st, fun b hb => ?_, hne, ⟨?keep, fun _ _ _ _ h _ => h, ?turn, ?cmp⟩, ⟨H, Same.refl _, I2, nI0, nS0⟩, ?fin⟩
  case st => exact ⟨it2, its, rl, il2⟩
  · rw [sz2]
    simp only [List.mem_cons, List.not_mem_nil, or_false] at hb
    rcases hb with rfl | rfl
    · exact Nat.lt_succ_self _
    · exact Nat.lt_succ_of_lt hlt
  case keep =>
    rintro s3 s4 ⟨H', s0, I3, n1, n2⟩ mv
    refine ⟨H', s0, ?_, n1, n2⟩
    obtain ⟨hp4, g4, d4, t4, o4⟩ := s4
    obtain rfl : g4 = s3.gens := mv.gens
    obtain rfl : d4 = s3.drawn := mv.drawn
    obtain rfl : o4 = s3.os := mv.os
    refine I3.turnedL (ch := [s₂.heap.objs.size, s.heap.objs.size]) (fun b o hb e => mv.heap b o hb e) fun b hb => ?_
    simp only [List.mem_cons, List.not_mem_nil, or_false] at hb
    rcases hb with rfl | rfl
    · exact ⟨n2, fS.2⟩
    · exact ⟨n1, fI.2⟩
  case turn =>
    rintro i v s3 o Q3 E3 hi ⟨x, hx, rx⟩ ⟨H', s0, I3, n1, n2⟩ ⟨it3, its3, rl3, il3⟩ hS k
    refine wpAny_call (codeAny_mono (F X.A.in1 X.stack s3 H' [v] [x] _ E0 hr.in1 I3.env0.in1 (.cons rx .nil) (hkey i x H' hx s0)) fun r s' hq3 => ?_)
    cases r with
    | error er =>
      obtain ⟨_, _, _, _, _, _, _, _, _, _, _, _, z⟩ := hq3
      exact z.elim
    | ok fl =>
      cases fl with
      | ret u =>
        obtain ⟨y, H4, os, bare, un, hok, ry, rfl, s5⟩ := hq3
        obtain ⟨oI, eI, cI, dI⟩ := id it3
        have eI4 := un.keep _ oI eI n1 (nfr I3 fI) (by simp)
        have eS4 := un.keep _ o hS n2 (nfr I3 fS) (by simp)
        have m1 := un.free _ oI eI n1 (by simp)
        have m2 := un.free _ o hS n2 (by simp)
        obtain ⟨hp4, g4, d4, t4, o4⟩ := s'
        obtain rfl : o4 = s3.os := os
        have I4 : L2.Inv X pins σ H4 { s3 with heap := hp4, gens := g4, drawn := d4, toks := t4 } := I3.call (h' := hp4) (g' := g4) (d' := d4) (t' := t4) (ch := []) un hok bare (fun b z => absurd z (by simp))
        obtain ⟨its4, rl4, p4, _⟩ := I4.list ((s0.trans s5).seq hq)
        exact k u _ ⟨H4, s0.trans s5, I4, m1, m2⟩ ⟨⟨oI, eI4, cI, dI⟩, its4, rl4, p4.isList⟩ eS4 ry fun _ _ h => h
      | next => exact False.elim hq3
      | brk => exact False.elim hq3
      | cont => exact False.elim hq3
  case cmp =>
    intro i j ki kj s3 Q3 E3 _ h1 h2 hq3
    exact hcmp i j ki kj s3 Q3 E3 h1 h2 hq3
  case fin =>
    rintro v s3 ⟨x, hx, rx⟩ ⟨H', s0, I3, _, _⟩
    exact ⟨x, H', I3, rx, q x H' hx s0⟩
theorem call_minF (F : FnR X.prog X.w X.K X.mg X.base (L2.CX X.prog X.w) n g sp) (hr : Room (n + 1) X.A) (hc : X.calm = true) : CallRK X (.builtin "min") [Str.ofString "key"] (rKeyF X.K g sp fun a b => decide (a < b)) := by
  intro pins s σ H vs zs us ws Q I rv rz h
  obtain ⟨a, xs, kf, rfl, rfl, hq, hne, hkey, q⟩ := h
  obtain rfl := Vals.ref1 rv
  obtain rfl := Vals.ref1 rz
  exact call_min_walkK (key_run (lt := fun a b => decide (a < b)) F hr hc (CmpOf.ints_lt kf fun _ _ h => h) I hq hne hkey q)
theorem call_maxF (F : FnR X.prog X.w X.K X.mg X.base (L2.CX X.prog X.w) n g sp) (hr : Room (n + 1) X.A) (hc : X.calm = true) : CallRK X (.builtin "max") [Str.ofString "key"] (rKeyF X.K g sp fun a b => decide (a > b)) := by
  intro pins s σ H vs zs us ws Q I rv rz h
  obtain ⟨a, xs, kf, rfl, rfl, hq, hne, hkey, q⟩ := h
  obtain rfl := Vals.ref1 rv
  obtain rfl := Vals.ref1 rz
  exact call_max_walkK (key_run (lt := fun a b => decide (a > b)) F hr hc (CmpOf.ints_gt kf fun _ _ h => h) I hq hne hkey q)
end
/-! .. with the choice left to the reading -/
def CkD (X0 : Cx) (E : XK) (ks : List Str) (u : Value) (r : List V → List V → Hp → VK → Prop) : Prop := ∀ X, Like X0 X → Pas X E → CallRK X u ks r
def tKwA (X0 : Cx) (E : XK) (x : Str) (ks : List Str) (u : Value) (t tk : TA) : TE := fun σ H Q => X0.mg x = none ∧ t σ H fun vs H1 => tk σ H1 fun zs H2 => ∃ r, CkD X0 E ks u r ∧ r vs zs H2 Q
section
variable {X0 X : Cx} {E : XK} {x : Str} {p pos : Pos} {e : Expr} {es : List Expr} {kws : List Keyword} {t tk : TA} {id : String} {ks : List Str}
theorem pe_kwA (l : Like X0 X) (h : Pas X E) (hg : Gl X x) (hv : bootBuiltins x = some (.builtin id)) (ha : PA X (e :: es) t) (hk : PK X kws tk) (hn : x ≠ "__name__" := by decide) (hdb : (x == ("__debug__" : Str)) = false := by decide)
    (he : backTo pos (starEach (e :: es) X.env) = (false, eval e X.env) :: backTo pos (starEach es X.env) := by rfl) (hpl : (backTo pos (starEach (e :: es) X.env)).any (·.1) = false := by rfl)
    (hall : (backToKw pos (keywordEach kws X.env)).all (·.1.isSome) = true := by rfl) (hnone : (backToKw pos (keywordEach kws X.env)).any (·.1.isNone) = false := by rfl) (hks : (backToKw pos (keywordEach kws X.env)).filterMap (·.1) = ks := by rfl) :
    PE X (.Call (.Name x p) (e :: es) kws pos) (tKwA X0 E x ks (.builtin id) t tk) := by
  refine ⟨fun pins s σ H Q I ⟨hm, q⟩ => ?_⟩
  rw [← l.mg] at hm
  refine wpAny_Call_Name_kw (ld_blt I hg hm hv ?_ hn hdb)
  refine callWith_kw (thn (ha.run pos pins s σ H _ I q) fun us s1 ⟨vs, H1, I1, r1, q1⟩ => thn (hk.run pos pins s1 σ H1 _ I1 q1) fun ws s2 ⟨zs, H2, I2, r2, r, hr, q2⟩ => ?_) he hpl hall hnone
  rw [hks]
  exact hr X l h pins s2 σ H2 vs zs us ws Q I2 r1 r2 q2
variable {σ : L2.St} {H : Hp} {Q : VK} {u : Value}
theorem w_kw (hm : X0.mg x = none) (h : t σ H fun vs H1 => tk σ H1 fun zs H2 => ∃ r, CkD X0 E ks u r ∧ r vs zs H2 Q) : tKwA X0 E x ks u t tk σ H Q := ⟨hm, h⟩
theorem s_minF {k : Nat} {g a : Addr} {sp : Sp} {xs : List V} (kf : Nat → Int) (F : Fn X0 k g sp) (hr : Room (k + 1) X0.A) (hc : X0.calm = true) (hq : SqL X0.K H a xs) (hne : 0 < xs.length) (hkey : ∀ i x H', xs[i]? = some x → Same H H' → sp [x] H' (fun v H2 => v = .int (kf i) ∧ Same H' H2) E0)
    (q : ∀ x H', xs[argBest (fun i j => decide (kf i < kf j)) (xs.length - 1)]? = some x → Same H H' → Q x H') : ∃ r, CkD X0 E [Str.ofString "key"] (.builtin "min") r ∧ r [.ref a] [.ref g] H Q :=
  ⟨rKeyF X0.K g sp fun a b => decide (a < b), fun X l _ => by rw [← l.K]; exact call_minF (l.fn F) (l.room hr) (by rw [l.calm]; exact hc), a, xs, kf, rfl, rfl, hq, hne, hkey, q⟩
theorem s_maxF {k : Nat} {g a : Addr} {sp : Sp} {xs : List V} (kf : Nat → Int) (F : Fn X0 k g sp) (hr : Room (k + 1) X0.A) (hc : X0.calm = true) (hq : SqL X0.K H a xs) (hne : 0 < xs.length) (hkey : ∀ i x H', xs[i]? = some x → Same H H' → sp [x] H' (fun v H2 => v = .int (kf i) ∧ Same H' H2) E0)
    (q : ∀ x H', xs[argBest (fun i j => decide (kf i > kf j)) (xs.length - 1)]? = some x → Same H H' → Q x H') : ∃ r, CkD X0 E [Str.ofString "key"] (.builtin "max") r ∧ r [.ref a] [.ref g] H Q :=
  ⟨rKeyF X0.K g sp fun a b => decide (a > b), fun X l _ => by rw [← l.K]; exact call_maxF (l.fn F) (l.room hr) (by rw [l.calm]; exact hc), a, xs, kf, rfl, rfl, hq, hne, hkey, q⟩
end
end Odd

namespace Odd
open PySem PySem.Spec PyProof.Rows L2
/-! ### a comprehension of two clauses: the items of a list that each item gives -/
section
variable {K : PySem.W.Frag} {a : Addr} {xs : List V} {σ : L2.St} {H : Hp} {Q : VK} {tl te : TE} {wi1 : TI} {vs vs1 : List Nat} {j j1 : Nat}
theorem w_yes {A B : Hp → Prop} {τ : L2.St} {H1 : Hp} (h : A H1) : tYes τ H1 (fun b H3 => if b = true then A H3 else B H3) := by
  show (if true = true then A H1 else B H1)
  rw [if_pos rfl]
  exact h
theorem c_lc2 (Pv : Addr → Nat → List V → Hp → Prop) (h0 : ∀ D, H D = none → Pv D 0 [] (upd H D (.lst []))) (hx : SqL K H a xs) (hz : ∀ D i o H', Pv D i o H' → o.length < 1000000)
    (hw : ∀ x, wipe ((wipe σ vs).set j (some x)) vs = wipe σ vs) (hw1 : ∀ x0 x, wipe ((wipe ((wipe σ vs).set j (some x0)) vs1).set j1 (some x)) vs1 = wipe ((wipe σ vs).set j (some x0)) vs1)
    (hte : ∀ x0 x (R : VK) H', R x H' → te ((wipe ((wipe σ vs).set j (some x0)) vs1).set j1 (some x)) H' R)
    (turn : ∀ D i x H' o, H D = none → xs[i]? = some x → Same H H' → H' D = some (.lst o) → Pv D i o H' → ∀ R : It → Hp → Prop, (∀ b ys H4, Same H' H4 → H' b = none → H4 b = some (.lst ys) → Pv D (i + 1) (o ++ ys) (upd H4 D (.lst (o ++ ys))) → R (Itl K b) H4) → wi1 ((wipe σ vs).set j (some x)) H' R)
    (q : ∀ p o H', H p = none → Same H H' → Pv p xs.length o H' → H' p = some (.lst o) → Q (.ref p) H')
    (ht : ∀ R : VK, R (.ref a) H → tl σ H R) : tLc2 (iSeq K tl) (gName j) tYes wi1 (gName j1) tYes te vs vs1 σ H Q :=
  ht _ ⟨a, rfl, .inl ⟨⟨xs, hx⟩, fun D hD => ⟨fun i m H1 => m = xs.length - i ∧ i ≤ xs.length ∧ ∃ o, Same H H1 ∧ H1 D = some (.lst o) ∧ Pv D i o H1, ⟨xs.length, rfl, Nat.zero_le _, [], same_new hD, upd_same, h0 D hD⟩, fun i m H1 w => by
    obtain ⟨rfl, hi, o, s1, d1, p1⟩ := w
    by_cases hlt : i < xs.length
    · refine .inr ⟨⟨xs, xs[i], s1.seq hx, by simp [hlt]⟩, fun H' => i + 1 ≤ xs.length ∧ ∃ o, Same H H' ∧ H' D = some (.lst o) ∧ Pv D (i + 1) o H', fun H' h => ⟨xs.length - (i + 1), by omega, rfl, h.1, h.2⟩, fun x H' y => ?_⟩
      obtain ⟨e1, e2⟩ := y
      subst e1
      refine ⟨hw x, ?_⟩
      refine w_yes ?_
      refine turn D i x _ o hD (e2 xs (s1.seq hx)) s1 d1 p1 _ fun b ys H4 s4 nb hb p4 => ?_
      have hbD : b ≠ D := fun z => by rw [z, d1] at nb; cases nb
      have d4 := s4 _ _ d1
      have hz4 := hz D (i + 1) _ _ p4
      rw [List.length_append] at hz4
      refine ⟨fun jj k H5 => k = ys.length - jj ∧ jj ≤ ys.length ∧ (∀ c, c ≠ D → H5 c = H4 c) ∧ H5 D = some (.lst (o ++ ys.take jj)), ⟨ys.length, rfl, Nat.zero_le _, fun _ _ => rfl, by rw [List.take_zero, List.append_nil]; exact d4⟩, fun jj k H5 w1 => ?_⟩
      obtain ⟨rfl, hj, k5, d5⟩ := w1
      have hb5 : SqL K H5 b ys := SqL.of (by rw [k5 b hbD]; exact hb)
      by_cases hjl : jj < ys.length
      · refine .inr ⟨⟨ys, ys[jj], hb5, by simp [hjl]⟩, fun H6 => jj + 1 ≤ ys.length ∧ (∀ c, c ≠ D → H6 c = H4 c) ∧ H6 D = some (.lst (o ++ ys.take (jj + 1))), fun H6 h => ⟨ys.length - (jj + 1), by omega, rfl, h.1, h.2⟩, fun x5 H6 y5 => ?_⟩
        obtain ⟨e3, e4⟩ := y5
        subst e3
        have hx5 := e4 ys hb5
        refine ⟨hw1 x x5, ?_⟩
        refine w_yes ?_
        refine hte x x5 _ _ ?_
        refine ⟨o ++ ys.take jj, d5, ?_, hjl, fun c hc => by rw [upd_ne hc]; exact k5 c hc, ?_⟩
        · rw [List.length_append, List.length_take]
          exact Nat.lt_of_lt_of_le (show o.length + min jj ys.length < 1000000 by omega) (by decide)
        · rw [upd_same, List.take_add_one, hx5, ← List.append_assoc]
          rfl
      · obtain rfl : jj = ys.length := by omega
        rw [List.take_of_length_le (Nat.le_refl _)] at d5
        have eH : H5 = upd H4 D (.lst (o ++ ys)) := by
          funext c
          by_cases hc : c = D
          · subst hc
            rw [d5, upd_same]
          · rw [k5 c hc, upd_ne hc]
        refine .inl ⟨⟨ys, hb5, Nat.le_refl _⟩, hlt, o ++ ys, ?_, d5, by rw [eH]; exact p4⟩
        rw [eH]
        exact same_mut (s1.trans s4) hD
    · obtain rfl : i = xs.length := by omega
      exact .inl ⟨⟨xs, s1.seq hx, Nat.le_refl _⟩, q D o H1 hD s1 p1 d1⟩⟩⟩⟩
end
/-! ### the first best -/
theorem argBest_le (bt : Nat → Nat → Bool) : ∀ k, argBest bt k ≤ k
  | 0 => Nat.le_refl _
  | k + 1 => by
    show (if bt (k + 1) (argBest bt k) then k + 1 else argBest bt k) ≤ k + 1
    split
    · exact Nat.le_refl _
    · exact Nat.le_succ_of_le (argBest_le bt k)
theorem argBest_congr {bt bt' : Nat → Nat → Bool} : ∀ k, (∀ i j, i ≤ k → j ≤ k → bt i j = bt' i j) → argBest bt k = argBest bt' k
  | 0, _ => rfl
  | k + 1, h => by
    have e := argBest_congr k fun i j hi hj => h i j (by omega) (by omega)
    show (if bt (k + 1) (argBest bt k) then k + 1 else argBest bt k) = (if bt' (k + 1) (argBest bt' k) then k + 1 else argBest bt' k)
    rw [← e, h (k + 1) (argBest bt k) (Nat.le_refl _) (Nat.le_succ_of_le (argBest_le bt k))]
/-- the first of the least -/
theorem argBest_min (f : Nat → Int) : ∀ k, (∀ i, i ≤ k → f (argBest (fun i j => decide (f i < f j)) k) ≤ f i) ∧ ∀ i, i < argBest (fun i j => decide (f i < f j)) k → f (argBest (fun i j => decide (f i < f j)) k) < f i
  | 0 => ⟨fun i h => by rw [Nat.le_zero.1 h]; exact Int.le_refl _, fun i h => absurd h (Nat.not_lt_zero _)⟩
  | k + 1 => by
    obtain ⟨h1, h2⟩ := argBest_min f k
    show (∀ i, i ≤ k + 1 → f (if decide (f (k + 1) < f (argBest (fun i j => decide (f i < f j)) k)) = true then k + 1 else argBest (fun i j => decide (f i < f j)) k) ≤ f i) ∧ _
    by_cases h : f (k + 1) < f (argBest (fun i j => decide (f i < f j)) k)
    · have e : argBest (fun i j => decide (f i < f j)) (k + 1) = k + 1 := by
        show (if _ then _ else _) = _
        rw [if_pos (decide_eq_true h)]
      rw [if_pos (decide_eq_true h), e]
      refine ⟨fun i hi => ?_, fun i hi => ?_⟩
      · rcases Nat.lt_or_ge i (k + 1) with z | z
        · have := h1 i (by omega); omega
        · rw [show i = k + 1 by omega]; exact Int.le_refl _
      · have := h1 i (by omega)
        omega
    · have e : argBest (fun i j => decide (f i < f j)) (k + 1) = argBest (fun i j => decide (f i < f j)) k := by
        show (if _ then _ else _) = _
        rw [if_neg (by simpa using h)]
      rw [if_neg (by simpa using h), e]
      refine ⟨fun i hi => ?_, h2⟩
      rcases Nat.lt_or_ge i (k + 1) with z | z
      · exact h1 i (by omega)
      · rw [show i = k + 1 by omega]; omega
end Odd

namespace Odd
open PySem PySem.Spec PyProof.Rows L2
/-! ### a try with several statements: what runs within it -/
section
variable {X0 X : Cx}
theorem likeT {pn : List (Addr × Obj)} {xe : Value → Shared → Prop} : Like X (X.tr pn xe) := ⟨rfl, rfl, rfl, rfl, rfl, rfl, rfl⟩
theorem likeS {b : Addr} {pn : List (Addr × Obj)} : Like (X.suite b []) (X.suite b pn) := ⟨rfl, rfl, rfl, rfl, rfl, rfl, rfl⟩
theorem pas0 : Pas X (fun _ _ _ => False) := fun _ _ _ _ _ _ _ ⟨_, _, _, _, _, _, _, _, _, _, _, _, z⟩ => z.elim
/-- o.m(e, ..) within a try: what it raises goes to the handlers -/
def tMeT (X0 : Cx) (W : WX) (m : Str) (ta : TE) (t : TA) : TE := fun σ H Q => ta σ H fun x H1 => ∃ a C dx fs g k sp, x = .ref a ∧ H1 a = some (.ins C dx fs) ∧ Cls X0.K C ∧ Meth X0.K C m g ∧ PySem.W.keepIn X0.K (.ref g) = true ∧ fs.lookup m = none ∧
  Fn X0 k g sp ∧ Room k X0.A ∧ t σ H1 fun vs H2 => ∃ Ef : XK, (∀ cls d H', Ef cls d H' → W cls d σ H') ∧ sp (x :: vs) H2 Q Ef
theorem pe_meT {W : WX} {o e : Expr} {es : List Expr} {ta : TE} {t : TA} {m : Str} {pos apos : Pos} {pl : Sem Bool} (l : Like X0 X) (tk : L2.Takes X W) (he : PE X o ta) (ha : PA X (e :: es) t)
    (hst : starEach (e :: es) X.env = (false, eval e X.env) :: starEach es X.env := by rfl) (hpl : (backTo pos (starEach es X.env)).any (·.1) = false := by rfl)
    (ht : eval (.Call (.Attribute o m apos) (e :: es) [] pos) X.env = (do
      let ov ← eval o X.env
      standAt apos.atName
      let (f, first) ← holding [ov] (getMethod ov m pl)
      callWith pos f first (backTo pos (starEach (e :: es) X.env)) (backToKw pos (keywordEach [] X.env))) := by rfl) :
    PE X (.Call (.Attribute o m apos) (e :: es) [] pos) (tMeT X0 W m ta t) := by
  refine ⟨fun pins s σ H Q I hq => ?_⟩
  refine PySem.W.methodCall_KW (pl := pl) (thn (he.run pins s σ H _ I hq) fun u s1 ⟨x, H1, I1, rx, a, C, dx, fs, g, k, sp, ex, ea, c, hm, hk, lk, F, hr, q⟩ => ?_) ht
  subst ex
  obtain rfl : u = Value.ref a := rx
  rw [← l.K] at c hm hk
  refine getmeth_ok I1 ea c hm lk ?_
  refine PySem.W.callWith_K (first := [.ref a]) (h₀ := X.base) I.ok.mod.kin hm.kp (thn (ha.run pos pins s1 σ H1 _ I1 q) fun us s2 ⟨vs, H2, I2, r, Ef, hW, q2⟩ => ⟨I2.kIn, ?_⟩) hst hpl
  refine wpAny_call (codeAny_mono ((l.fn F) X.A X.stack s2 H2 (.ref a :: us) (.ref a :: vs) Q Ef (l.room hr) I2.env0 (.cons rfl r) q2) fun r s' hq => ?_)
  cases r with
  | error e => exact tk _ _ (L2.XE.of_call I2 hW hq)
  | ok fl =>
    cases fl with
    | ret u => exact I2.after hq
    | next => exact False.elim hq
    | brk => exact False.elim hq
    | cont => exact False.elim hq
theorem w_meT {W : WX} {m : Str} {ta : TE} {t : TA} {σ : L2.St} {H : Hp} {Q : VK} (h : ta σ H fun x H1 => ∃ a C dx fs g k sp, x = .ref a ∧ H1 a = some (.ins C dx fs) ∧ Cls X0.K C ∧ Meth X0.K C m g ∧ PySem.W.keepIn X0.K (.ref g) = true ∧ fs.lookup m = none ∧
  Fn X0 k g sp ∧ Room k X0.A ∧ t σ H1 fun vs H2 => ∃ Ef : XK, (∀ cls d H', Ef cls d H' → W cls d σ H') ∧ sp (x :: vs) H2 Q Ef) : tMeT X0 W m ta t σ H Q := h
end
end Odd

namespace Odd
open PySem PySem.Spec PyProof.Rows L2 SeqAt
/-! ### lists compared, sorted, and a place put in -/
def ltI (ns ms : List Int) : Bool := firstLt (fun j => decide (ns.getD j 0 = ms.getD j 0)) (fun j => decide (ns.getD j 0 < ms.getD j 0)) (decide (ns.length < ms.length)) (List.range (min ns.length ms.length))
def rLtL (K : PySem.W.Frag) : R2 := fun x y H Q => ∃ (a b : Addr) (ns ms : List Int), x = .ref a ∧ y = .ref b ∧ SqL K H a (ns.map V.int) ∧ SqL K H b (ms.map V.int) ∧ Q (.bl (ltI ns ms)) H
/-- the items of a row of ints -/
theorem row_at {us : List Value} {ns : List Int} (h : IntsAre us ns) : ∀ i (hi : i < us.toArray.size), ∃ t, us.toArray[i] = Value.int (ns.getD i 0) t := by
  induction h with
  | nil => exact fun i hi => absurd hi (Nat.not_lt_zero _)
  | cons c t _ ih =>
    intro i hi
    cases i with
    | zero => exact ⟨t, rfl⟩
    | succ i =>
      obtain ⟨t', e⟩ := ih i (by simpa using hi)
      exact ⟨t', by simpa using e⟩
theorem op_ltL {X : Cx} (hu : X.A.units < cLine) : OpR X (compareOp .Lt) (rLtL X.K) := by
  rintro pins sh τ G left right lv rv Z I rl rr ⟨p, p', ks, ls, rfl, rfl, hp, hp', goal⟩
  obtain rfl : lv = Value.ref p := rl
  obtain rfl : rv = Value.ref p' := rr
  obtain ⟨us, vu, pu, -⟩ := I.list hp
  obtain ⟨ws, vw, pw, -⟩ := I.list hp'
  have iu := row_at vu.ints
  have iw := row_at vw.ints
  have lu : us.toArray.size = ks.length := by simpa using vu.ints.length
  have lw : ws.toArray.size = ls.length := by simpa using vw.ints.length
  have low := RcLt.lists (A := X.A) (s := sh) (e := fun i => decide (ks.getD i 0 = ls.getD i 0)) (r := fun i => decide (ks.getD i 0 < ls.getD i 0)) pu.isList pw.isList hu
    (fun i h h' => by
      obtain ⟨t, et⟩ := iu i h
      obtain ⟨t', et'⟩ := iw i h'
      rw [et, et']
      exact EqAt.int_int (ks.getD i 0) t (ls.getD i 0) t')
    (fun i h h' _ => by
      obtain ⟨t, et⟩ := iu i h
      obtain ⟨t', et'⟩ := iw i h'
      rw [et, et']
      exact fun _ _ _ _ k => lt_int k)
  rw [lu, lw] at low
  exact low X.prog X.w X.xe (EP X pins τ Z) ⟨V.bl (ltI ks ls), G, I, rfl, goal⟩
section
variable {X0 : Cx} {E : XK} {H : Hp} {Q : VK}
theorem s_ltL {a b : Addr} {ns ms : List Int} (hu : X0.A.units + 64 < cLine) (ha : SqL X0.K H a (ns.map V.int)) (hb : SqL X0.K H b (ms.map V.int)) (q : Q (.bl (ltI ns ms)) H) : ∃ r, OpD X0 E (compareOp .Lt) r ∧ r (.ref a) (.ref b) H Q :=
  ⟨rLtL X0.K, fun X l _ => by rw [← l.K]; exact op_ltL (by rw [l.A]; omega), a, b, ns, ms, rfl, rfl, ha, hb, q⟩
theorem s_sortI {a : Addr} {ns : List Int} (ha : SqL X0.K H a (ns.map V.int)) (q : ∀ (ns' : List Int) (p : Addr), ns'.Perm ns → ns'.Pairwise (· ≤ ·) → H p = none → Q (.ref p) (upd H p (.lst (ns'.map V.int)))) : ∃ r, CaD X0 E (.builtin "sorted") r ∧ r [.ref a] H Q :=
  ⟨rSortedI X0.K, fun X l _ => by rw [← l.K]; exact cr_sortedI, a, ns, rfl, ha, q⟩
end
/-! ### from the first that differs -/
theorem firstLt_true (e r : Nat → Bool) : ∀ c lo : Nat, firstLt e r false (List.range' lo c) = true → ∃ j, lo ≤ j ∧ j < lo + c ∧ r j = true ∧ ∀ i, lo ≤ i → i < j → e i = true
  | 0, lo, h => by cases h
  | c + 1, lo, h => by
    rw [List.range'_succ] at h
    by_cases he : e lo = true
    · rw [firstLt_yes he] at h
      obtain ⟨j, h1, h2, h3, h4⟩ := firstLt_true e r c (lo + 1) h
      refine ⟨j, by omega, by omega, h3, fun i hi hj => ?_⟩
      by_cases hl : i = lo
      · rw [hl]; exact he
      · exact h4 i (by omega) hj
    · have e1 : firstLt e r false (lo :: List.range' (lo + 1) c) = r lo := if_neg he
      rw [e1] at h
      exact ⟨lo, Nat.le_refl _, by omega, h, fun i h1 h2 => by omega⟩
/-- a before b: the first place that differs is less -/
def Lx (a b : List Nat) : Prop := ∃ (j x y : Nat), a[j]? = some x ∧ b[j]? = some y ∧ x < y ∧ ∀ i, i < j → a[i]? = b[i]?
theorem Lx.asymm {a b : List Nat} (h : Lx a b) (h' : Lx b a) : False := by
  obtain ⟨j, x, y, h1, h2, h3, h4⟩ := h
  obtain ⟨j', x', y', g1, g2, g3, g4⟩ := h'
  rcases Nat.lt_trichotomy j j' with z | z | z
  · have e := g4 j z
    rw [h1, h2] at e
    injection e with e
    omega
  · subst z
    rw [h1] at g2
    rw [h2] at g1
    injection g1 with e1
    injection g2 with e2
    omega
  · have e := h4 j' z
    rw [g1, g2] at e
    injection e with e
    omega
end Odd

namespace Odd
open PySem PySem.Spec PyProof.Rows L2 PpSet
/-! ### {e for x in xs}, e an int -/
section
variable {X : Cx}
def tScI (w : World) (wi : TI) (g : TG) (te : TE) (vs : List Nat) : TE := fun σ H Q => wi σ H fun J H1 => ∀ D, H1 D = none → ∃ W : Nat → Nat → Hp → Prop, (∃ m, W 0 m (upd H1 D (SetO w D (fun _ => false) 0))) ∧ ∀ i m H, W i m H →
  (J.stop i H ∧ Q (.ref D) H) ∨ (J.go i H ∧ ∃ Nx : Hp → Prop, (∀ H', Nx H' → ∃ m', m' < m ∧ W (i + 1) m' H') ∧ ∀ x H', J.yld i H x H' → g x (wipe σ vs) H' fun σ2 H2 => wipe σ2 vs = wipe σ vs ∧ te σ2 H2 fun y H4 =>
    ∃ (c : Int) (S : Int → Bool) (n : Nat), y = .int c ∧ H4 D = some (SetO w D S n) ∧ n + 1 < scanBound ∧ Nx (upd H4 D (SetO w D (fun j => S j || decide (j = c)) (if S c = true then n else n + 1))))
/-- an int put in -/
theorem put_int {pins : List (Addr × Obj)} {σ : L2.St} {H : Hp} {s : Shared} {E : Value → Shared → Prop} {D : Addr} {S : Int → Bool} {n : Nat} {c : Int} {t : Tok} {R : Value → Shared → Prop} (I : Inv X pins σ H s) (atD : H D = some (SetO X.w D S n)) (few : n + 1 < scanBound)
    (k : ∀ s', Inv X pins σ (upd H D (SetO X.w D (fun j => S j || decide (j = c)) (if S c = true then n else n + 1))) s' → R .none s') : wpAny (model X.prog X.w) X.A (call (.builtin "set.add") [.ref D, .int c t]) R E s := by
  refine setR_add (setO_get I atD) few fun h' but made => k _ ?_
  refine I.write (e := D) (t' := s.toks + 1) (by rw [atD]; trivial) (.inl rfl) (fun b u hb hu => (but.2 b hb).trans hu) ?_ (setO_new made)
  obtain ⟨o, _, _, _, ho, _⟩ := made
  exact ⟨o, ho⟩
theorem pe_scI {elt tg iter : Expr} {scope : Scope} {own : List (Str × Nat)} {pos : Pos} {wi : TI} {g : TG} {te : TE} (calm : X.calm = true) (nd : X.N.Nodup) (hi : PI X tg iter wi) (ok : BlkOk X.N X.env.scope scope own)
    (hg : ∀ (s : Shared) (H : Hp) (C : Addr) (cl : List (Str × Addr)) (fp : List Addr), PG (X.blk s H scope (compEnvC scope cl C X.env) fp) tg g)
    (he : ∀ (s : Shared) (H : Hp) (C : Addr) (cl : List (Str × Addr)) (fp : List Addr), PE (X.blk s H scope (compEnvC scope cl C X.env) fp) elt te) (fold : ∀ x, foldedSetIterable iter X.env x = pure x := by intro _; rfl) :
    PE X (.SetComp elt [⟨tg, iter, [], 0⟩] scope pos) (tScI X.w wi g te (own.map (·.2))) := by
  refine ⟨fun pins s σ H Q I start => ?_⟩
  rw [eval_SetComp]
  have cellOf : ∀ y ∈ scope.names, y.2 = .free → ∃ c, X.env.cells.lookup y.1 = some c := fun y hy e => (ok.free y hy e).elim (fun k => I.ok.has _ (.inl k)) fun k => I.ok.has _ (.inr k)
  refine wpAny_comprehension_free (use := none) rfl fold (closure_ok cellOf) ok.kind (fun y hy e => (ok.uniq y hy).trans (by rw [e])) (thn (hi.run pins s σ H _ I start) fun _ s1 run1 => thn run1 fun _ s2 run2 => ?_)
  obtain ⟨it, fp, tn, J, H2, rfl, I2, T, walk2, free2, body⟩ := run2
  refine newSet_ok (newEnv_comp ?_)
  obtain ⟨D, eD⟩ : ∃ D, D = s2.heap.objs.size := ⟨_, rfl⟩
  rw [← eD]
  have newD : H2 D = none := I2.hok.fresh (by rw [eD]; exact Nat.le_refl _)
  -- the set, empty
  obtain ⟨ob, eob⟩ : ∃ ob : Obj, ob = { cls := .type "set", dict := none, data := .set #[] 0 (.fresh 0 0 (!X.w.params.followText "set-order")) } := ⟨_, rfl⟩
  obtain ⟨s3, e3⟩ : ∃ s3 : Shared, s3 = { s2 with heap := s2.heap.push ob } := ⟨_, rfl⟩
  have heap3 : s3.heap = s2.heap.push ob := by rw [e3]
  obtain ⟨H3, eH3⟩ : ∃ H3, H3 = upd H2 D (SetO X.w D (fun _ => false) 0) := ⟨_, rfl⟩
  have I3 : Inv X pins σ H3 s3 := by
    rw [e3, eH3, eD, eob]
    exact I2.laid (t' := s2.toks) (fun b o e => Heap.get?_push_of_some _ e) (Nat.le_refl _) (setO_new (setR_fresh X.w))
  have under : ∀ b ∈ fp, b < s2.heap.objs.size := fun b hb => let ⟨_, e, _⟩ := T.obj _ _ walk2 b hb; Heap.lt_size e
  have free3 : ∀ b ∈ fp, FpOk X pins H3 b ∧ b < s3.heap.objs.size := fun b hb => by
    have lt := under b hb
    refine ⟨⟨?_, (free2 b hb).2⟩, by rw [heap3, Heap.size_push]; exact Nat.lt_succ_of_lt lt⟩
    rw [eH3, upd_ne (by rw [eD]; exact Nat.ne_of_lt lt)]
    exact (free2 b hb).1
  have walk3 : tn 0 s3.heap := T.keep _ _ _ walk2 fun b _ o e => by rw [heap3]; exact Heap.get?_push_of_some _ e
  obtain ⟨W, ⟨m0, w0⟩, turns⟩ := body D newD
  rw [← eH3] at w0
  have I4 := block_start I3 ok nd free3
  have goes := hg s3 H3 s3.heap.objs.size (cellsFrom (s3.heap.objs.size + 1) scope.names (cloFrom X.env.cells scope.names [])) fp
  have elem := he s3 H3 s3.heap.objs.size (cellsFrom (s3.heap.objs.size + 1) scope.names (cloFrom X.env.cells scope.names [])) fp
  rw [← eob]
  have shown : ({ s2 with heap := s2.heap.push ob } : Shared) = s3 := e3.symm
  rw [shown]
  show codeAny _ _ (.compStart (.SetComp elt [⟨tg, iter, [], 0⟩] scope pos) 0 (.ref it) (.ref D) (compEnvC scope (cellsFrom (s3.heap.objs.size + 1) scope.names (cloFrom X.env.cells scope.names [])) s3.heap.objs.size X.env)) (compPost (model X.prog X.w) X.A X.xe none (EP X pins σ Q) (.ref D) s3.heap.objs.size) { s3 with heap := pushCells (s3.heap.push { cls := .type "dict", data := .dict #[] }) scope.names }
  have locD : (compEnvC scope (cellsFrom (s3.heap.objs.size + 1) scope.names (cloFrom X.env.cells scope.names [])) s3.heap.objs.size X.env).locals = s3.heap.objs.size := rfl
  generalize compEnvC scope (cellsFrom (s3.heap.objs.size + 1) scope.names (cloFrom X.env.cells scope.names [])) s3.heap.objs.size X.env = ce at I4 goes elem locD ⊢
  obtain ⟨s4, e4⟩ : ∃ s4 : Shared, s4 = { s3 with heap := pushCells (s3.heap.push { cls := .type "dict", data := .dict #[] }) scope.names } := ⟨_, rfl⟩
  rw [← e4] at I4 ⊢
  have walk4 : tn 0 s4.heap := T.keep _ _ _ walk3 fun b _ o e => by rw [e4]; exact pushCells_keeps _ _ _ _ (Heap.get?_push_of_some _ e)
  have still : ∀ {σ' : L2.St} {H' : Hp} {s' : Shared}, Inv (X.blk s3 H3 scope ce fp) [] σ' H' s' → (∀ b ∈ fp, H' b = none) → ∀ b ∈ fp, FpOk (X.blk s3 H3 scope ce fp) [] H' b := fun {σ' H' s'} I' hn b hb =>
    ⟨hn b hb, (I'.ok.exf b hb).1, I'.ok.exfs b hb, .inl hb, fun x c e => (I'.ok.exf b hb).2 x c e, fun p hp => absurd (show p ∈ ([] : List (Addr × Obj)) ++ [] from hp) (by simp)⟩
  have loop : codeAny (model X.prog X.w) X.A (.compLoop (.SetComp elt [⟨tg, iter, [], 0⟩] scope pos) 0 (.ref it) (.ref D) ce) (compPost (model X.prog X.w) X.A X.xe none (EP X pins σ Q) (.ref D) s3.heap.objs.size) s4 := by
    refine compLoopS_any (fun n s' => ∃ i H', Inv (X.blk s3 H3 scope ce fp) [] (wipe σ (own.map (·.2))) H' s' ∧ tn i s'.heap ∧ (∀ b ∈ fp, H' b = none) ∧ W i n H') (fun n s5 inv5 => ?_) m0 ⟨0, H3, I4, walk4, fun b hb => (free3 b hb).1.1, w0⟩
    obtain ⟨i, H5, I5, walk5, none5, w5⟩ := inv5
    rcases turns i n H5 w5 with ⟨stop, last⟩ | ⟨go, Nx, next, step⟩
    · refine thnF (T.done (X.blk s3 H3 scope ce fp) rfl rfl rfl calm i [] s5 _ H5 (fun _ _ => False) I5 (still I5 none5) walk5 stop) fun r s6 ⟨er, I6⟩ => ?_
      subst er
      have back : Inv X pins σ H5 s6 := I3.call' (ch := fp) I6.os I6.base I6.hok I6.bare fun b hb => let z := (free3 b hb).1; ⟨z.2.2.2.1, z.2.1, z.2.2.2.2.1, z.2.2.2.2.2⟩
      have gone : H5 s3.heap.objs.size = none := by
        have z : H5 ce.locals = none := I6.free
        rwa [locD] at z
      obtain ⟨m, ns, _⟩ := I6.loc
      have ns : s6.heap.Ns ce.locals m := ns
      rw [locD] at ns
      refine ⟨m, ns, fun h7 only => ?_⟩
      obtain ⟨f0, f1, f2, f3, f4, f5⟩ := I3.fpOk (Nat.le_refl _) gone
      exact ⟨.ref D, H5, back.turned (t' := s6.toks) (fun b o hb e => (only.2 b hb).trans e) f0 f1 f3 f4 f5, rfl, last⟩
    · refine thnF (T.item (X.blk s3 H3 scope ce fp) rfl rfl rfl calm i [] s5 _ H5 (fun _ _ => False) I5 (still I5 none5) walk5 go) fun r s6 ⟨u, er, run6⟩ => ?_
      subst er
      refine thnF run6 fun _ s7 ⟨x, H7, I7, rx, yl, walk7, none7⟩ => ?_
      have pinned := I7.pinned (still I7 none7) (T.obj _ _ walk7)
      refine thnF (goes.run _ s7 _ H7 x u _ pinned rx (step x H7 yl)) fun _ s8 ⟨σ8, H8, I8, same8, q8⟩ => ?_
      have done : ∀ {s' : Shared} {H' : Hp}, Inv (X.blk s3 H3 scope ce fp) ([] ++ pinsAt fp s7.heap) σ8 H' s' → Nx H' → ∃ m, m < n ∧ ∃ i H', Inv (X.blk s3 H3 scope ce fp) [] (wipe σ (own.map (·.2))) H' s' ∧ tn i s'.heap ∧ (∀ b ∈ fp, H' b = none) ∧ W i m H' := fun {s' H'} I' nx => by
        obtain ⟨m', lt, w'⟩ := next H' nx
        have pin' : ∀ b ∈ fp, ∀ o, s7.heap.get? b = some o → s'.heap.get? b = some o ∧ H' b = none := fun b hb o e => ⟨(I'.pin (b, o) (List.mem_append_right _ (List.mem_append_right _ (mem_pinsAt hb e)))).1, (I'.pin (b, o) (List.mem_append_right _ (List.mem_append_right _ (mem_pinsAt hb e)))).2.1⟩
        refine ⟨m', lt, i + 1, H', (I'.unpinned (pins := [])).weak (by rw [← same8, wipe_length]) (fun j v e => (wipe_some (by rw [same8]; exact e)).1), T.keep _ _ _ walk7 fun b hb o e => (pin' b hb o e).1, fun b hb => ?_, w'⟩
        obtain ⟨o, e, _⟩ := T.obj _ _ walk7 b hb
        exact (pin' b hb o e).2
      refine thnF ((pts_nil (X := X.blk s3 H3 scope ce fp)).run _ s8 σ8 H8 (fun b H9 => b = true ∧ H9 = H8) I8 (show _ from ⟨rfl, rfl⟩)) fun b s9 ⟨H9, I9, eb, e9⟩ => ?_
      subst eb e9
      rw [if_pos rfl]
      refine thnF (elem.run _ s9 σ8 _ _ I9 q8) fun z s10 ⟨yv, H10, I10, ry, c, S, k, ey, atD, few, nx⟩ => ?_
      subst ey
      obtain ⟨tk, ez⟩ := (show ∃ t, z = Value.int c t from ry)
      subst ez
      exact put_int (X := X.blk s3 H3 scope ce fp) I10 atD few fun s11 I11 => done I11 nx
  exact codeAny_compStart_set loop (T.self X.A 0 _ _ _ walk4 loop)
end
end Odd

namespace Odd
open PySem PySem.Spec PyProof.Rows L2
/-! ### the set of what a tuple's items give -/
section
variable {w : World} {K : PySem.W.Frag} {a : Addr} {xs : List V} {σ : L2.St} {H : Hp} {Q : VK} {tl te : TE} {vs : List Nat} {j : Nat}
theorem c_scT (ys : List Int) (hl : ys.length = xs.length) (h63 : xs.length ≤ 63) (hx : SqT K H a xs) (hw : ∀ x, wipe ((wipe σ vs).set j (some x)) vs = wipe σ vs)
    (turn : ∀ (i : Nat) x y H', xs[i]? = some x → ys[i]? = some y → Same H H' → ∀ R : VK, (∀ H4, Same H' H4 → R (.int y) H4) → te ((wipe σ vs).set j (some x)) H' R)
    (q : ∀ D n H', H D = none → Same H H' → n ≤ ys.length → H' D = some (SetO w D (fun k => decide (k ∈ ys)) n) → Q (.ref D) H')
    (ht : ∀ R : VK, R (.ref a) H → tl σ H R) : tScI w (iSeq K tl) (gName j) te vs σ H Q :=
  ht _ ⟨a, rfl, .inr ⟨⟨xs, hx⟩, fun D hD => ⟨fun i m H1 => m = xs.length - i ∧ i ≤ xs.length ∧ Same H H1 ∧ ∃ n, n ≤ i ∧ H1 D = some (SetO w D (fun k => decide (k ∈ ys.take i)) n),
    ⟨xs.length, rfl, Nat.zero_le _, same_new hD, 0, Nat.le_refl _, by
      rw [upd_same]
      exact congrArg (fun S => some (SetO w D S 0)) (funext fun k => by simp)⟩, fun i m H1 z => by
    obtain ⟨rfl, hi, s1, n, hn, d1⟩ := z
    by_cases hlt : i < xs.length
    · refine .inr ⟨⟨xs, xs[i], same_t s1 hx, by simp [hlt]⟩, fun H' => i + 1 ≤ xs.length ∧ Same H H' ∧ ∃ n, n ≤ i + 1 ∧ H' D = some (SetO w D (fun k => decide (k ∈ ys.take (i + 1))) n), fun H' h => ⟨xs.length - (i + 1), by omega, rfl, h.1, h.2⟩, fun x H' y => ?_⟩
      obtain ⟨e1, e2⟩ := y
      subst e1
      have hy : i < ys.length := by omega
      refine ⟨hw x, turn i x ys[i] _ (e2 xs (same_t s1 hx)) (List.getElem?_eq_getElem hy) s1 _ fun H4 s4 => ?_⟩
      refine ⟨ys[i], _, n, rfl, s4 _ _ d1, Nat.lt_of_le_of_lt (show n + 1 ≤ 64 by omega) (by decide), hlt, same_mut (s1.trans s4) hD, (if decide (ys[i] ∈ ys.take i) = true then n else n + 1), ?_, ?_⟩
      · split <;> omega
      · rw [upd_same]
        refine congrArg (fun S => some (SetO w D S _)) (funext fun k => ?_)
        rw [List.take_add_one, List.getElem?_eq_getElem hy, Bool.eq_iff_iff, Bool.or_eq_true, decide_eq_true_iff, decide_eq_true_iff, decide_eq_true_iff, List.mem_append]
        show _ ∨ _ ↔ _ ∨ k ∈ [ys[i]]
        rw [List.mem_singleton]
    · obtain rfl : i = xs.length := by omega
      rw [List.take_of_length_le (by omega)] at d1
      exact .inl ⟨⟨xs, same_t s1 hx, Nat.le_refl _⟩, q D n H1 hD s1 (by omega) d1⟩⟩⟩⟩
end
section
variable {X0 : Cx} {E : XK} {H : Hp} {Q : VK}
theorem s_sortSet {a : Addr} {S : Int → Bool} {n : Nat} (hc : X0.calm = true) (ha : H a = some (SetO X0.w a S n)) (h64 : n < 64)
    (q : ∀ (ns : List Int) (p : Addr), ns.Pairwise (· < ·) → (∀ k : Int, k ∈ ns ↔ S k = true) → H p = none → Q (.ref p) (upd H p (.lst (ns.map V.int)))) : ∃ r, CaD X0 E (.builtin "sorted") r ∧ r [.ref a] H Q :=
  ⟨rSortedSet X0.w, fun X l _ => by rw [← l.w]; exact cr_sortedSet (by rw [l.calm]; exact hc), a, S, n, rfl, ha, h64, fun ns p h1 h2 _ h4 => q ns p h1 h2 h4⟩
end
theorem asc_ext {xs ys : List Int} (hx : xs.Pairwise (· < ·)) (hy : ys.Pairwise (· < ·)) (h : ∀ k, k ∈ xs ↔ k ∈ ys) : xs = ys := by
  have nd : ∀ {l : List Int}, l.Pairwise (· < ·) → l.Nodup := fun p => p.imp fun h => by omega
  refine List.Perm.eq_of_pairwise (le := fun a b : Int => a ≤ b) (fun a b _ _ h1 h2 => Int.le_antisymm h1 h2) (hx.imp fun h => by omega) (hy.imp fun h => by omega) ?_
  rw [List.perm_iff_count]
  intro c
  rw [List.Nodup.count (nd hx), List.Nodup.count (nd hy)]
  by_cases z : c ∈ xs
  · rw [if_pos z, if_pos ((h c).1 z)]
  · rw [if_neg z, if_neg fun u => z ((h c).2 u)]
end Odd

namespace Odd
open PySem PySem.Spec PyProof.Rows L2 SeqAt
/-! ### two tuples of the very same objects -/
theorem vals_refs : ∀ {ps : List Addr} {us : List Value}, Vals (ps.map V.ref) us → us = ps.map Value.ref
  | [], _, .nil => rfl
  | p :: ps, _, .cons r h => by
    rw [show _ = Value.ref p from r, vals_refs h]
    rfl
def rSameT (K : PySem.W.Frag) : R2 := fun x y H Q => ∃ (a b : Addr) (ps : List Addr), x = .ref a ∧ y = .ref b ∧ SqT K H a (ps.map V.ref) ∧ SqT K H b (ps.map V.ref) ∧ Q (.bl true) H
theorem op_sameT {X : Cx} (hu : X.A.units < cLine) : OpR X (compareOp .Eq) (rSameT X.K) := by
  intro pins s σ H x y v u Q I rx ry h
  obtain ⟨a, b, ps, rfl, rfl, ha, hb, q⟩ := h
  cases rx
  cases ry
  obtain ⟨its, r1, p1, _⟩ := I.tuple ha
  obtain ⟨its2, r2, p2, _⟩ := I.tuple hb
  obtain rfl := vals_refs r1
  obtain rfl := vals_refs r2
  have R := RcAt.tuples (A := X.A) (s := s) (e := fun _ => true) p1 p2 hu fun j h1 h2 => EqAt.same _
  rw [show ((List.range (min (ps.map Value.ref).toArray.size (ps.map Value.ref).toArray.size)).all (fun _ => true) && (ps.map Value.ref).toArray.size == (ps.map Value.ref).toArray.size) = true by simp] at R
  have z : wpAny (model X.prog X.w) X.A (compareOp .Eq (.ref a) (.ref b)) (EP X pins σ Q) X.xe s := R X.prog X.w X.xe (EP X pins σ Q) ⟨.bl _, H, I, rfl, q⟩
  exact z
theorem s_sameT {X0 : Cx} {E : XK} {H : Hp} {Q : VK} {a b : Addr} {ps : List Addr} (hu : X0.A.units + 64 < cLine) (ha : SqT X0.K H a (ps.map V.ref)) (hb : SqT X0.K H b (ps.map V.ref)) (q : Q (.bl true) H) : ∃ r, OpD X0 E (compareOp .Eq) r ∧ r (.ref a) (.ref b) H Q :=
  ⟨rSameT X0.K, fun X l _ => by rw [← l.K]; exact op_sameT (by rw [l.A]; omega), a, b, ps, rfl, rfl, ha, hb, q⟩
theorem w_bm0 {K : PySem.W.Frag} {T : String} {r : V → List V → Hp → VK → Prop} {to : TE} {σ : L2.St} {H : Hp} {Q : VK} (h : to σ H fun x H1 => tyV K T x H1 ∧ r x [] H1 Q) : tBM0 K T r to σ H Q := h
end Odd

namespace Odd
open PySem PySem.Spec PyProof.Rows L2
/-! ### dicts with tuples as keys -/
section
variable {X0 : Cx} {E : XK} {H : Hp} {Q : VK}
theorem s_ixDT {k : Nat} {p b : Addr} {kvs : List (List Key × V)} {key : List Key} {v : V} (hr : Room k X0.A) (h : H p = some (.dT kvs)) (hb : H b = some (.tup (key.map kV))) (e : valV kvs key = some v) (q : Q v H) : ∃ r, IxD X0 E r ∧ r (.ref p) (.ref b) H Q :=
  ⟨rIxK, fun X l _ => ix_dict (hu1 (l.room hr)), p, v, rfl, by rw [← e]; exact DGet.t h hb, q⟩
def rNotInD : R2 := fun x y H Q => ∃ (a : Addr) (o : Option V), y = .ref a ∧ DGet H a x o ∧ Q (.bl (!o.isSome)) H
theorem op_notInD {X : Cx} (hu : X.A.units + 1 < cLine) : OpR X (compareOp .NotIn) rNotInD := by
  intro pins s σ H x y v u Q I rx ry h
  obtain ⟨a, o, rfl, g, q⟩ := h
  obtain rfl : u = Value.ref a := ry
  exact d_notIn hu I g rx fun s' I' => ⟨.bl _, H, I', rfl, q⟩
theorem s_notInDT {k : Nat} {p b : Addr} {kvs : List (List Key × V)} {key : List Key} (hr : Room k X0.A) (h : H p = some (.dT kvs)) (hb : H b = some (.tup (key.map kV))) (q : Q (.bl (!(valV kvs key).isSome)) H) : ∃ r, OpD X0 E (compareOp .NotIn) r ∧ r (.ref b) (.ref p) H Q :=
  ⟨rNotInD, fun X l _ => op_notInD (hu1 (l.room hr)), p, _, rfl, DGet.t h hb, q⟩
end
end Odd

namespace Odd
open PySem PySem.Spec PyProof.Rows L2
/-! ### {t: v}, t a tuple -/
section
variable {X0 X : Cx}
def tDispT (X0 : Cx) (tk tv : TE) : TE := fun σ H Q => X0.A.units + 1 < cLine ∧ ∀ p, H p = none → tPairs [(tk, tv)] σ (upd H p (.dT [])) fun ps H2 =>
  ∃ (b : Addr) (key : List Key) (y : V), ps = [(.ref b, y)] ∧ H2 b = some (.tup (key.map kV)) ∧ H2 p = some (.dT []) ∧ Q (.ref p) (upd H2 p (.dT [(key, y)]))
theorem pe_dispT {k v : Expr} {pos : Pos} {tk tv : TE} (l : Like X0 X) (hk : PE X k tk) (hv : PE X v tv) : PE X (.Dict [some k] [v] pos) (tDispT X0 tk tv) := by
  refine ⟨fun pins s σ H Q I ⟨hu, q⟩ => ?_⟩
  rw [← l.A] at hu
  have fresh := I.hok.fresh (Nat.le_refl s.heap.objs.size)
  have I1 := I.laid (a := s.heap.objs.size) (o := .dT []) (h' := s.heap.push { cls := .type "dict", data := .dict #[] }) (t' := s.toks) (fun _ _ q => Heap.get?_push_of_some _ q) (Nat.le_refl _) (dt_empty s.heap I.big)
  refine wpAny_Dict_any rfl rfl (by simp) (by show 1 ≤ 15; decide) ?_
  refine thn ((pps_cons hk hv pps_nil).run pins _ σ _ _ I1 (q _ fresh)) fun ws s2 ⟨ps, H2, I2, rel, b, key, y, ep, eb, ed, qq⟩ => ?_
  subst ep
  obtain ⟨u, r, rfl, ru, ry⟩ : ∃ u r, ws = [(u, r)] ∧ RelV (.ref b) u ∧ RelV y r := by
    cases rel with
    | @cons a c as cs h t =>
      cases t
      exact ⟨c.1, c.2, rfl, h.1, h.2⟩
  cases (show u = Value.ref b from ru)
  obtain ⟨z, hd, xs, kt, dd⟩ := dt_of I2.hok ed
  have hz : xs.length ≤ sizeLine := by rw [← Paired.length kt]; exact z
  unfold storeAll
  rw [List.forIn_cons]
  refine wpAny_bind (wpAny_bind (wpAny_dictSet_heap (hsz := hz) (knd := tupleKind (mixKind X.prog X.w)) (show X.A.units < cLine by omega) (key_of I2.hok eb) dd fun h' dd' hs => wpAny_pure ?_))
  dsimp only
  rw [List.forIn_nil]
  refine wpAny_pure ⟨.ref s.heap.objs.size, _, ?_, rfl, qq⟩
  obtain ⟨o, es, ep, ho, h2, h3, h4, _, h5⟩ := dd'
  refine d_write I2 (by rw [ed]; exact True.intro) hs ⟨o, ho⟩ ⟨by show 1 ≤ sizeLine; decide, hd, _, (kt.put key eb ry).keeps fun c ys ec => ?_, o, es, ep, ho, h2, h3, h4, h5⟩
  rw [upd_ne (ne_of ec ed (fun z => nomatch z))]
  exact ec
theorem w_dispT {tk tv : TE} {σ : L2.St} {H : Hp} {Q : VK} (hu : X0.A.units + 64 < cLine) (h : ∀ p, H p = none → tk σ (upd H p (.dT [])) fun x H1 => tv σ H1 fun y H2 => ∃ (b : Addr) (key : List Key) (z : V), [(x, y)] = [(V.ref b, z)] ∧ H2 b = some (.tup (key.map kV)) ∧ H2 p = some (.dT []) ∧ Q (.ref p) (upd H2 p (.dT [(key, z)]))) : tDispT X0 tk tv σ H Q := ⟨by omega, h⟩
end
end Odd

namespace Odd
open PySem PySem.Spec PyProof.Rows L2
/-! ### a set made of a list of ints -/
abbrev noSet (w : World) : Obj := { cls := .type "set", dict := none, data := .set #[] 0 (.fresh 0 0 (!w.params.followText "set-order")) }
section
variable {P : Program} {w : World} {A : Around} {E : Value → Shared → Prop} {s : Shared}
/-- what the set's own start does with a list of ints -/
theorem start_set {l : Addr} {items : Array Value} {ns : List Int} {s : Shared} (hh : A.handled = none) (hl : s.heap.IsList l items) (hit : IntsAre items.toList ns) (few : ns.length + 1 < scanBound) :
    codeAny (model P w) A (.call (.builtin "set.__init__") ⟨[.ref s.heap.objs.size, .ref l], []⟩) (wants (fun r s₂ => r = .none ∧ ∃ h' tk c, s₂ = { s with heap := h', toks := tk } ∧ SetR w h' s.heap.objs.size (fun j => decide (j ∈ ns)) c ∧ c ≤ ns.length ∧
      ∀ b o, s.heap.get? b = some o → h'.get? b = some o) E) { s with heap := s.heap.push (noSet w) } := by
  have old : ∀ {b : Addr} {o : Obj}, s.heap.get? b = some o → (s.heap.push (noSet w)).get? b = some o := fun e => Heap.get?_push_of_some _ e
  have mine : (s.heap.push (noSet w)).get? s.heap.objs.size = some (noSet w) := Heap.get?_push_size _ rfl
  have ty : Shared.TypeIs { s with heap := s.heap.push (noSet w) } (.ref s.heap.objs.size) "set" := ⟨_, mine, rfl⟩
  have many : items.size = ns.length := by rw [← Array.length_toList]; exact IntsAre.length hit
  refine codeAny_call_builtin F.called_set.init.plain F.entry_set_init (check_set_init_1 ty ?_)
  obtain ⟨⟨c0, d0, data0, sl0⟩, ho, hc, m0, hd⟩ := hl
  cases hc
  cases hd
  have low : l < s.heap.objs.size := Heap.lt_size ho
  have sz : (s.heap.push (noSet w)).objs.size = s.heap.objs.size + 1 := Heap.size_push ..
  have there := old ho
  have isl : (s.heap.push (noSet w)).IsList l items := ⟨_, there, rfl, m0, rfl⟩
  have n1 := F.sub_list_set
  have n2 := F.sub_list_frozenset
  have n3 : (Value.type "list" == Value.type "dict") = false := by decide
  unfold Builtin.«set.__init__» noKeywords Builtin.Frozenset.updateFrom
  generalize hg : pyIter = PI
  wp_walk
  subst hg
  refine wpAny_pyIter_list isl (wpAny_bind (wpAny_runValue ?_))
  have apart : l ≠ (s.heap.push (noSet w)).objs.size := by rw [sz]; exact Nat.ne_of_lt (Nat.lt_succ_of_lt low)
  have off : s.heap.objs.size ∉ [(s.heap.push (noSet w)).objs.size, l] := fun z => by
    rcases List.mem_cons.1 z with z | z
    · rw [sz] at z
      exact absurd z (Nat.ne_of_lt (Nat.lt_succ_self _))
    · exact absurd (List.mem_singleton.1 z) (Nat.ne_of_gt low)
  refine set_update_ints (Walks.list (by show A.handled = none; exact hh) _ l apart items).toS s.heap.objs.size off ns many few (fun i v hv => ?_) items.size 0 _ (Nat.sub_zero _) (Nat.zero_le _) ⟨⟨_, Heap.get?_push_size _ rfl, rfl, rfl⟩, isl.push _⟩ ⟨0, Nat.le_refl 0, setR_new_at (Heap.get?_push_of_some _ mine)⟩ fun s2 c2 mv hc2 hS2 => ?_
  · have hi : i < ns.length := by rw [← many]; exact (Array.getElem?_eq_some_iff.1 hv).1
    obtain ⟨t, et⟩ := IntsAre.int_at hit i v (by rw [Array.getElem?_toList]; exact hv)
    exact ⟨ns[i], t, List.getElem?_eq_getElem hi, by rw [et, List.getD_eq_getElem?_getD, List.getElem?_eq_getElem hi] <;> rfl⟩
  · obtain ⟨h2, gens, drawn, tk2, os2⟩ := s2
    cases (show gens = s.gens from mv.gens)
    cases (show drawn = s.drawn from mv.drawn)
    cases (show os2 = s.os from mv.os)
    refine wpAny_pure (wpAny_pure ⟨rfl, h2, tk2, c2, rfl, hS2, by omega, fun b o e => ?_⟩)
    have hb := Heap.lt_size e
    refine mv.heap b o (fun z => ?_) (Heap.get?_push_of_some _ (old e))
    rcases List.mem_cons.1 z with z | z
    · exact absurd z (Nat.ne_of_lt hb)
    · have z := List.mem_singleton.1 z
      rw [sz] at z
      exact absurd z (Nat.ne_of_lt (Nat.lt_succ_of_lt hb))
theorem set_of_list {l : Addr} {items : Array Value} {ns : List Int} {Q : Value → Shared → Prop} (hh : A.handled = none) (hl : s.heap.IsList l items) (hit : IntsAre items.toList ns) (few : ns.length + 1 < scanBound)
    (h : ∀ h' tk c, SetR w h' s.heap.objs.size (fun j => decide (j ∈ ns)) c → c ≤ ns.length → (∀ b o, s.heap.get? b = some o → h'.get? b = some o) → Q (.ref s.heap.objs.size) { s with heap := h', toks := tk }) : wpAny (model P w) A (call (.type "set") [.ref l]) Q E s := by
  obtain ⟨c, tl, mro⟩ := F.called_set.mro
  have a1 := F.called_set.made; have a2 := F.called_set.sub; have a3 := F.called_set.notType; have a4 := F.called_set.canCreate; have a5 := F.typeCall_set_1 (.ref l)
  refine wpAny_call (codeAny_of_tree (show wpAny _ _ (callAny (.type "set") _) _ _ _ from wpAny_pure ⟨Code.quiet_builtin _ (by decide +kernel), codeAny_builtin F.entry_type_call ?_⟩))
  rw [Around.under_plain (weight_type_call_type "set" [.ref l] []) rfl]
  repeat any_goals first | assumption | wp_step
  refine codeAny_mono (code_set_led1 (.ref l) (E := E) (Q₁ := fun ob s1 => ob = .ref s.heap.objs.size ∧ s1 = { s with heap := s.heap.push (noSet w) }) ⟨rfl, rfl⟩) fun r s1 hr => ?_
  match r, hr with
  | .error e, hr => exact hr
  | .ok (.ret ob), hr =>
    obtain ⟨rfl, rfl⟩ := hr
    have b1 := F.called_set.init.lookup; have b2 := F.called_set.init.bind (.ref s.heap.objs.size)
    have ty : Shared.TypeIs { s with heap := s.heap.push (noSet w) } (.ref s.heap.objs.size) "set" := ⟨_, Heap.get?_push_size _ rfl, rfl⟩
    repeat any_goals first | assumption | wp_step
    refine codeAny_mono (start_set (E := E) (by exact hh) hl hit few) fun r2 s2 hr2 => ?_
    match r2, hr2 with
    | .error e, hr2 => exact hr2
    | .ok (.ret v), hr2 =>
      obtain ⟨rfl, h', tk, c', rfl, hS, hc, keep⟩ := hr2
      repeat any_goals first | assumption | wp_step
      exact h _ _ _ hS hc keep
end
section
variable {X0 : Cx} {E : XK} {H : Hp} {Q : VK}
theorem s_setOf {a : Addr} {ns : List Int} (hc : X0.calm = true) (ha : SqL X0.K H a (ns.map V.int)) (few : ns.length ≤ 63) (q : ∀ D n H', H D = none → n ≤ ns.length → Same H H' → H' D = some (SetO X0.w D (fun k => decide (k ∈ ns)) n) → Q (.ref D) H') : ∃ r, CaD X0 E (.type "set") r ∧ r [.ref a] H Q := by
  refine ⟨fun vs H Q => ∃ a ns, vs = [.ref a] ∧ SqL X0.K H a (ns.map V.int) ∧ ns.length ≤ 63 ∧ ∀ D n, H D = none → n ≤ ns.length → Q (.ref D) (upd H D (SetO X0.w D (fun k => decide (k ∈ ns)) n)), fun X l _ => ?_, a, ns, rfl, ha, few, fun D n h1 h2 => q D n _ h1 h2 (same_new h1) upd_same⟩
  intro pins s σ H xs us Q I r h
  obtain ⟨a, ns, rfl, hs, few, q⟩ := h
  rw [← l.K] at hs
  rw [← l.w] at q
  rw [Vals.ref1 r]
  obtain ⟨its, rl, p, hz⟩ := I.list hs
  refine set_of_list (I.ok.hd (l.calm.trans hc)) p.isList rl.ints (Nat.lt_of_le_of_lt (show _ ≤ 64 by omega) (by decide)) fun h' tk c hS hn keep => ?_
  exact ⟨.ref _, _, I.laid (t' := tk) keep (Nat.le_refl _) (setO_new hS), rfl, q _ c (I.hok.fresh (Nat.le_refl _)) hn⟩
/-- x in, not in a list of data -/
theorem s_inD {x : V} {d : PyData} {l : Addr} {ds : List PyData} (hu : X0.A.units + 65 < cLine) (hx : Dp X0.K H x d) (hl : Dp X0.K H (.ref l) (.list ds)) (h1 : SeqAt.shaped d = true) (h2 : SeqAt.shaped (.list ds) = true) (q : Q (.bl (ds.any fun z => PyData.eqv z d)) H) : ∃ r, OpD X0 E (compareOp .In) r ∧ r x (.ref l) H Q :=
  ⟨L2.rInD X0.K, fun X l _ => by rw [← l.K]; exact L2.op_inD (by rw [l.A]; exact hu), d, ds, hx, hl, h1, h2, q⟩
theorem s_notInD {x : V} {d : PyData} {l : Addr} {ds : List PyData} (hu : X0.A.units + 65 < cLine) (hx : Dp X0.K H x d) (hl : Dp X0.K H (.ref l) (.list ds)) (h1 : SeqAt.shaped d = true) (h2 : SeqAt.shaped (.list ds) = true) (q : Q (.bl (!ds.any fun z => PyData.eqv z d)) H) : ∃ r, OpD X0 E (compareOp .NotIn) r ∧ r x (.ref l) H Q :=
  ⟨L2.rNotInD X0.K, fun X l _ => by rw [← l.K]; exact L2.op_notInD (by rw [l.A]; exact hu), d, ds, hx, hl, h1, h2, q⟩
end
end Odd

namespace Odd
open PySem PySem.Spec PyProof.Rows L2 LamX NdefX
/-! ### e(), e an expression that gives a lambda of this def -/
def tActE (X : Cx) (E : XK) (te : TE) : TE := fun σ H Q => te σ H fun y H1 => ∀ B, CellsB X σ B → ∃ (f : Addr) (F : NF) (bd : Expr) (dV : Value) (k : Nat), y = .ref f ∧ H1 f = some (LamO f F bd dV) ∧ CallAt X.prog X.w X.K X.mg B k f H1 Q E ∧ Room k X.A
theorem pe_actE {X : Cx} {E : XK} {o : Expr} {te : TE} {pos : Pos} (h : Pas X E) (hfn : ∀ x, X.fn x = true) (ho : PE X o te)
    (ht : eval (.Call o [] [] pos) X.env = (do callWith pos (← eval o X.env) [] (backTo pos (starEach [] X.env)) (backToKw pos (keywordEach [] X.env))) := by rfl) : PE X (.Call o [] [] pos) (tActE X E te) := by
  refine ⟨fun pins s σ H Q I hq => ?_⟩
  refine Call_ (thn (ho.run pins s σ H _ I hq) fun u s1 ⟨y, H1, I1, ry, q⟩ => ?_) ht
  obtain ⟨f, F, bd, dV, k, ey, hf, hc, hr⟩ := q _ (cells_sub I1 (cells_nofr I1 hfn))
  subst ey
  obtain rfl : u = Value.ref f := ry
  obtain ⟨od, sl, doc, pm, ctv, hob⟩ := lamO_at I1.hok hf
  refine PySem.W.callWith_F0 ⟨_, _, _, _, hob⟩ (wpAny_call (codeAny_mono (hc X.A X.stack s1 hr (env0_sub I1)) fun r s' hq => ?_))
  match r, hq with
  | .error e, hq => exact h pins σ H1 s1 e s' I1 hq
  | .ok (.ret v), hq => exact I1.after hq
theorem w_actE {X : Cx} {E : XK} {te : TE} {σ : L2.St} {H : Hp} {Q : VK} (h : te σ H fun y H1 => ∀ B, CellsB X σ B → ∃ (f : Addr) (F : NF) (bd : Expr) (dV : Value) (k : Nat), y = .ref f ∧ H1 f = some (LamO f F bd dV) ∧ CallAt X.prog X.w X.K X.mg B k f H1 Q E ∧ Room k X.A) : tActE X E te σ H Q := h
/-! ### sorted of at most one tuple -/
theorem perm01 {α : Type} : ∀ {xs ys : List α}, xs.length ≤ 1 → ys.Perm xs → ys = xs
  | [], _, _, h => h.eq_nil
  | [_], _, _, h => List.perm_singleton.1 h
  | _ :: _ :: _, _, h, _ => by simp at h
theorem s_sort01 {X0 : Cx} {E : XK} {H : Hp} {Q : VK} {a : Addr} {xs : List V} {d : Nat} {B : Int} (hd : 1 ≤ d) (ha : SqL X0.K H a xs) (hl : xs.length ≤ 1) (hx : ∀ x ∈ xs, ∃ ns, TupI X0.K H x ns ∧ ns.length = d ∧ TS.Bd B ns) (q : ∀ p, H p = none → Q (.ref p) (upd H p (.lst xs))) : ∃ r, CaD X0 E (.builtin "sorted") r ∧ r [.ref a] H Q := by
  refine ⟨rSortU X0.K d B, fun X l _ => by rw [← l.K]; exact cr_sortT hd, a, xs, rfl, ha, by omega, hx, fun ys p hp _ hn => ?_⟩
  rw [perm01 hl hp]
  exact q p hn
end Odd

namespace Odd
open PySem PySem.Spec PyProof.Rows L2
/-! ### bits: 1 << k, n & (1 << k), n.bit_length() -/
section
variable {X0 : Cx} {E : XK} {H : Hp} {Q : VK}
theorem s_oneShl {k : Nat} (hk : k ≤ 1000) (q : Q (.int (2 ^ k)) H) : ∃ r, OpD X0 E (binaryOp .LShift) r ∧ r (.int 1) (.int (k : Nat)) H Q := ⟨_, fun _ _ _ => op_oneShl, k, rfl, rfl, Nat.le_trans hk (by decide), q⟩
theorem s_absZ {i : Int} (q : Q (.int (if i < 0 then -i else i)) H) : ∃ r, CaD X0 E (.builtin "abs") r ∧ r [.int i] H Q := ⟨_, fun _ _ _ => call_abs, i, rfl, q⟩
theorem s_allL {a : Addr} {bs : List Bool} (hc : X0.calm = true) (h : SqL X0.K H a (bs.map V.bl)) (q : Q (.bl (bs.all id)) H) : ∃ r, CaD X0 E (.builtin "all") r ∧ r [.ref a] H Q :=
  ⟨rAll X0.K, fun X l _ => by rw [← l.K]; exact cr_all (l.calm.trans hc), a, bs, rfl, h, q⟩
theorem s_band {i j : Int} (q : Q (.int (Builtin.bitAnd i j)) H) : ∃ r, OpD X0 E (binaryOp .BitAnd) r ∧ r (.int i) (.int j) H Q := ⟨_, fun _ _ _ => op_and, i, j, rfl, rfl, q⟩
end
/-- a.join(e), within a comprehension -/
theorem pe_joinA {X0 X : Cx} {o e : Expr} {to te : TE} {apos pos : Pos} (l : Like X0 X) (ho : PE X o to) (he : PE X e te) (hs : starEach [e] X.env = [(false, eval e X.env)] := by rfl) (hbase : attributeBase o "join" X.env (eval o X.env) = eval o X.env := by rfl) (hline : (apos.endLine == pos.line) = true := by rfl) :
    PE X (.Call (.Attribute o "join" apos) [e] [] pos) (tM1 (fun x xs H Q => ∃ a p, ∃ ys : List Str, x = .str a ∧ xs = [.ref p] ∧ (SqL X0.K H p (ys.map V.str) ∨ SqT X0.K H p (ys.map V.str)) ∧
      (ys.map (·.length)).sum + ys.length * a.length ≤ 16777216 ∧ Q (.str (Txt.join a ys)) H) to te) := by
  rw [← l.K]
  exact pe_join ho he hs hbase hline
theorem w_bits {to : TE} {σ : L2.St} {H : Hp} {Q : VK} (h : to σ H fun x H1 => ∃ i, x = .int i ∧ Q (.int (Builtin.Int.intBits i : Nat)) H1) : tBits to σ H Q := h
/-- which seats the bits of a number stand for -/
def bitSeats (m : Nat) : List Nat := (List.range (Builtin.Int.intBits (m : Int))).filter fun s => Builtin.bitAnd (m : Int) (2 ^ s) != 0
/-- the number that seats stand for -/
def bitSum (ss : List Nat) : Nat := (ss.map fun s => 2 ^ s).sum
/-- the lists of ascending seats from lo to 7 -/
def ascs : Nat → Nat → List (List Nat)
  | 0, _ => [[]]
  | f + 1, lo => ascs f (lo + 1) ++ (ascs f (lo + 1)).map (lo :: ·)
theorem bits_all : ∀ ss ∈ ascs 8 0, bitSeats (bitSum ss) = ss ∧ bitSum ss < 256 := by decide +kernel
end Odd

namespace Odd
open PySem PySem.Spec PyProof.Rows L2
/-! ### dicts whose keys are tables: tuples of tuples of numbers -/
def rowKey (r : List Int) : NestedKey := .tup (r.map .num)
def tabKey (rows : List (List Int)) : NestedKey := .tup (rows.map rowKey)
theorem num_inj : ∀ {r s : List Int}, r.map NestedKey.num = s.map NestedKey.num → r = s
  | [], [], _ => rfl
  | [], _ :: _, h => by cases h
  | _ :: _, [], h => by cases h
  | a :: r, b :: s, h => by
    injection h with h1 h2
    injection h1 with h3
    rw [h3, num_inj h2]
theorem tab_inj : ∀ {x y : List (List Int)}, x.map rowKey = y.map rowKey → x = y
  | [], [], _ => rfl
  | [], _ :: _, h => by cases h
  | _ :: _, [], h => by cases h
  | a :: r, b :: s, h => by
    injection h with h1 h2
    injection h1 with h3
    rw [num_inj h3, tab_inj h2]
theorem tabKey_inj {x y : List (List Int)} : tabKey x = tabKey y ↔ x = y := ⟨fun h => by injection h with h; exact tab_inj h, fun h => by rw [h]⟩
theorem num_depth : ∀ r : List Int, NestedKey.depthAll (r.map .num) = 0
  | [] => rfl
  | a :: r => by show max 0 (NestedKey.depthAll (r.map .num)) = 0; rw [num_depth r]; rfl
theorem row_depth : ∀ rows : List (List Int), NestedKey.depthAll (rows.map rowKey) ≤ 1
  | [] => Nat.zero_le _
  | r :: rows => by
    show max (NestedKey.depthAll (r.map .num) + 1) (NestedKey.depthAll (rows.map rowKey)) ≤ 1
    rw [num_depth]
    have := row_depth rows
    omega
theorem tab_depth (rows : List (List Int)) : (tabKey rows).depth ≤ 8 := by
  show NestedKey.depthAll (rows.map rowKey) + 1 ≤ 8
  have := row_depth rows
  omega
/-- the table rows stands at a, as a tuple of tuples -/
def KeyAt (H : Hp) (rows : List (List Int)) (a : Addr) : Prop := ∃ ps : List Addr, H a = some (.tup (ps.map V.ref)) ∧ ps.length = rows.length ∧ ∀ (i : Nat) p r, ps[i]? = some p → rows[i]? = some r → H p = some (.tup (r.map V.int))
theorem KeyAt.keep {H H' : Hp} {rows : List (List Int)} {a : Addr} (h : KeyAt H rows a) (k : ∀ p xs, H p = some (.tup xs) → H' p = some (.tup xs)) : KeyAt H' rows a := by
  obtain ⟨ps, h1, h2, h3⟩ := h
  exact ⟨ps, k _ _ h1, h2, fun i p r e1 e2 => k _ _ (h3 i p r e1 e2)⟩
section
variable {P : Program} {w : World} {H : Hp} {h : Heap}
theorem num_all : ∀ {r : List Int} {its : List Value}, Vals (r.map V.int) its → NestedAll h (r.map .num) its
  | [], _, q => by cases q; exact .nil
  | a :: r, _, q => by
    cases q with
    | cons q1 q2 =>
      obtain ⟨t, rfl⟩ := q1
      exact .cons (.int a t) (num_all q2)
theorem row_is (ok : HOk P w H h) {r : List Int} {p : Addr} (e : H p = some (.tup (r.map V.int))) : NestedIs h (rowKey r) (.ref p) := by
  obtain ⟨_, its, q, o, h1, h2, n, h3⟩ := (show ObjOk P w H h p (.tup (r.map V.int)) from ok p _ e)
  exact .tup h1 h2 h3 (by simpa using num_all q)
theorem rows_all (ok : HOk P w H h) : ∀ {ps : List Addr} {rows : List (List Int)} {its : List Value}, ps.length = rows.length → (∀ (i : Nat) p r, ps[i]? = some p → rows[i]? = some r → H p = some (.tup (r.map V.int))) → Vals (ps.map V.ref) its → NestedAll h (rows.map rowKey) its
  | [], [], _, _, _, q => by cases q; exact .nil
  | [], _ :: _, _, e, _, _ => by simp at e
  | _ :: _, [], _, e, _, _ => by simp at e
  | p :: ps, r :: rows, _, e, k, q => by
    cases q with
    | @cons _ u _ _ q1 q2 =>
      obtain rfl : u = Value.ref p := q1
      exact .cons (row_is ok (k 0 p r rfl rfl)) (rows_all ok (by simpa using e) (fun i p r e1 e2 => k (i + 1) p r e1 e2) q2)
theorem keyAt_is (ok : HOk P w H h) {rows : List (List Int)} {a : Addr} (k : KeyAt H rows a) : (nestedKind P w).is h (tabKey rows) a := by
  obtain ⟨ps, h1, h2, h3⟩ := k
  obtain ⟨_, its, q, o, e1, e2, n, e3⟩ := (show ObjOk P w H h a (.tup (ps.map V.ref)) from ok a _ h1)
  exact ⟨.tup e1 e2 e3 (by simpa using rows_all ok h2 h3 q), tab_depth rows⟩
end
/-- an entry: the table, where its tuple stands, the number -/
abbrev Ent := List (List Int) × Addr × Int
abbrev EntR (p : Ent) (q : NestedKey × Addr × Value) : Prop := q.1 = tabKey p.1 ∧ q.2.1 = p.2.1 ∧ ∃ t, q.2.2 = .int p.2.2 t
def NDat (P : Program) (w : World) (d : Addr) (kvs : List Ent) (h : Heap) : Prop := (d == sysModules) = false ∧ kvs.length ≤ 1000 ∧ ∃ xs : List (NestedKey × Addr × Value), Paired EntR kvs xs ∧
  ∃ o es ep, h.get? d = some o ∧ o.ExactDict ∧ o.data = .dict es ep ∧ es.toList = xs.map (entryOfKey (nestedKind P w)) ∧ (xs.map (·.1)).Nodup
/-- a dict of tables at d -/
def ND (P : Program) (w : World) (d : Addr) (kvs : List Ent) : HO := .ext (NDat P w d kvs)
theorem nd_ok {P : Program} {w : World} {H : Hp} {h : Heap} {d : Addr} {kvs : List Ent} (q : NDat P w d kvs h) : ObjOk P w H h d (ND P w d kvs) := by
  obtain ⟨z, l, xs, r, o, es, ep, e1, e2, e3, e4, e5⟩ := id q
  exact ⟨q, ⟨o, e1⟩, fun h1 h2 ⟨z, l, xs, r, o, es, ep, e1, e2, e3, e4, e5⟩ k => ⟨z, l, xs, r, o, es, ep, k o e1, e2, e3, e4, e5⟩⟩
def ndGet (kvs : List Ent) (key : List (List Int)) : Option Int := (kvs.find? fun p => decide (p.1 = key)).map (·.2.2)
def ndPut (kvs : List Ent) (key : List (List Int)) (a : Addr) (v : Int) : List Ent := if (ndGet kvs key).isSome then kvs.map (fun p => if p.1 = key then (p.1, p.2.1, v) else p) else kvs ++ [(key, a, v)]
theorem nd_get : ∀ {kvs : List Ent} {xs : List (NestedKey × Addr × Value)} (key : List (List Int)), Paired EntR kvs xs → (ndGet kvs key = none ∧ atKey xs (tabKey key) = none) ∨ ∃ i b t, ndGet kvs key = some i ∧ atKey xs (tabKey key) = some (b, .int i t)
  | [], [], key, _ => .inl ⟨rfl, rfl⟩
  | p :: kvs, q :: xs, key, .cons r rs => by
    obtain ⟨r1, r2, t, r3⟩ := r
    by_cases e : p.1 = key
    · refine .inr ⟨p.2.2, q.2.1, t, by simp [ndGet, e], ?_⟩
      have : q.1 = tabKey key := by rw [r1, e]
      simp [atKey, this, ← r3]
    · have ne : ¬ q.1 = tabKey key := fun z => e (tabKey_inj.1 (by rw [← r1, z]))
      rcases nd_get key rs with ⟨h1, h2⟩ | ⟨i, b, t, h1, h2⟩
      · exact .inl ⟨by simpa [ndGet, e] using h1, by simpa [atKey, ne] using h2⟩
      · exact .inr ⟨i, b, t, by simpa [ndGet, e] using h1, by simpa [atKey, ne] using h2⟩
theorem nd_put {kvs : List Ent} {xs : List (NestedKey × Addr × Value)} (key : List (List Int)) (a : Addr) (v : Int) (t : Tok) (r : Paired EntR kvs xs) : Paired EntR (ndPut kvs key a v) (storedH xs (tabKey key) a (.int v t)) := by
  have hm : ∀ {kvs : List Ent} {xs : List (NestedKey × Addr × Value)}, Paired EntR kvs xs → Paired EntR (kvs.map fun p => if p.1 = key then (p.1, p.2.1, v) else p) (xs.map (putAt (tabKey key) (.int v t))) := by
    intro kvs xs r
    induction r with
    | nil => exact .nil
    | @cons p q ps qs r rs ih =>
      refine .cons ?_ ih
      obtain ⟨r1, r2, t2, r3⟩ := r
      by_cases e : p.1 = key
      · have : q.1 = tabKey key := by rw [r1, e]
        show EntR (if p.1 = key then (p.1, p.2.1, v) else p) _
        rw [if_pos e]
        unfold putAt
        rw [if_pos this]
        exact ⟨r1, r2, t, rfl⟩
      · have ne : ¬ q.1 = tabKey key := fun z => e (tabKey_inj.1 (by rw [← r1, z]))
        show EntR (if p.1 = key then (p.1, p.2.1, v) else p) _
        rw [if_neg e]
        unfold putAt
        rw [if_neg ne]
        exact ⟨r1, r2, t2, r3⟩
  have hs : ∀ {kvs : List Ent} {xs : List (NestedKey × Addr × Value)}, Paired EntR kvs xs → Paired EntR (kvs ++ [(key, a, v)]) (xs ++ [(tabKey key, a, .int v t)]) := by
    intro kvs xs r
    induction r with
    | nil => exact .cons ⟨rfl, rfl, t, rfl⟩ .nil
    | cons r rs ih => exact .cons r ih
  unfold ndPut storedH
  rcases nd_get key r with ⟨h1, h2⟩ | ⟨i, b, t2, h1, h2⟩
  · rw [h1, h2]
    exact hs r
  · rw [h1, h2]
    exact hm r
theorem ndPut_len {kvs : List Ent} {key : List (List Int)} {a : Addr} {v : Int} : (ndPut kvs key a v).length ≤ kvs.length + 1 := by
  unfold ndPut
  split <;> simp
/-- all keys stand -/
def KeysAt (H : Hp) (kvs : List Ent) : Prop := ∀ p ∈ kvs, KeyAt H p.1 p.2.1
theorem KeysAt.put {H : Hp} {kvs : List Ent} {key : List (List Int)} {a : Addr} {v : Int} (h : KeysAt H kvs) (k : KeyAt H key a) : KeysAt H (ndPut kvs key a v) := by
  intro p hp
  unfold ndPut at hp
  split at hp
  · obtain ⟨q, hq, rfl⟩ := List.mem_map.1 hp
    have := h q hq
    split <;> exact this
  · rcases List.mem_append.1 hp with hp | hp
    · exact h p hp
    · rw [List.mem_singleton.1 hp]; exact k
theorem nd_keys {P : Program} {w : World} {H : Hp} {h : Heap} (ok : HOk P w H h) : ∀ {kvs : List Ent} {xs : List (NestedKey × Addr × Value)}, Paired EntR kvs xs → KeysAt H kvs → ∀ x ∈ xs, (nestedKind P w).is h x.1 x.2.1
  | [], [], _, _, x, hx => by simp at hx
  | p :: kvs, q :: xs, .cons r rs, k, x, hx => by
    rcases List.mem_cons.1 hx with rfl | hx
    · rw [r.1, r.2.1]
      exact keyAt_is ok (k p (List.mem_cons_self ..))
    · exact nd_keys ok rs (fun p hp => k p (List.mem_cons_of_mem _ hp)) x hx
/-- {}, to be a dict of tables -/
def tDNewN (P : Program) (w : World) : TE := fun _ H Q => ∀ p, H p = none → Q (.ref p) (upd H p (ND P w p []))
theorem pe_dnewN {X0 X : Cx} {pos : Pos} (l : Like X0 X) : PE X (.Dict [] [] pos) (tDNewN X0.prog X0.w) := by
  rw [← l.prog, ← l.w]
  exact ⟨fun pins s σ H Q I h => wpAny_Dict_empty ⟨.ref s.heap.objs.size, _, I.laid (a := s.heap.objs.size) (o := ND X.prog X.w s.heap.objs.size []) (t' := s.toks) (fun _ _ q => Heap.get?_push_of_some _ q) (Nat.le_refl _)
    (nd_ok ⟨beq_eq_false_iff_ne.mpr (Ne.symm (Nat.ne_of_lt I.big)), Nat.zero_le _, [], .nil, _, #[], 0, Heap.get?_push_size _ rfl, ⟨rfl, rfl, rfl⟩, rfl, rfl, List.nodup_nil⟩), rfl, h _ (I.hok.fresh (Nat.le_refl _))⟩⟩
theorem nd_at {P : Program} {w : World} {H : Hp} {h : Heap} {d : Addr} {kvs : List Ent} (ok : HOk P w H h) (e : H d = some (ND P w d kvs)) : NDat P w d kvs h := by
  have x : ObjOk P w H h d (.ext (NDat P w d kvs)) := ok d _ e
  exact x.1
/-- d.get(key, x) -/
def tDGetN (P : Program) (w : World) (td ty tx : TE) : TE := fun σ H Q => td σ H fun x H1 => ∃ a, x = .ref a ∧ (∃ kvs, H1 a = some (ND P w a kvs)) ∧ ty σ H1 fun y H2 => tx σ H2 fun z H3 => ∃ kvs key b i, H3 a = some (ND P w a kvs) ∧ KeysAt H3 kvs ∧ y = .ref b ∧ KeyAt H3 key b ∧ z = .int i ∧ Q (.int ((ndGet kvs key).getD i)) H3
theorem pe_dgetN {X0 X : Cx} {o e f : Expr} {apos cpos : Pos} {td ty tx : TE} (l : Like X0 X) (hu : X.A.units + 9 < cLine) (ho : PE X o td) (he : PE X e ty) (hf : PE X f tx) (m : M2 X o "get" apos e f cpos) : PE X (.Call (.Attribute o "get" apos) [e, f] [] cpos) (tDGetN X0.prog X0.w td ty tx) := by
  rw [← l.prog, ← l.w]
  refine ⟨fun pins s σ H Q I h => ?_⟩
  refine wpAny_Call_method m.base m.few m.line PySem.F.plainAttrs_dict PySem.F.slot_dict_get PySem.F.type_dict_get (thn (ho.run pins s σ H _ I h) fun u s1 ⟨x, H1, I1, rx, a, ex, ⟨kv0, d⟩, q1⟩ => ?_)
  subst ex
  obtain rfl : u = Value.ref a := rx
  obtain ⟨_, _, xs0, _, o0, es0, ep0, g1, g2, _, _, _⟩ := nd_at I1.hok d
  refine ⟨⟨o0, g1, g2.1⟩, fun b q => ?_, ?_⟩
  · cases q
    exact ⟨o0, g1, g2.2.1⟩
  rw [m.trees]
  refine Calls.callWith_builtin rfl (Calls.evalArgs_plain (Calls.spliced_cons (thn (he.run pins s1 σ H1 _ I1 q1) fun iv s2 ⟨y, H2, I2, ry, q2⟩ =>
    Calls.spliced_cons (thn (hf.run pins s2 σ H2 _ I2 q2) fun fv s3 ⟨z, H3, I3, rz, kvs, key, b, i, hd, hk, ey, hkey, ez, q3⟩ => Calls.spliced_nil ?_))))
  subst ey ez
  obtain rfl : iv = Value.ref b := ry
  obtain ⟨t, rfl⟩ := rz
  obtain ⟨hz, hl, xs, r, oo, es, ep, e1, e2, e3, e4, e5⟩ := nd_at I3.hok hd
  have dd : s3.heap.DictOfH (nestedKind X.prog X.w) a xs := ⟨oo, es, ep, e1, e2, e3, e4, nd_keys I3.hok r hk, e5⟩
  refine call_meetsIn PySem.F.slot_dict_get dd.typeIs PySem.F.entry_dict_get (PySem.F.args_dict_get_3 _ _ _) (meetsH_dict_get_default (nestedKind X.prog X.w) a b hz (.int i t)) ⟨?_, tabKey key, xs, keyAt_is I3.hok hkey, dd, ?_⟩
  · show X.A.in1.units + 8 < cLine
    have : X.A.in1.units = X.A.units + 1 := rfl
    omega
  · rcases nd_get key r with ⟨h1, h2⟩ | ⟨j, b2, t2, h1, h2⟩
    · rw [h1] at q3
      rw [h2]
      exact ⟨.int i, H3, I3.tok _, ⟨t, rfl⟩, q3⟩
    · rw [h1] at q3
      rw [h2]
      exact ⟨.int j, H3, I3.tok _, ⟨t2, rfl⟩, q3⟩
/-- d[key] = v -/
def rSetN (P : Program) (w : World) : TSet := fun o i v H Q => ∃ a kvs key b j, o = .ref a ∧ H a = some (ND P w a kvs) ∧ KeysAt H kvs ∧ i = .ref b ∧ KeyAt H key b ∧ v = .int j ∧ kvs.length < 1000 ∧ Q (upd H a (ND P w a (ndPut kvs key b j)))
theorem set_dictN {X0 X : Cx} (l : Like X0 X) (hu : X.A.units + 9 < cLine) : PSet X (rSetN X0.prog X0.w) := by
  rw [← l.prog, ← l.w]
  intro pins s σ H o i v ov iv u Q I ro ri rv h
  obtain ⟨a, kvs, key, b, j, rfl, hd, hk, rfl, hkey, rfl, hl, q⟩ := h
  obtain rfl : ov = Value.ref a := ro
  obtain rfl : iv = Value.ref b := ri
  obtain ⟨t, rfl⟩ := rv
  obtain ⟨hz, _, xs, r, oo, es, ep, e1, e2, e3, e4, e5⟩ := nd_at I.hok hd
  have dd : s.heap.DictOfH (nestedKind X.prog X.w) a xs := ⟨oo, es, ep, e1, e2, e3, e4, nd_keys I.hok r hk, e5⟩
  have hxl : xs.length = kvs.length := (Paired.length r).symm
  refine wpAny_setItem_heap (knd := nestedKind X.prog X.w) (k := tabKey key) ?_ (keyAt_is I.hok hkey) dd (fun h' hm' hs => ?_) (by rw [hxl]; exact Nat.le_trans (Nat.le_of_lt hl) (by decide))
  · show X.A.in1.units + 8 < cLine
    have : X.A.in1.units = X.A.units + 1 := rfl
    omega
  · obtain ⟨o2, es2, ep2, f1, f2, f3, f4, f5, f6⟩ := hm'
    have nd : NDat X.prog X.w a (ndPut kvs key b j) h' := ⟨hz, Nat.le_trans ndPut_len hl, _, nd_put key b j t r, o2, es2, ep2, f1, f2, f3, f4, f6⟩
    exact ⟨_, I.write (x := a) (e := a) (o := ND X.prog X.w a (ndPut kvs key b j)) (by rw [hd]; exact True.intro) (.inl rfl) (fun c o hc z => (hs.2 c hc).trans z) ⟨_, f1⟩ (nd_ok nd), q⟩
theorem hu9 {k : Nat} {A : Around} (hr : Room k A) : A.units + 9 < cLine := by
  have := hr.units
  omega
theorem w_dgetN {P : Program} {w : World} {td ty tx : TE} {σ : L2.St} {H : Hp} {Q : VK} (h : td σ H fun x H1 => ∃ a, x = .ref a ∧ (∃ kvs, H1 a = some (ND P w a kvs)) ∧ ty σ H1 fun y H2 => tx σ H2 fun z H3 => ∃ kvs key b i, H3 a = some (ND P w a kvs) ∧ KeysAt H3 kvs ∧ y = .ref b ∧ KeyAt H3 key b ∧ z = .int i ∧ Q (.int ((ndGet kvs key).getD i)) H3) : tDGetN P w td ty tx σ H Q := h
theorem w_dnewN {P : Program} {w : World} {σ : L2.St} {H : Hp} {Q : VK} (h : ∀ p, H p = none → Q (.ref p) (upd H p (ND P w p []))) : tDNewN P w σ H Q := h
theorem ndGet_cons (p : Ent) (kvs : List Ent) (k : List (List Int)) : ndGet (p :: kvs) k = if p.1 = k then some p.2.2 else ndGet kvs k := by
  unfold ndGet
  rw [List.find?_cons]
  by_cases e : p.1 = k
  · rw [if_pos e, decide_eq_true e]; rfl
  · rw [if_neg e, decide_eq_false e]
theorem ndGet_map (key key' : List (List Int)) (v : Int) : ∀ kvs : List Ent, ndGet (kvs.map fun p => if p.1 = key then (p.1, p.2.1, v) else p) key' = if key' = key then (ndGet kvs key).map (fun _ => v) else ndGet kvs key'
  | [] => by unfold ndGet; split <;> rfl
  | p :: kvs => by
    rw [List.map_cons, ndGet_cons, ndGet_cons, ndGet_cons, ndGet_map key key' v kvs]
    by_cases e : p.1 = key
    · rw [if_pos e, if_pos e]
      show (if p.1 = key' then some v else _) = _
      by_cases z : key' = key
      · rw [if_pos z, if_pos (by rw [e, z]), if_pos z]; rfl
      · rw [if_neg z, if_neg (by rw [e]; exact fun y => z y.symm), if_neg z]
        rw [if_neg (by rw [e]; exact fun y => z y.symm)]
    · rw [if_neg e, if_neg e]
      by_cases z : key' = key
      · rw [if_pos z, if_pos z, if_neg (by rw [z]; exact e)]
      · rw [if_neg z, if_neg z]
theorem ndGet_app (kvs ls : List Ent) (k : List (List Int)) : ndGet (kvs ++ ls) k = match ndGet kvs k with | some i => some i | none => ndGet ls k := by
  induction kvs with
  | nil => rfl
  | cons p kvs ih =>
    rw [List.cons_append, ndGet_cons, ndGet_cons, ih]
    split <;> rfl
theorem ndGet_put (kvs : List Ent) (key key' : List (List Int)) (a : Addr) (v : Int) : ndGet (ndPut kvs key a v) key' = if key' = key then some v else ndGet kvs key' := by
  unfold ndPut
  cases e : ndGet kvs key with
  | none =>
    rw [if_neg (by simp), ndGet_app, ndGet_cons]
    by_cases z : key' = key
    · rw [if_pos z, z, e, if_pos rfl]
    · rw [if_neg z, if_neg (fun y => z y.symm)]
      cases ndGet kvs key' <;> rfl
  | some i =>
    rw [if_pos (by simp), ndGet_map, e]
    rfl
end Odd

namespace Odd
open PySem PySem.Spec PyProof.Rows L2
/-! ### a sign, so many times -/
def signs (c : Nat) (n : Nat) : Str := ⟨(List.replicate n c).toArray⟩
theorem signs_len {c n : Nat} : (signs c n).length = n := by
  show (List.replicate n c).toArray.size = n
  simp
theorem fold_signs (c : Nat) : ∀ (n : Nat) (acc : Array Nat), (List.replicate n #[c]).foldl (· ++ ·) acc = acc ++ (List.replicate n c).toArray
  | 0, acc => by simp
  | n + 1, acc => by
    rw [List.replicate_succ, List.foldl_cons, fold_signs c n, List.replicate_succ]
    apply Array.ext'
    simp
def rSign : V → V → Hp → VK → Prop := fun x y H Q => ∃ (c : Nat) (n : Int), x = .str ⟨#[c]⟩ ∧ y = .int n ∧ -100000 ≤ n ∧ n ≤ 100000 ∧ Q (.str (signs c n.toNat)) H
theorem op_mulSign {X : Cx} : OpR X (binaryOp .Mult) rSign := by
  intro pins s σ H x y v u Q I rx ry h
  obtain ⟨c, n, rfl, rfl, h1, h2, q⟩ := h
  obtain ⟨t, rfl⟩ := (show ∃ t, v = Value.str ⟨#[c]⟩ t from rx)
  obtain ⟨t', rfl⟩ := (show ∃ t, u = Value.int n t from ry)
  refine P.mul_str ?_ (fun hn _ => ?_) (fun hn _ => ?_) ?_
  · rw [decide_eq_false (show ¬ n < -(2 ^ 63 : Int) by omega), decide_eq_false (show ¬ n ≥ 2 ^ 63 by omega)]
    rfl
  · show ¬ ((1 : Int) > (2 ^ 63 - 1) / n)
    have : 1 ≤ (2 ^ 63 - 1 : Int) / n := Int.le_ediv_of_mul_le (by omega) (by omega)
    omega
  · show PySem.Builtin.Str.tooLong (1 * n.toNat) = false
    unfold PySem.Builtin.Str.tooLong
    have : (100000 : Nat) ≤ sizeLine := by decide
    simp
    omega
  · by_cases hn : n < 1
    · rw [if_pos hn]
      have e : n.toNat = 0 := by omega
      rw [e] at q
      exact ⟨by decide, .str (signs c 0), H, I.tok _, ⟨_, rfl⟩, q⟩
    · rw [if_neg hn]
      by_cases h3 : (n == 1 || (⟨#[c]⟩ : Str).length == 0) = true
      · rw [if_pos h3]
        have e : n = 1 := by
          have : ((⟨#[c]⟩ : Str).length == 0) = false := rfl
          rw [this, Bool.or_false] at h3
          exact eq_of_beq h3
        subst e
        exact ⟨.str (signs c 1), H, I, ⟨t, rfl⟩, q⟩
      · rw [if_neg h3]
        have e : (⟨(List.replicate n.toNat (#[c] : Array Nat)).foldl (· ++ ·) #[]⟩ : Str) = signs c n.toNat := by
          rw [fold_signs]
          simp [signs]
        show Made.post (Made.str ⟨(List.replicate n.toNat (#[c] : Array Nat)).foldl (· ++ ·) #[]⟩) _ s
        rw [e]
        exact ⟨by rw [signs_len]; exact Nat.le_trans (show n.toNat ≤ 100000 by omega) (by decide), .str (signs c n.toNat), H, I.tok _, ⟨_, rfl⟩, q⟩
theorem s_sign {X0 : Cx} {E : XK} {H : Hp} {Q : VK} {c : Nat} {n : Int} (h1 : -100000 ≤ n) (h2 : n ≤ 100000) (q : Q (.str (signs c n.toNat)) H) : ∃ r, OpD X0 E (binaryOp .Mult) r ∧ r (.str ⟨#[c]⟩) (.int n) H Q := ⟨rSign, fun _ _ _ => op_mulSign, c, n, rfl, rfl, h1, h2, q⟩
end Odd

namespace Odd
open PySem PySem.Spec PyProof.Rows L2 Builtin Builtin.Int Builtin.Float
/-! ### fields with a specification -/
abbrev fComma : FormatSpec := { fill := 32, align := 62, width := none, grouping := some ',', type := none }
abbrev fTwo : FormatSpec := { fill := 48, align := 61, width := some 2, grouping := none, type := some 100 }
abbrev fLeft : FormatSpec := { fill := 32, align := 60, width := some 4, grouping := none, type := none }
abbrev fRight : FormatSpec := { fill := 32, align := 62, width := some 26, grouping := none, type := none }
theorem p_comma : parseFormatSpec ("," : Str).cps.toList "int" 62 = .ok fComma := by rfl
theorem p_two : parseFormatSpec ("02d" : Str).cps.toList "int" 62 = .ok fTwo := by rfl
theorem p_left : parseFormatSpec ("<4" : Str).cps.toList "int" 62 = .ok fLeft := by rfl
theorem p_right : parseFormatSpec (">26" : Str).cps.toList "int" 62 = .ok fRight := by rfl
abbrev SpecM (a : Int) (t : Tok) (spec : Str) (f : FormatSpec) : Prop := ∀ u, Meets («int.__format__» ⟨[.int a t, .str spec u], []⟩) (fun _ R s => ∀ t' k, R (.ok (.ret (.str (intSpecText f a) t'))) { s with toks := k })
theorem m_comma {a : Int} {t : Tok} (hd : a.natAbs.log2 < 1920) (hlen : (intSpecText fComma a).length ≤ sizeLine) : SpecM a t "," fComma := fun u => .of_wp fun prog w A R s h => by
  unfold «int.__format__» selfAndOne noKeywords Int.intOfSelf
  simp only [asInt?, asStr?, List.isEmpty_nil, if_true, pure_bind, if_false, Bool.false_eq_true, show (Value.str ("," : Str) u == Value.none) = false from rfl, show ((("," : Str).length == 0)) = false from rfl,
    show (((("," : Str).cps.toList.drop 1).any (· ≥ 128)) || (decide (("," : Str).cps.getD 0 0 ≥ 128) && !([60, 62, 61, 94] : List Nat).contains (("," : Str).cps.getD 1 0))) = false from rfl]
  refine wpAny_bind (wpAny_typeNameOf (T := "str") (typeIs_str _ _ _) (by decide) fun _ => ?_)
  refine wpAny_bind (wpAny_typeNameOfCut_int ?_)
  rw [p_comma]
  show wpAny _ _ (Builtin.overDigitLimit? a >>= _) _ _ s
  rw [PySem.overDigitLimit_small hd]
  refine wpAny_bind (wpAny_pure ?_)
  show wpAny _ _ (retStr _) _ _ s
  have key : ∀ X : Str, X = intSpecText fComma a → wpAny (model prog w) A.in1 (retStr X) (fun fin s' => ∃ v, fin = Fin.done (Flow.ret v) ∧ R (Except.ok (Flow.ret v)) s') (fun e s' => R (Except.error e) s') s := fun X e => by
    subst e
    unfold retStr
    exact wpAny_bind (wpAny_mkStr (wpAny_pure ⟨_, rfl, h _ _⟩) hlen)
  refine key _ ?_
  first | rfl | kernel_rfl | (show _ = intField' _ _ _ _ _ _; rfl)
theorem m_two {a : Int} {t : Tok} (hd : a.natAbs.log2 < 1920) (hlen : (intSpecText fTwo a).length ≤ sizeLine) : SpecM a t "02d" fTwo := fun u => .of_wp fun prog w A R s h => by
  unfold «int.__format__» selfAndOne noKeywords Int.intOfSelf
  simp only [asInt?, asStr?, List.isEmpty_nil, if_true, pure_bind, if_false, Bool.false_eq_true, show (Value.str ("02d" : Str) u == Value.none) = false from rfl, show ((("02d" : Str).length == 0)) = false from rfl,
    show (((("02d" : Str).cps.toList.drop 1).any (· ≥ 128)) || (decide (("02d" : Str).cps.getD 0 0 ≥ 128) && !([60, 62, 61, 94] : List Nat).contains (("02d" : Str).cps.getD 1 0))) = false from rfl]
  refine wpAny_bind (wpAny_typeNameOf (T := "str") (typeIs_str _ _ _) (by decide) fun _ => ?_)
  refine wpAny_bind (wpAny_typeNameOfCut_int ?_)
  rw [p_two]
  show wpAny _ _ (Builtin.overDigitLimit? a >>= _) _ _ s
  rw [PySem.overDigitLimit_small hd]
  refine wpAny_bind (wpAny_pure ?_)
  show wpAny _ _ (retStr _) _ _ s
  have key : ∀ X : Str, X = intSpecText fTwo a → wpAny (model prog w) A.in1 (retStr X) (fun fin s' => ∃ v, fin = Fin.done (Flow.ret v) ∧ R (Except.ok (Flow.ret v)) s') (fun e s' => R (Except.error e) s') s := fun X e => by
    subst e
    unfold retStr
    exact wpAny_bind (wpAny_mkStr (wpAny_pure ⟨_, rfl, h _ _⟩) hlen)
  refine key _ ?_
  first | rfl | kernel_rfl | (show _ = intField' _ _ _ _ _ _; rfl)
theorem m_left {a : Int} {t : Tok} (hd : a.natAbs.log2 < 1920) (hlen : (intSpecText fLeft a).length ≤ sizeLine) : SpecM a t "<4" fLeft := fun u => .of_wp fun prog w A R s h => by
  unfold «int.__format__» selfAndOne noKeywords Int.intOfSelf
  simp only [asInt?, asStr?, List.isEmpty_nil, if_true, pure_bind, if_false, Bool.false_eq_true, show (Value.str ("<4" : Str) u == Value.none) = false from rfl, show ((("<4" : Str).length == 0)) = false from rfl,
    show (((("<4" : Str).cps.toList.drop 1).any (· ≥ 128)) || (decide (("<4" : Str).cps.getD 0 0 ≥ 128) && !([60, 62, 61, 94] : List Nat).contains (("<4" : Str).cps.getD 1 0))) = false from rfl]
  refine wpAny_bind (wpAny_typeNameOf (T := "str") (typeIs_str _ _ _) (by decide) fun _ => ?_)
  refine wpAny_bind (wpAny_typeNameOfCut_int ?_)
  rw [p_left]
  show wpAny _ _ (Builtin.overDigitLimit? a >>= _) _ _ s
  rw [PySem.overDigitLimit_small hd]
  refine wpAny_bind (wpAny_pure ?_)
  show wpAny _ _ (retStr _) _ _ s
  have key : ∀ X : Str, X = intSpecText fLeft a → wpAny (model prog w) A.in1 (retStr X) (fun fin s' => ∃ v, fin = Fin.done (Flow.ret v) ∧ R (Except.ok (Flow.ret v)) s') (fun e s' => R (Except.error e) s') s := fun X e => by
    subst e
    unfold retStr
    exact wpAny_bind (wpAny_mkStr (wpAny_pure ⟨_, rfl, h _ _⟩) hlen)
  refine key _ ?_
  first | rfl | kernel_rfl | (show _ = intField' _ _ _ _ _ _; rfl)
theorem m_right {a : Int} {t : Tok} (hd : a.natAbs.log2 < 1920) (hlen : (intSpecText fRight a).length ≤ sizeLine) : SpecM a t ">26" fRight := fun u => .of_wp fun prog w A R s h => by
  unfold «int.__format__» selfAndOne noKeywords Int.intOfSelf
  simp only [asInt?, asStr?, List.isEmpty_nil, if_true, pure_bind, if_false, Bool.false_eq_true, show (Value.str (">26" : Str) u == Value.none) = false from rfl, show (((">26" : Str).length == 0)) = false from rfl,
    show ((((">26" : Str).cps.toList.drop 1).any (· ≥ 128)) || (decide ((">26" : Str).cps.getD 0 0 ≥ 128) && !([60, 62, 61, 94] : List Nat).contains ((">26" : Str).cps.getD 1 0))) = false from rfl]
  refine wpAny_bind (wpAny_typeNameOf (T := "str") (typeIs_str _ _ _) (by decide) fun _ => ?_)
  refine wpAny_bind (wpAny_typeNameOfCut_int ?_)
  rw [p_right]
  show wpAny _ _ (Builtin.overDigitLimit? a >>= _) _ _ s
  rw [PySem.overDigitLimit_small hd]
  refine wpAny_bind (wpAny_pure ?_)
  show wpAny _ _ (retStr _) _ _ s
  have key : ∀ X : Str, X = intSpecText fRight a → wpAny (model prog w) A.in1 (retStr X) (fun fin s' => ∃ v, fin = Fin.done (Flow.ret v) ∧ R (Except.ok (Flow.ret v)) s') (fun e s' => R (Except.error e) s') s := fun X e => by
    subst e
    unfold retStr
    exact wpAny_bind (wpAny_mkStr (wpAny_pure ⟨_, rfl, h _ _⟩) hlen)
  refine key _ ?_
  first | rfl | kernel_rfl | (show _ = intField' _ _ _ _ _ _; rfl)
/-- a text, filled up with blanks on the left -/
theorem m_strR {x : Str} {t u : Tok} (hlen : x.length < 26) : Meets («str.__format__» ⟨[.str x t, .str ">26" u], []⟩) (fun _ R s => ∀ t' k, R (.ok (.ret (.str (signs 32 (26 - x.length) ++ x) t'))) { s with toks := k }) := .of_wp fun prog w A R s h => by
  unfold «str.__format__» Str.strOneArg selfAndOne noKeywords Str.textOf
  simp only [asStr?, List.isEmpty_nil, if_true, pure_bind, if_false, Bool.false_eq_true, show (((">26" : Str).length == 0)) = false from rfl,
    show ((((">26" : Str).cps.toList.drop 1).any (· ≥ 128)) || (decide ((">26" : Str).cps.getD 0 0 ≥ 128) && !([60, 62, 61, 94] : List Nat).contains ((">26" : Str).cps.getD 1 0))) = false from rfl]
  refine wpAny_bind (PySem.W.KXf.cut_str ?_)
  rw [show parseFormatSpec (">26" : Str).cps.toList "str" 60 = .ok fRight from rfl]
  have e : Str.strField x fRight "str" = .ok (some (signs 32 (26 - x.length) ++ x)) := by
    have sub : Str.strSub x 0 x.length = x := by
      show (⟨x.cps.extract 0 x.cps.size⟩ : Str) = x
      rw [Array.extract_size]
    have h1 : Str.strField x fRight "str" = (if decide (26 ≤ x.length) = true then pure none else pure (some (Str.padded (Str.strSub x 0 x.length) (26 - (Str.strSub x 0 x.length).length) (26 - (Str.strSub x 0 x.length).length - (26 - (Str.strSub x 0 x.length).length)) 32))) := by
      unfold Str.strField
      simp only [Option.isSome_none, Option.all_some, Option.all_none, Bool.and_true]
      rfl
    rw [h1, sub, decide_eq_false (by omega), if_neg Bool.false_ne_true]
    show Except.ok (some _) = _
    congr 2
    unfold Str.padded signs
    rw [Nat.sub_self]
    show (⟨_⟩ : Str) = ⟨_⟩
    congr 1
  try simp only [show (fRight.type.isNone && (">26" : Str).cps.back? == some 0) = false from rfl, Bool.false_eq_true, if_false]
  show wpAny _ _ (match (do let r ← Str.strField x fRight "str"; pure (some r) : Except String (Option (Option Str))) with | .error _ => _ | .ok none => _ | .ok (some none) => _ | .ok (some (some text)) => retStr text) _ _ s
  rw [e]
  show wpAny _ _ (retStr (signs 32 (26 - x.length) ++ x)) _ _ s
  unfold retStr
  refine wpAny_bind (wpAny_mkStr (wpAny_pure ⟨_, rfl, h _ _⟩) ?_)
  show ((signs 32 (26 - x.length)).cps ++ x.cps).size ≤ sizeLine
  rw [Array.size_append]
  have h1 : (signs 32 (26 - x.length)).cps.size = 26 - x.length := signs_len
  have h2 : x.cps.size = x.length := rfl
  exact Nat.le_trans (show _ ≤ 26 by omega) (by decide)
/-- 'mark' is four signs long -/
theorem m_mark {t u : Tok} : Meets («str.__format__» ⟨[.str "mark" t, .str "<4" u], []⟩) (fun _ R s => ∀ t' k, R (.ok (.ret (.str "mark" t'))) { s with toks := k }) := .of_wp fun prog w A R s h => by
  unfold «str.__format__» Str.strOneArg selfAndOne noKeywords Str.textOf
  simp only [asStr?, List.isEmpty_nil, if_true, pure_bind, if_false, Bool.false_eq_true, show ((("<4" : Str).length == 0)) = false from rfl,
    show (((("<4" : Str).cps.toList.drop 1).any (· ≥ 128)) || (decide (("<4" : Str).cps.getD 0 0 ≥ 128) && !([60, 62, 61, 94] : List Nat).contains (("<4" : Str).cps.getD 1 0))) = false from rfl]
  refine wpAny_bind (PySem.W.KXf.cut_str ?_)
  rw [show parseFormatSpec ("<4" : Str).cps.toList "str" 60 = .ok fLeft from rfl]
  show wpAny _ _ (do rule "str.__format__.unchanged"; ret (.str "mark" t)) _ _ s
  exact wpAny_bind (wpAny_rule (wpAny_pure ⟨_, rfl, h t s.toks⟩))
def FmtI (sp : Str) (f : FormatSpec) : Prop := (sp = "," ∧ f = fComma) ∨ (sp = "02d" ∧ f = fTwo) ∨ (sp = "<4" ∧ f = fLeft) ∨ (sp = ">26" ∧ f = fRight)
def FmtT (sp y z : Str) : Prop := (sp = ">26" ∧ y.length < 26 ∧ z = signs 32 (26 - y.length) ++ y) ∨ (sp = "<4" ∧ y = "mark" ∧ z = "mark")
/-- {e:sp} -/
def tFmtS (sp : Str) (te : TE) : TE := fun σ H Q => te σ H fun x H1 => (∃ i f, x = .int i ∧ i.natAbs.log2 < 1920 ∧ FmtI sp f ∧ (intSpecText f i).length ≤ sizeLine ∧ Q (.str (intSpecText f i)) H1) ∨ ∃ y z, x = .str y ∧ FmtT sp y z ∧ Q (.str z) H1
theorem pe_fmtS {X : Cx} {e : Expr} {te : TE} {sp : Str} {j : Nat} {p1 p2 pos : Pos} (he : PE X e te) : PE X (.FormattedValue e (-1) (some (.JoinedStr [.Constant (.str sp) j p1] p2)) pos) (tFmtS sp te) := by
  refine ⟨fun pins s σ H Q I h => ?_⟩
  refine wpAny_FormattedValue_spec (thn (he.run pins s σ H _ I h) fun v s1 ⟨x, H1, I1, r1, q⟩ => ?_)
  have hs : PE X (.JoinedStr [.Constant (.str sp) j p1] p2) (tC (.str sp)) := pe_joined1 pe_str
  refine thn (hs.run pins s1 σ H1 (fun y H2 => y = V.str sp ∧ H2 = H1) I1 ⟨rfl, rfl⟩) fun r s2 ⟨y, H2, I2, r2, ey, eH⟩ => ?_
  subst ey eH
  obtain ⟨t2, rfl⟩ := r2
  refine ⟨sp, t2, rfl, ?_⟩
  rcases q with ⟨i, f, rfl, hd, hf, hl, q⟩ | ⟨y, z, rfl, hf, q⟩
  · obtain ⟨t, rfl⟩ := r1
    have fin : ∀ t' k, EP X pins σ Q (.str (intSpecText f i) t') { s2 with toks := k } := fun t' k => ⟨.str (intSpecText f i), H2, I2.tok _, ⟨t', rfl⟩, q⟩
    rcases hf with ⟨rfl, rfl⟩ | ⟨rfl, rfl⟩ | ⟨rfl, rfl⟩ | ⟨rfl, rfl⟩
    · exact PySem.W.KXf.field_int rfl rfl (by decide) (m_comma hd hl) fin
    · exact PySem.W.KXf.field_int rfl rfl (by decide) (m_two hd hl) fin
    · exact PySem.W.KXf.field_int rfl rfl (by decide) (m_left hd hl) fin
    · exact PySem.W.KXf.field_int rfl rfl (by decide) (m_right hd hl) fin
  · obtain ⟨t, rfl⟩ := r1
    have fin : ∀ t' k, EP X pins σ Q (.str z t') { s2 with toks := k } := fun t' k => ⟨.str z, H2, I2.tok _, ⟨t', rfl⟩, q⟩
    rcases hf with ⟨rfl, hy, rfl⟩ | ⟨rfl, rfl, rfl⟩
    · exact PySem.W.KXf.field_str rfl rfl rfl (by decide) (fun u => m_strR hy) fin
    · exact PySem.W.KXf.field_str rfl rfl rfl (by decide) (fun u => m_mark) fin
theorem w_fmtS {sp : Str} {te : TE} {σ : L2.St} {H : Hp} {Q : VK} (h : te σ H fun x H1 => (∃ i f, x = .int i ∧ i.natAbs.log2 < 1920 ∧ FmtI sp f ∧ (intSpecText f i).length ≤ sizeLine ∧ Q (.str (intSpecText f i)) H1) ∨ ∃ y z, x = .str y ∧ FmtT sp y z ∧ Q (.str z) H1) : tFmtS sp te σ H Q := h
theorem w_fmt {te : TE} {σ : L2.St} {H : Hp} {Q : VK} (h : te σ H fun x H1 => (∃ y : Str, x = .str y ∧ y.length ≤ sizeLine ∧ Q (.str y) H1) ∨ ∃ i : Int, x = .int i ∧ i.natAbs.log2 < 1920 ∧ Q (.str (toString i)) H1) : tFmt te σ H Q := h
theorem w_js {t : TE} {ts : List TE} {acc : Str} {σ : L2.St} {H : Hp} {Q : Str → Hp → Prop} (h : t σ H fun x H1 => ∃ y : Str, x = .str y ∧ (acc ++ y).length ≤ sizeLine ∧ tJs ts (acc ++ y) σ H1 Q) : tJs (t :: ts) acc σ H Q := h
theorem w_js0 {acc : Str} {σ : L2.St} {H : Hp} {Q : Str → Hp → Prop} (h : Q acc H) : tJs [] acc σ H Q := h
end Odd

namespace Odd
open PySem PySem.Spec PyProof.Rows L2
/-! ### text.lstrip(a).replace(b, c): the tokens of the written texts are known to differ -/
section
variable {X : Cx} {o e : Expr} {to te : TE}
def PE1 (X : Cx) (e : Expr) (te : TE) : Prop := ∀ (pins : List (Addr × Obj)) (s : Shared) (σ : L2.St) (H : Hp) (Q : VK), Inv X pins σ H s → te σ H Q → wpAny (model X.prog X.w) X.A (eval e X.env) (fun v s1 => 1 ≤ s1.toks ∧ EP X pins σ Q v s1) X.xe s
theorem PE1.pe (h : PE1 X e te) : PE X e te := ⟨fun pins s σ H Q I q => thn (h pins s σ H Q I q) fun _ _ z => z.2⟩
theorem pe1_m1 {id : String} {name c : Str} {j : Nat} {cp apos pos : Pos} {r : V → List V → Hp → VK → Prop} (slot : Slot "str" name id) (ty : typeOf (.builtin id) = pure (.type "method_descriptor")) (rule : MtR X id r) (ho : PE X o to)
    (hs : starEach [.Constant (.str c) j cp] X.env = [(false, eval (.Constant (.str c) j cp) X.env)] := by rfl) (hbase : attributeBase o name X.env (eval o X.env) = eval o X.env := by rfl) (hline : (apos.endLine == pos.line) = true := by rfl) :
    PE1 X (.Call (.Attribute o name apos) [.Constant (.str c) j cp] [] pos) (tM1 r to (tC (.str c))) := by
  intro pins s σ H Q I h
  refine PySem.Call_method1 hbase hs hline (thn (ho.run pins s σ H _ I h) fun v s1 ⟨x, H1, I1, r1, q1⟩ => ?_)
  obtain ⟨⟨a, rfl⟩, q1⟩ := q1
  obtain ⟨t, rfl⟩ := _root_.id r1
  refine ⟨"str", _, F.plainAttrs_str, slot, ty, typeIs_str _ _ _, (fun _ e => nomatch e), Calls.callWith_builtin rfl (Calls.evalArgs_plain (Calls.spliced_cons (Calls.Constant_str (Calls.spliced_nil ?_))))⟩
  have rr := rule pins { s1 with toks := s1.toks + 1 } σ H1 _ [V.str c] _ [Value.str c s1.toks] Q (I1.tok _) r1 (.cons ⟨_, rfl⟩ .nil) q1
  refine wpAny_mono (PySem.wpAny_toks rr) (fun _ s2 q => ⟨?_, q.2⟩) fun _ _ z => z.2
  have hk : s1.toks + 1 ≤ s2.toks := q.1
  omega
def tRepc (y z : Str) (to : TE) : TE := fun σ H Q => to σ H fun x H1 => ∃ a : Str, x = .str a ∧ a.length + (a.length + 1) * z.length ≤ 16777216 ∧ Q (.str (Txt.replace a y z)) H1
theorem pe1_rep {y z : Str} {j0 j1 : Nat} {c0 c1 apos pos : Pos} (ho : PE1 X o to) (hyz : (y == z) = false)
    (hst : starEach [.Constant (.str y) j0 c0, .Constant (.str z) j1 c1] X.env = [(false, eval (.Constant (.str y) j0 c0) X.env), (false, eval (.Constant (.str z) j1 c1) X.env)] := by rfl)
    (hbase : attributeBase o "replace" X.env (eval o X.env) = eval o X.env := by rfl) (hline : (apos.endLine == pos.line) = true := by rfl) :
    PE1 X (.Call (.Attribute o "replace" apos) [.Constant (.str y) j0 c0, .Constant (.str z) j1 c1] [] pos) (tRepc y z to) := by
  intro pins s σ H Q I h
  refine PySem.Call_method2 hbase hst hline (thn (ho pins s σ H _ I h) fun v s1 ⟨h1, x, H1, I1, r1, q1⟩ => ?_)
  obtain ⟨a, rfl, hb, q⟩ := q1
  obtain ⟨tx, rfl⟩ := _root_.id r1
  refine ⟨"str", _, F.plainAttrs_str, F.slot_str_replace, F.type_str_replace, typeIs_str _ _ _, (fun _ e => nomatch e), Calls.callWith_builtin rfl (Calls.evalArgs_plain (Calls.spliced_cons (Calls.Constant_str (Calls.spliced_cons (Calls.Constant_str (Calls.spliced_nil ?_))))))⟩
  have rr : wpAny (model X.prog X.w) X.A (call (.builtin "str.replace") [.str a tx, .str y s1.toks, .str z (s1.toks + 1)]) (EP X pins σ Q) X.xe { s1 with toks := s1.toks + 1 + 1 } :=
    PySem.SC.replace (show s1.toks ≠ 0 by omega) (show s1.toks + 1 ≠ 0 by omega) (show s1.toks ≠ s1.toks + 1 by omega) hyz hb fun t' k => ⟨.str (Txt.replace a y z), H1, I1.tok k, ⟨t', rfl⟩, q⟩
  refine wpAny_mono (PySem.wpAny_toks rr) (fun _ s2 q => ⟨?_, q.2⟩) fun _ _ z => z.2
  have hk : s1.toks + 1 + 1 ≤ s2.toks := q.1
  omega
theorem w_repc {y z : Str} {to : TE} {σ : L2.St} {H : Hp} {Q : VK} (h : to σ H fun x H1 => ∃ a : Str, x = .str a ∧ a.length + (a.length + 1) * z.length ≤ 16777216 ∧ Q (.str (Txt.replace a y z)) H1) : tRepc y z to σ H Q := h
end
/-! ### what they give -/
theorem filt_free {c : Nat} {p : List Nat} (h : c ∉ p) : (p.filter fun k => decide (k ≠ c)) = p :=
  List.filter_eq_self.2 fun k hk => decide_eq_true (by intro e; subst e; exact h hk)
theorem joinL_filter (c : Nat) : ∀ ps : List (List Nat), (∀ p ∈ ps, c ∉ p) → TL.joinL [] ps = (TL.joinL [c] ps).filter fun k => decide (k ≠ c)
  | [], _ => rfl
  | [p], h => by
    show p = p.filter _
    rw [filt_free (h p (List.mem_singleton_self _))]
  | p :: q :: r, h => by
    have ih := joinL_filter c (q :: r) fun z hz => h z (List.mem_cons_of_mem _ hz)
    show p ++ ([] ++ TL.joinL [] (q :: r)) = (p ++ ([c] ++ TL.joinL [c] (q :: r))).filter _
    rw [ih, List.filter_append, List.filter_append, filt_free (h p (List.mem_cons_self ..))]
    simp
theorem tl_repl (x : Str) (c : Nat) : TL.tl (Txt.replace x ⟨#[c]⟩ "") = (TL.tl x).filter fun k => decide (k ≠ c) := by
  rw [StrLaws.replace_one, TL.tl_join, show TL.tl ("" : Str) = [] from rfl, joinL_filter c _ (fun p hp => by
    obtain ⟨z, hz, rfl⟩ := List.mem_map.1 hp
    exact StrLaws.split_free x c z hz)]
  have e : TL.tl (Str.join ⟨#[c]⟩ (Txt.split x ⟨#[c]⟩)) = TL.tl x := by rw [StrLaws.join_split]
  rw [TL.tl_join] at e
  rw [show TL.joinL [c] ((Txt.split x ⟨#[c]⟩).map TL.tl) = TL.tl x from e]
theorem tl_lstrip (x y : Str) : TL.tl (Txt.lstripChars x y) = (TL.tl x).drop ((TL.tl x).takeWhile y.cps.contains).length := by
  unfold Txt.lstripChars Txt.stripBy
  split
  · rename_i h
    unfold PySem.stripSame at h
    rw [Bool.and_eq_true] at h
    have h0 : PySem.stripLo y.cps.contains true x = 0 := by simpa using h.1
    have h1 : ((TL.tl x).takeWhile y.cps.contains).length = 0 := h0
    rw [h1]
    rfl
  · unfold PySem.stripped
    exact TL.tl_strSub_end x _
theorem tl_signs (c n : Nat) : TL.tl (signs c n) = List.replicate n c := rfl
theorem tl_cutFrom (z : Str) (k : Nat) : TL.tl (cutS z (some (k : Int)) none) = (TL.tl z).drop k := by
  unfold cutS
  rw [TL.tl_mk]
  show ((TL.tl z).drop (HT.sIx z.length 0 (some (k : Int)))).take (z.length - HT.sIx z.length 0 (some (k : Int))) = _
  rw [HT.sIx_nat, List.take_of_length_le (by rw [List.length_drop, ← TL.len_tl]; exact Nat.le_refl _)]
  have h2 := TL.len_tl z
  by_cases h : k ≤ z.length
  · rw [Nat.min_eq_left h]
  · rw [Nat.min_eq_right (by omega), List.drop_of_length_le (by omega), List.drop_of_length_le (by omega)]
/-- the signs of a number, three more digits -/
theorem numL_step3 {n : Nat} (h : 1000 ≤ n) : TL.numL n = TL.numL (n / 1000) ++ [48 + n / 100 % 10, 48 + n / 10 % 10, 48 + n % 10] := by
  rw [TL.numL_step (show 10 ≤ n by omega), TL.numL_step (show 10 ≤ n / 10 by omega), TL.numL_step (show 10 ≤ n / 10 / 10 by omega), Nat.div_div_eq_div_mul, Nat.div_div_eq_div_mul, Nat.div_div_eq_div_mul]
  simp
theorem digitsVal_snoc (l : List Nat) (c : Nat) : NumText.digitsVal (l ++ [c]) = NumText.digitsVal l * 10 + (c - 48) := by
  unfold NumText.digitsVal
  rw [List.foldl_append]
  rfl
end Odd

namespace Odd
open PySem PySem.Spec PyProof.Rows L2
def topS (i : Nat) : Stmt := PySem.Challenge.pw_oddcents_k51_whole_texts_codes_and_recei.main.body.getD i (.Pass ⟨0, 0, 0, 0⟩)
abbrev s__wall : Stmt := topS 0
abbrev N__wall : List Str := ["k"]
theorem sc__wall : FnScope N__wall ["k"] (defScope s__wall) := ⟨rfl, rfl, rfl, by decide +kernel, rfl, by decide +kernel, by decide +kernel⟩
abbrev s_is_between : Stmt := topS 13
abbrev N_is_between : List Str := ["value", "low", "high"]
theorem sc_is_between : FnScope N_is_between ["value", "low", "high"] (defScope s_is_between) := ⟨rfl, rfl, rfl, by decide +kernel, rfl, by decide +kernel, by decide +kernel⟩
abbrev s_is_digits : Stmt := topS 14
abbrev N_is_digits : List Str := ["text"]
theorem sc_is_digits : FnScope N_is_digits ["text"] (defScope s_is_digits) := ⟨rfl, rfl, rfl, by decide +kernel, rfl, by decide +kernel, by decide +kernel⟩
abbrev s_seats_of : Stmt := topS 15
abbrev N_seats_of : List Str := ["number", "seat"]
theorem sc_seats_of : FnScope N_seats_of ["number"] (defScope s_seats_of) := ⟨rfl, rfl, rfl, by decide +kernel, rfl, by decide +kernel, by decide +kernel⟩
abbrev s_Shares__init_ : Stmt := inClass (topS 17) 0
abbrev N_Shares__init_ : List Str := ["self", "cents"]
theorem sc_Shares__init_ : FnScope N_Shares__init_ ["self", "cents"] (defScope s_Shares__init_) := ⟨rfl, rfl, rfl, by decide +kernel, rfl, by decide +kernel, by decide +kernel⟩
abbrev s_Shares_cents : Stmt := inClass (topS 17) 1
abbrev N_Shares_cents : List Str := ["self"]
theorem sc_Shares_cents : FnScope N_Shares_cents ["self"] (defScope s_Shares_cents) := ⟨rfl, rfl, rfl, by decide +kernel, rfl, by decide +kernel, by decide +kernel⟩
abbrev s_Shares_whole : Stmt := inClass (topS 17) 2
abbrev N_Shares_whole : List Str := ["self"]
theorem sc_Shares_whole : FnScope N_Shares_whole ["self"] (defScope s_Shares_whole) := ⟨rfl, rfl, rfl, by decide +kernel, rfl, by decide +kernel, by decide +kernel⟩
abbrev s_Shares__getitem_ : Stmt := inClass (topS 17) 3
abbrev N_Shares__getitem_ : List Str := ["self", "seat"]
theorem sc_Shares__getitem_ : FnScope N_Shares__getitem_ ["self", "seat"] (defScope s_Shares__getitem_) := ⟨rfl, rfl, rfl, by decide +kernel, rfl, by decide +kernel, by decide +kernel⟩
abbrev s_Shares__iter_ : Stmt := inClass (topS 17) 4
abbrev N_Shares__iter_ : List Str := ["self"]
theorem sc_Shares__iter_ : FnScope N_Shares__iter_ ["self"] (defScope s_Shares__iter_) := ⟨rfl, rfl, rfl, by decide +kernel, rfl, by decide +kernel, by decide +kernel⟩
abbrev s_Shares__len_ : Stmt := inClass (topS 17) 5
abbrev N_Shares__len_ : List Str := ["self"]
theorem sc_Shares__len_ : FnScope N_Shares__len_ ["self"] (defScope s_Shares__len_) := ⟨rfl, rfl, rfl, by decide +kernel, rfl, by decide +kernel, by decide +kernel⟩
abbrev s_Shares__eq_ : Stmt := inClass (topS 17) 6
abbrev N_Shares__eq_ : List Str := ["self", "other"]
theorem sc_Shares__eq_ : FnScope N_Shares__eq_ ["self", "other"] (defScope s_Shares__eq_) := ⟨rfl, rfl, rfl, by decide +kernel, rfl, by decide +kernel, by decide +kernel⟩
abbrev s_Shares__add_ : Stmt := inClass (topS 17) 7
abbrev N_Shares__add_ : List Str := ["self", "other", "sums", "mine", "its"]
theorem sc_Shares__add_ : FnScope N_Shares__add_ ["self", "other"] (defScope s_Shares__add_) := ⟨rfl, rfl, rfl, by decide +kernel, rfl, by decide +kernel, by decide +kernel⟩
abbrev s_Shares__sub_ : Stmt := inClass (topS 17) 8
abbrev N_Shares__sub_ : List Str := ["self", "other"]
theorem sc_Shares__sub_ : FnScope N_Shares__sub_ ["self", "other"] (defScope s_Shares__sub_) := ⟨rfl, rfl, rfl, by decide +kernel, rfl, by decide +kernel, by decide +kernel⟩
abbrev s_Shares__mul_ : Stmt := inClass (topS 17) 9
abbrev N_Shares__mul_ : List Str := ["self", "times", "products", "cents"]
theorem sc_Shares__mul_ : FnScope N_Shares__mul_ ["self", "times"] (defScope s_Shares__mul_) := ⟨rfl, rfl, rfl, by decide +kernel, rfl, by decide +kernel, by decide +kernel⟩
abbrev s_Shares__neg_ : Stmt := inClass (topS 17) 10
abbrev N_Shares__neg_ : List Str := ["self"]
theorem sc_Shares__neg_ : FnScope N_Shares__neg_ ["self"] (defScope s_Shares__neg_) := ⟨rfl, rfl, rfl, by decide +kernel, rfl, by decide +kernel, by decide +kernel⟩
abbrev s_Shares__abs_ : Stmt := inClass (topS 17) 11
abbrev N_Shares__abs_ : List Str := ["self"]
theorem sc_Shares__abs_ : FnScope N_Shares__abs_ ["self"] (defScope s_Shares__abs_) := ⟨rfl, rfl, rfl, by decide +kernel, rfl, by decide +kernel, by decide +kernel⟩
abbrev s_Bill__init_ : Stmt := inClass (topS 21) 1
abbrev N_Bill__init_ : List Str := ["self", "amount", "seats"]
theorem sc_Bill__init_ : FnScope N_Bill__init_ ["self", "amount", "seats"] (defScope s_Bill__init_) := ⟨rfl, rfl, rfl, by decide +kernel, rfl, by decide +kernel, by decide +kernel⟩
abbrev s_Bill_amount : Stmt := inClass (topS 21) 2
abbrev N_Bill_amount : List Str := ["self"]
theorem sc_Bill_amount : FnScope N_Bill_amount ["self"] (defScope s_Bill_amount) := ⟨rfl, rfl, rfl, by decide +kernel, rfl, by decide +kernel, by decide +kernel⟩
abbrev s_Bill_seats : Stmt := inClass (topS 21) 3
abbrev N_Bill_seats : List Str := ["self"]
theorem sc_Bill_seats : FnScope N_Bill_seats ["self"] (defScope s_Bill_seats) := ⟨rfl, rfl, rfl, by decide +kernel, rfl, by decide +kernel, by decide +kernel⟩
abbrev s_Bill_odd_cents : Stmt := inClass (topS 21) 4
abbrev N_Bill_odd_cents : List Str := ["self"]
theorem sc_Bill_odd_cents : FnScope N_Bill_odd_cents ["self"] (defScope s_Bill_odd_cents) := ⟨rfl, rfl, rfl, by decide +kernel, rfl, by decide +kernel, by decide +kernel⟩
abbrev s_Bill__contains_ : Stmt := inClass (topS 21) 5
abbrev N_Bill__contains_ : List Str := ["self", "seat"]
theorem sc_Bill__contains_ : FnScope N_Bill__contains_ ["self", "seat"] (defScope s_Bill__contains_) := ⟨rfl, rfl, rfl, by decide +kernel, rfl, by decide +kernel, by decide +kernel⟩
abbrev s_Evening__init_ : Stmt := inClass (topS 22) 1
abbrev N_Evening__init_ : List Str := ["self", "seat_count", "bills"]
theorem sc_Evening__init_ : FnScope N_Evening__init_ ["self", "seat_count", "bills"] (defScope s_Evening__init_) := ⟨rfl, rfl, rfl, by decide +kernel, rfl, by decide +kernel, by decide +kernel⟩
abbrev s_Evening_together : Stmt := inClass (topS 22) 2
abbrev N_Evening_together : List Str := ["cls", "seat_count", "amounts"]
theorem sc_Evening_together : FnScope N_Evening_together ["cls", "seat_count", "amounts"] (defScope s_Evening_together) := ⟨rfl, rfl, rfl, by decide +kernel, rfl, by decide +kernel, by decide +kernel⟩
abbrev s_Evening_seat_count : Stmt := inClass (topS 22) 3
abbrev N_Evening_seat_count : List Str := ["self"]
theorem sc_Evening_seat_count : FnScope N_Evening_seat_count ["self"] (defScope s_Evening_seat_count) := ⟨rfl, rfl, rfl, by decide +kernel, rfl, by decide +kernel, by decide +kernel⟩
abbrev s_Evening_bills : Stmt := inClass (topS 22) 4
abbrev N_Evening_bills : List Str := ["self"]
theorem sc_Evening_bills : FnScope N_Evening_bills ["self"] (defScope s_Evening_bills) := ⟨rfl, rfl, rfl, by decide +kernel, rfl, by decide +kernel, by decide +kernel⟩
abbrev s_Evening__call_ : Stmt := inClass (topS 22) 5
abbrev N_Evening__call_ : List Str := ["self", "mark", "shares", "bill", "part"]
theorem sc_Evening__call_ : FnScope N_Evening__call_ ["self", "mark"] (defScope s_Evening__call_) := ⟨rfl, rfl, rfl, by decide +kernel, rfl, by decide +kernel, by decide +kernel⟩
abbrev s_Evening__getitem_ : Stmt := inClass (topS 22) 6
abbrev N_Evening__getitem_ : List Str := ["self", "index"]
theorem sc_Evening__getitem_ : FnScope N_Evening__getitem_ ["self", "index"] (defScope s_Evening__getitem_) := ⟨rfl, rfl, rfl, by decide +kernel, rfl, by decide +kernel, by decide +kernel⟩
abbrev s_Evening__iter_ : Stmt := inClass (topS 22) 7
abbrev N_Evening__iter_ : List Str := ["self"]
theorem sc_Evening__iter_ : FnScope N_Evening__iter_ ["self"] (defScope s_Evening__iter_) := ⟨rfl, rfl, rfl, by decide +kernel, rfl, by decide +kernel, by decide +kernel⟩
abbrev s_Evening__len_ : Stmt := inClass (topS 22) 8
abbrev N_Evening__len_ : List Str := ["self"]
theorem sc_Evening__len_ : FnScope N_Evening__len_ ["self"] (defScope s_Evening__len_) := ⟨rfl, rfl, rfl, by decide +kernel, rfl, by decide +kernel, by decide +kernel⟩
abbrev s_Evening__bool_ : Stmt := inClass (topS 22) 9
abbrev N_Evening__bool_ : List Str := ["self"]
theorem sc_Evening__bool_ : FnScope N_Evening__bool_ ["self"] (defScope s_Evening__bool_) := ⟨rfl, rfl, rfl, by decide +kernel, rfl, by decide +kernel, by decide +kernel⟩
abbrev s_Evening__add_ : Stmt := inClass (topS 22) 10
abbrev N_Evening__add_ : List Str := ["self", "other", "bills"]
theorem sc_Evening__add_ : FnScope N_Evening__add_ ["self", "other"] (defScope s_Evening__add_) := ⟨rfl, rfl, rfl, by decide +kernel, rfl, by decide +kernel, by decide +kernel⟩
abbrev s_Evening__mul_ : Stmt := inClass (topS 22) 11
abbrev N_Evening__mul_ : List Str := ["self", "times", "bills"]
theorem sc_Evening__mul_ : FnScope N_Evening__mul_ ["self", "times"] (defScope s_Evening__mul_) := ⟨rfl, rfl, rfl, by decide +kernel, rfl, by decide +kernel, by decide +kernel⟩
abbrev s_check_amount : Stmt := topS 23
abbrev N_check_amount : List Str := ["amount"]
theorem sc_check_amount : FnScope N_check_amount ["amount"] (defScope s_check_amount) := ⟨rfl, rfl, rfl, by decide +kernel, rfl, by decide +kernel, by decide +kernel⟩
abbrev s_check_seats : Stmt := topS 24
abbrev N_check_seats : List Str := ["seats", "lowest", "index", "seat"]
theorem sc_check_seats : FnScope N_check_seats ["seats"] (defScope s_check_seats) := ⟨rfl, rfl, rfl, by decide +kernel, rfl, by decide +kernel, by decide +kernel⟩
abbrev s_check_seat_count : Stmt := topS 25
abbrev N_check_seat_count : List Str := ["seat_count"]
theorem sc_check_seat_count : FnScope N_check_seat_count ["seat_count"] (defScope s_check_seat_count) := ⟨rfl, rfl, rfl, by decide +kernel, rfl, by decide +kernel, by decide +kernel⟩
abbrev s_check_bills : Stmt := topS 26
abbrev N_check_bills : List Str := ["seat_count", "bills", "index", "bill"]
theorem sc_check_bills : FnScope N_check_bills ["seat_count", "bills"] (defScope s_check_bills) := ⟨rfl, rfl, rfl, by decide +kernel, rfl, by decide +kernel, by decide +kernel⟩
abbrev s_check_mark : Stmt := topS 27
abbrev N_check_mark : List Str := ["mark", "seat_count"]
theorem sc_check_mark : FnScope N_check_mark ["mark", "seat_count"] (defScope s_check_mark) := ⟨rfl, rfl, rfl, by decide +kernel, rfl, by decide +kernel, by decide +kernel⟩
abbrev s_no_shares : Stmt := topS 28
abbrev N_no_shares : List Str := ["seat_count", "cents"]
theorem sc_no_shares : FnScope N_no_shares ["seat_count"] (defScope s_no_shares) := ⟨rfl, rfl, rfl, by decide +kernel, rfl, by decide +kernel, by decide +kernel⟩
abbrev s_seats_behind : Stmt := topS 29
abbrev N_seats_behind : List Str := ["mark", "seats", "seat"]
theorem sc_seats_behind : FnScope N_seats_behind ["mark", "seats"] (defScope s_seats_behind) := ⟨rfl, rfl, rfl, by decide +kernel, rfl, by decide +kernel, by decide +kernel⟩
abbrev s_split_bill : Stmt := topS 30
abbrev N_split_bill : List Str := ["bill", "mark", "seat_count", "cents", "seat"]
theorem sc_split_bill : FnScope N_split_bill ["bill", "mark", "seat_count"] (defScope s_split_bill) := ⟨rfl, rfl, rfl, by decide +kernel, rfl, by decide +kernel, by decide +kernel⟩
abbrev s_title_line : Stmt := topS 34
abbrev N_title_line : List Str := ["seat_count", "words", "signs", "left"]
theorem sc_title_line : FnScope N_title_line ["seat_count"] (defScope s_title_line) := ⟨rfl, rfl, rfl, by decide +kernel, rfl, by decide +kernel, by decide +kernel⟩
abbrev s_line_of : Stmt := topS 35
abbrev N_line_of : List Str := ["name", "told"]
theorem sc_line_of : FnScope N_line_of ["name", "told"] (defScope s_line_of) := ⟨rfl, rfl, rfl, by decide +kernel, rfl, by decide +kernel, by decide +kernel⟩
abbrev s_seat_line : Stmt := topS 36
abbrev N_seat_line : List Str := ["seat", "cents", "units", "rest"]
theorem sc_seat_line : FnScope N_seat_line ["seat", "cents"] (defScope s_seat_line) := ⟨rfl, rfl, rfl, by decide +kernel, rfl, by decide +kernel, by decide +kernel⟩
abbrev s_receipt : Stmt := topS 37
abbrev N_receipt : List Str := ["evening", "mark", "shares", "afterwards", "lines", "seat", "cents"]
theorem sc_receipt : FnScope N_receipt ["evening", "mark"] (defScope s_receipt) := ⟨rfl, rfl, rfl, by decide +kernel, rfl, by decide +kernel, by decide +kernel⟩
abbrev s_cents_of_line : Stmt := topS 38
abbrev N_cents_of_line : List Str := ["line", "seat", "digits"]
theorem sc_cents_of_line : FnScope N_cents_of_line ["line", "seat"] (defScope s_cents_of_line) := ⟨rfl, rfl, rfl, by decide +kernel, rfl, by decide +kernel, by decide +kernel⟩
abbrev s_mark_of_line : Stmt := topS 39
abbrev N_mark_of_line : List Str := ["line", "seat_count", "mark"]
theorem sc_mark_of_line : FnScope N_mark_of_line ["line", "seat_count"] (defScope s_mark_of_line) := ⟨rfl, rfl, rfl, by decide +kernel, rfl, by decide +kernel, by decide +kernel⟩
abbrev s_parse_receipt : Stmt := topS 40
abbrev N_parse_receipt : List Str := ["text", "lines", "seat_count", "cents", "seat", "mark"]
theorem sc_parse_receipt : FnScope N_parse_receipt ["text"] (defScope s_parse_receipt) := ⟨rfl, rfl, rfl, by decide +kernel, rfl, by decide +kernel, by decide +kernel⟩
abbrev s_amount_bytes : Stmt := topS 44
abbrev N_amount_bytes : List Str := ["amount", "groups"]
theorem sc_amount_bytes : FnScope N_amount_bytes ["amount"] (defScope s_amount_bytes) := ⟨rfl, rfl, rfl, by decide +kernel, rfl, by decide +kernel, by decide +kernel⟩
abbrev s_checksum : Stmt := topS 45
abbrev N_checksum : List Str := ["data", "offset", "byte"]
theorem sc_checksum : FnScope N_checksum ["data"] (defScope s_checksum) := ⟨rfl, rfl, rfl, by decide +kernel, rfl, by decide +kernel, by decide +kernel⟩
abbrev s_encode_evening : Stmt := topS 46
abbrev N_encode_evening : List Str := ["evening", "data", "bill", "seat"]
theorem sc_encode_evening : FnScope N_encode_evening ["evening"] (defScope s_encode_evening) := ⟨rfl, rfl, rfl, by decide +kernel, rfl, by decide +kernel, by decide +kernel⟩
abbrev s_byte_at : Stmt := topS 47
abbrev N_byte_at : List Str := ["data", "offset", "low", "high"]
theorem sc_byte_at : FnScope N_byte_at ["data", "offset", "low", "high"] (defScope s_byte_at) := ⟨rfl, rfl, rfl, by decide +kernel, rfl, by decide +kernel, by decide +kernel⟩
abbrev s_amount_at : Stmt := topS 48
abbrev N_amount_at : List Str := ["data", "first", "byte", "amount", "worth", "offset"]
theorem sc_amount_at : FnScope N_amount_at ["data", "first"] (defScope s_amount_at) := ⟨rfl, rfl, rfl, by decide +kernel, rfl, by decide +kernel, by decide +kernel⟩
abbrev s_decode_evening : Stmt := topS 49
abbrev N_decode_evening : List Str := ["data", "seat_count", "bill_count", "offset", "bills", "_", "amount", "seats", "expected"]
theorem sc_decode_evening : FnScope N_decode_evening ["data"] (defScope s_decode_evening) := ⟨rfl, rfl, rfl, by decide +kernel, rfl, by decide +kernel, by decide +kernel⟩
abbrev s_row_of : Stmt := topS 52
abbrev N_row_of : List Str := ["first", "numbers", "number"]
theorem sc_row_of : FnScope N_row_of ["first", "numbers"] (defScope s_row_of) := ⟨rfl, rfl, rfl, by decide +kernel, rfl, by decide +kernel, by decide +kernel⟩
abbrev s_format_evening : Stmt := topS 53
abbrev N_format_evening : List Str := ["evening", "rows", "bill"]
theorem sc_format_evening : FnScope N_format_evening ["evening"] (defScope s_format_evening) := ⟨rfl, rfl, rfl, by decide +kernel, rfl, by decide +kernel, by decide +kernel⟩
abbrev s_is_number : Stmt := topS 54
abbrev N_is_number : List Str := ["word"]
theorem sc_is_number : FnScope N_is_number ["word"] (defScope s_is_number) := ⟨rfl, rfl, rfl, by decide +kernel, rfl, by decide +kernel, by decide +kernel⟩
abbrev s_check_row : Stmt := topS 55
abbrev N_check_row : List Str := ["row", "words", "first", "fewest", "most", "at", "word", "right"]
theorem sc_check_row : FnScope N_check_row ["row", "words"] (defScope s_check_row) := ⟨rfl, rfl, rfl, by decide +kernel, rfl, by decide +kernel, by decide +kernel⟩
abbrev s_numbers_of_row : Stmt := topS 56
abbrev N_numbers_of_row : List Str := ["row", "text", "words", "word"]
theorem sc_numbers_of_row : FnScope N_numbers_of_row ["row", "text"] (defScope s_numbers_of_row) := ⟨rfl, rfl, rfl, by decide +kernel, rfl, by decide +kernel, by decide +kernel⟩
abbrev s_parse_evening : Stmt := topS 57
abbrev N_parse_evening : List Str := ["text", "rows", "row", "told", "seat_count", "bills", "numbers"]
theorem sc_parse_evening : FnScope N_parse_evening ["text"] (defScope s_parse_evening) := ⟨rfl, rfl, rfl, by decide +kernel, rfl, by decide +kernel, by decide +kernel⟩
abbrev s__law_mix : Stmt := topS 59
abbrev N__law_mix : List Str := ["_law_script", "_law_seed", "_law_state", "_law_cell"]
theorem sc__law_mix : FnScope N__law_mix ["_law_script", "_law_seed"] (defScope s__law_mix) := ⟨rfl, rfl, rfl, by decide +kernel, rfl, by decide +kernel, by decide +kernel⟩
abbrev s__law_next : Stmt := topS 60
abbrev N__law_next : List Str := ["_law_h", "_law_limit", "_law_cell"]
theorem sc__law_next : FnScope N__law_next ["_law_h", "_law_limit"] (defScope s__law_next) := ⟨rfl, rfl, rfl, by decide +kernel, rfl, by decide +kernel, by decide +kernel⟩
abbrev s__law_alike : Stmt := topS 61
abbrev N__law_alike : List Str := ["_law_found", "_law_due", "_law_k"]
theorem sc__law_alike : FnScope N__law_alike ["_law_found", "_law_due"] (defScope s__law_alike) := ⟨rfl, rfl, rfl, by decide +kernel, rfl, by decide +kernel, by decide +kernel⟩
abbrev s__law_bill : Stmt := topS 62
abbrev N__law_bill : List Str := ["_law_h", "_law_n", "_law_seats", "_law_seat"]
theorem sc__law_bill : FnScope N__law_bill ["_law_h", "_law_n"] (defScope s__law_bill) := ⟨rfl, rfl, rfl, by decide +kernel, rfl, by decide +kernel, by decide +kernel⟩
abbrev s__law_bills : Stmt := topS 63
abbrev N__law_bills : List Str := ["_law_h", "_law_n", "_law_most", "_law_k"]
theorem sc__law_bills : FnScope N__law_bills ["_law_h", "_law_n", "_law_most"] (defScope s__law_bills) := ⟨rfl, rfl, rfl, by decide +kernel, rfl, by decide +kernel, by decide +kernel⟩
abbrev s__law_text : Stmt := topS 64
abbrev N__law_text : List Str := ["_law_n", "_law_bills_here", "_law_rows", "_law_amount", "_law_seats", "_law_seat"]
theorem sc__law_text : FnScope N__law_text ["_law_n", "_law_bills_here"] (defScope s__law_text) := ⟨rfl, rfl, rfl, by decide +kernel, rfl, by decide +kernel, by decide +kernel⟩
abbrev s__law_pay : Stmt := topS 65
abbrev N__law_pay : List Str := ["_law_n", "_law_bill_here", "_law_mark", "_law_amount", "_law_seats", "_law_even", "_law_cents", "_law_odd", "_law_at", "_law_seat"]
theorem sc__law_pay : FnScope N__law_pay ["_law_n", "_law_bill_here", "_law_mark"] (defScope s__law_pay) := ⟨rfl, rfl, rfl, by decide +kernel, rfl, by decide +kernel, by decide +kernel⟩
abbrev s__law_paid : Stmt := topS 66
abbrev N__law_paid : List Str := ["_law_n", "_law_bills_here", "_law_mark", "_law_total", "_law_bill_here", "_law_cents", "_law_seat"]
theorem sc__law_paid : FnScope N__law_paid ["_law_n", "_law_bills_here", "_law_mark"] (defScope s__law_paid) := ⟨rfl, rfl, rfl, by decide +kernel, rfl, by decide +kernel, by decide +kernel⟩
abbrev s__law_money : Stmt := topS 67
abbrev N__law_money : List Str := ["_law_cents", "_law_whole", "_law_rest", "_law_groups", "_law_part"]
theorem sc__law_money : FnScope N__law_money ["_law_cents"] (defScope s__law_money) := ⟨rfl, rfl, rfl, by decide +kernel, rfl, by decide +kernel, by decide +kernel⟩
abbrev s__law_lines : Stmt := topS 68
abbrev N__law_lines : List Str := ["_law_n", "_law_cents", "_law_mark", "_law_title", "_law_left", "_law_found", "_law_seat", "_law_shown"]
theorem sc__law_lines : FnScope N__law_lines ["_law_n", "_law_cents", "_law_mark"] (defScope s__law_lines) := ⟨rfl, rfl, rfl, by decide +kernel, rfl, by decide +kernel, by decide +kernel⟩
abbrev s_law : Stmt := topS 69
abbrev N_law : List Str := ["_law_script", "_law_h", "_law_turn", "_law_n", "_law_bills_here", "_law_mark", "_law_evening", "_law_cents", "_law_later", "_law_again", "_law_one", "_law_shares", "_law_at", "_law_bill_here", "_law_told"]
theorem sc_law : FnScope N_law ["_law_script"] (defScope s_law) := ⟨rfl, rfl, rfl, by decide +kernel, rfl, by decide +kernel, by decide +kernel⟩
/-- where the top has laid what the text names -/
structure Ad where
  f__wall : Addr
  f_is_between : Addr
  f_is_digits : Addr
  f_seats_of : Addr
  f_check_amount : Addr
  f_check_seats : Addr
  f_check_seat_count : Addr
  f_check_bills : Addr
  f_check_mark : Addr
  f_no_shares : Addr
  f_seats_behind : Addr
  f_split_bill : Addr
  f_title_line : Addr
  f_line_of : Addr
  f_seat_line : Addr
  f_receipt : Addr
  f_cents_of_line : Addr
  f_mark_of_line : Addr
  f_parse_receipt : Addr
  f_amount_bytes : Addr
  f_checksum : Addr
  f_encode_evening : Addr
  f_byte_at : Addr
  f_amount_at : Addr
  f_decode_evening : Addr
  f_row_of : Addr
  f_format_evening : Addr
  f_is_number : Addr
  f_check_row : Addr
  f_numbers_of_row : Addr
  f_parse_evening : Addr
  f__law_mix : Addr
  f__law_next : Addr
  f__law_alike : Addr
  f__law_bill : Addr
  f__law_bills : Addr
  f__law_text : Addr
  f__law_pay : Addr
  f__law_paid : Addr
  f__law_money : Addr
  f__law_lines : Addr
  f_law : Addr
  c_CentError : Addr
  c_InvalidBill : Addr
  c_InvalidEvening : Addr
  c_InvalidMark : Addr
  c_UnknownSeat : Addr
  c_OtherTable : Addr
  c_InvalidNumber : Addr
  c_InvalidText : Addr
  c_InvalidReceipt : Addr
  c_DecodeError : Addr
  c_Shares : Addr
  f_Shares__init_ : Addr
  f_Shares_cents : Addr
  p_Shares_cents : Addr
  f_Shares_whole : Addr
  p_Shares_whole : Addr
  f_Shares__getitem_ : Addr
  f_Shares__iter_ : Addr
  f_Shares__len_ : Addr
  f_Shares__eq_ : Addr
  f_Shares__add_ : Addr
  f_Shares__sub_ : Addr
  f_Shares__mul_ : Addr
  f_Shares__neg_ : Addr
  f_Shares__abs_ : Addr
  c_Bill : Addr
  f_Bill__init_ : Addr
  f_Bill_amount : Addr
  p_Bill_amount : Addr
  f_Bill_seats : Addr
  p_Bill_seats : Addr
  f_Bill_odd_cents : Addr
  p_Bill_odd_cents : Addr
  f_Bill__contains_ : Addr
  c_Evening : Addr
  f_Evening__init_ : Addr
  f_Evening_together : Addr
  p_Evening_together : Addr
  f_Evening_seat_count : Addr
  p_Evening_seat_count : Addr
  f_Evening_bills : Addr
  p_Evening_bills : Addr
  f_Evening__call_ : Addr
  f_Evening__getitem_ : Addr
  f_Evening__iter_ : Addr
  f_Evening__len_ : Addr
  f_Evening__bool_ : Addr
  f_Evening__add_ : Addr
  f_Evening__mul_ : Addr
/-- what is true of them -/
structure Facts (K : PySem.W.Frag) (mg : Str → Option Value) (a : Ad) : Prop where
  z_TypeError : mg "TypeError" = none
  z_bool : mg "bool" = none
  z_classmethod : mg "classmethod" = none
  z_dict : mg "dict" = none
  z_divmod : mg "divmod" = none
  z_enumerate : mg "enumerate" = none
  z_int : mg "int" = none
  z_isinstance : mg "isinstance" = none
  z_len : mg "len" = none
  z_list : mg "list" = none
  z_max : mg "max" = none
  z_min : mg "min" = none
  z_property : mg "property" = none
  z_range : mg "range" = none
  z_sorted : mg "sorted" = none
  z_str : mg "str" = none
  z_sum : mg "sum" = none
  z_super : mg "super" = none
  z_tuple : mg "tuple" = none
  z_zip : mg "zip" = none
  i_MAX_AMOUNT : ∃ u, mg "MAX_AMOUNT" = some (.int 1000000000000 u)
  i_MIN_SEAT_COUNT : ∃ u, mg "MIN_SEAT_COUNT" = some (.int 2 u)
  i_LINE_SIGNS : ∃ u, mg "LINE_SIGNS" = some (.int 30 u)
  i_MAX_CENT_DIGITS : ∃ u, mg "MAX_CENT_DIGITS" = some (.int 24 u)
  i_FIRST_BYTE : ∃ u, mg "FIRST_BYTE" = some (.int 111 u)
  i_GROUP : ∃ u, mg "GROUP" = some (.int 128 u)
  i_MAX_DIGITS : ∃ u, mg "MAX_DIGITS" = some (.int 13 u)
  u__wall : ∃ fd, Fun K "_wall" "_wall" s__wall a.f__wall fd
  g__wall : mg "_wall" = some (.ref a.f__wall)
  u_is_between : ∃ fd, Fun K "is_between" "is_between" s_is_between a.f_is_between fd
  g_is_between : mg "is_between" = some (.ref a.f_is_between)
  u_is_digits : ∃ fd, Fun K "is_digits" "is_digits" s_is_digits a.f_is_digits fd
  g_is_digits : mg "is_digits" = some (.ref a.f_is_digits)
  u_seats_of : ∃ fd, Fun K "seats_of" "seats_of" s_seats_of a.f_seats_of fd
  g_seats_of : mg "seats_of" = some (.ref a.f_seats_of)
  u_check_amount : ∃ fd, Fun K "check_amount" "check_amount" s_check_amount a.f_check_amount fd
  g_check_amount : mg "check_amount" = some (.ref a.f_check_amount)
  u_check_seats : ∃ fd, Fun K "check_seats" "check_seats" s_check_seats a.f_check_seats fd
  g_check_seats : mg "check_seats" = some (.ref a.f_check_seats)
  u_check_seat_count : ∃ fd, Fun K "check_seat_count" "check_seat_count" s_check_seat_count a.f_check_seat_count fd
  g_check_seat_count : mg "check_seat_count" = some (.ref a.f_check_seat_count)
  u_check_bills : ∃ fd, Fun K "check_bills" "check_bills" s_check_bills a.f_check_bills fd
  g_check_bills : mg "check_bills" = some (.ref a.f_check_bills)
  u_check_mark : ∃ fd, Fun K "check_mark" "check_mark" s_check_mark a.f_check_mark fd
  g_check_mark : mg "check_mark" = some (.ref a.f_check_mark)
  u_no_shares : ∃ fd, Fun K "no_shares" "no_shares" s_no_shares a.f_no_shares fd
  g_no_shares : mg "no_shares" = some (.ref a.f_no_shares)
  u_seats_behind : ∃ fd, Fun K "seats_behind" "seats_behind" s_seats_behind a.f_seats_behind fd
  g_seats_behind : mg "seats_behind" = some (.ref a.f_seats_behind)
  u_split_bill : ∃ fd, Fun K "split_bill" "split_bill" s_split_bill a.f_split_bill fd
  g_split_bill : mg "split_bill" = some (.ref a.f_split_bill)
  u_title_line : ∃ fd, Fun K "title_line" "title_line" s_title_line a.f_title_line fd
  g_title_line : mg "title_line" = some (.ref a.f_title_line)
  u_line_of : ∃ fd, Fun K "line_of" "line_of" s_line_of a.f_line_of fd
  g_line_of : mg "line_of" = some (.ref a.f_line_of)
  u_seat_line : ∃ fd, Fun K "seat_line" "seat_line" s_seat_line a.f_seat_line fd
  g_seat_line : mg "seat_line" = some (.ref a.f_seat_line)
  u_receipt : ∃ fd, Fun K "receipt" "receipt" s_receipt a.f_receipt fd
  g_receipt : mg "receipt" = some (.ref a.f_receipt)
  u_cents_of_line : ∃ fd, Fun K "cents_of_line" "cents_of_line" s_cents_of_line a.f_cents_of_line fd
  g_cents_of_line : mg "cents_of_line" = some (.ref a.f_cents_of_line)
  u_mark_of_line : ∃ fd, Fun K "mark_of_line" "mark_of_line" s_mark_of_line a.f_mark_of_line fd
  g_mark_of_line : mg "mark_of_line" = some (.ref a.f_mark_of_line)
  u_parse_receipt : ∃ fd, Fun K "parse_receipt" "parse_receipt" s_parse_receipt a.f_parse_receipt fd
  g_parse_receipt : mg "parse_receipt" = some (.ref a.f_parse_receipt)
  u_amount_bytes : ∃ fd, Fun K "amount_bytes" "amount_bytes" s_amount_bytes a.f_amount_bytes fd
  g_amount_bytes : mg "amount_bytes" = some (.ref a.f_amount_bytes)
  u_checksum : ∃ fd, Fun K "checksum" "checksum" s_checksum a.f_checksum fd
  g_checksum : mg "checksum" = some (.ref a.f_checksum)
  u_encode_evening : ∃ fd, Fun K "encode_evening" "encode_evening" s_encode_evening a.f_encode_evening fd
  g_encode_evening : mg "encode_evening" = some (.ref a.f_encode_evening)
  u_byte_at : ∃ fd, Fun K "byte_at" "byte_at" s_byte_at a.f_byte_at fd
  g_byte_at : mg "byte_at" = some (.ref a.f_byte_at)
  u_amount_at : ∃ fd, Fun K "amount_at" "amount_at" s_amount_at a.f_amount_at fd
  g_amount_at : mg "amount_at" = some (.ref a.f_amount_at)
  u_decode_evening : ∃ fd, Fun K "decode_evening" "decode_evening" s_decode_evening a.f_decode_evening fd
  g_decode_evening : mg "decode_evening" = some (.ref a.f_decode_evening)
  u_row_of : ∃ fd, Fun K "row_of" "row_of" s_row_of a.f_row_of fd
  g_row_of : mg "row_of" = some (.ref a.f_row_of)
  u_format_evening : ∃ fd, Fun K "format_evening" "format_evening" s_format_evening a.f_format_evening fd
  g_format_evening : mg "format_evening" = some (.ref a.f_format_evening)
  u_is_number : ∃ fd, Fun K "is_number" "is_number" s_is_number a.f_is_number fd
  g_is_number : mg "is_number" = some (.ref a.f_is_number)
  u_check_row : ∃ fd, Fun K "check_row" "check_row" s_check_row a.f_check_row fd
  g_check_row : mg "check_row" = some (.ref a.f_check_row)
  u_numbers_of_row : ∃ fd, Fun K "numbers_of_row" "numbers_of_row" s_numbers_of_row a.f_numbers_of_row fd
  g_numbers_of_row : mg "numbers_of_row" = some (.ref a.f_numbers_of_row)
  u_parse_evening : ∃ fd, Fun K "parse_evening" "parse_evening" s_parse_evening a.f_parse_evening fd
  g_parse_evening : mg "parse_evening" = some (.ref a.f_parse_evening)
  u__law_mix : ∃ fd, Fun K "_law_mix" "_law_mix" s__law_mix a.f__law_mix fd
  g__law_mix : mg "_law_mix" = some (.ref a.f__law_mix)
  u__law_next : ∃ fd, Fun K "_law_next" "_law_next" s__law_next a.f__law_next fd
  g__law_next : mg "_law_next" = some (.ref a.f__law_next)
  u__law_alike : ∃ fd, Fun K "_law_alike" "_law_alike" s__law_alike a.f__law_alike fd
  g__law_alike : mg "_law_alike" = some (.ref a.f__law_alike)
  u__law_bill : ∃ fd, Fun K "_law_bill" "_law_bill" s__law_bill a.f__law_bill fd
  g__law_bill : mg "_law_bill" = some (.ref a.f__law_bill)
  u__law_bills : ∃ fd, Fun K "_law_bills" "_law_bills" s__law_bills a.f__law_bills fd
  g__law_bills : mg "_law_bills" = some (.ref a.f__law_bills)
  u__law_text : ∃ fd, Fun K "_law_text" "_law_text" s__law_text a.f__law_text fd
  g__law_text : mg "_law_text" = some (.ref a.f__law_text)
  u__law_pay : ∃ fd, Fun K "_law_pay" "_law_pay" s__law_pay a.f__law_pay fd
  g__law_pay : mg "_law_pay" = some (.ref a.f__law_pay)
  u__law_paid : ∃ fd, Fun K "_law_paid" "_law_paid" s__law_paid a.f__law_paid fd
  g__law_paid : mg "_law_paid" = some (.ref a.f__law_paid)
  u__law_money : ∃ fd, Fun K "_law_money" "_law_money" s__law_money a.f__law_money fd
  g__law_money : mg "_law_money" = some (.ref a.f__law_money)
  u__law_lines : ∃ fd, Fun K "_law_lines" "_law_lines" s__law_lines a.f__law_lines fd
  g__law_lines : mg "_law_lines" = some (.ref a.f__law_lines)
  u_law : ∃ fd, Fun K "law" "law" s_law a.f_law fd
  g_law : mg "law" = some (.ref a.f_law)
  x_CentError : ExcC K mg "CentError" a.c_CentError
  x_InvalidMark : ExcC K mg "InvalidMark" a.c_InvalidMark
  x_UnknownSeat : ExcC K mg "UnknownSeat" a.c_UnknownSeat
  x_OtherTable : ExcC K mg "OtherTable" a.c_OtherTable
  x_InvalidNumber : ExcC K mg "InvalidNumber" a.c_InvalidNumber
  g_Shares : mg "Shares" = some (.ref a.c_Shares)
  cl_Shares : Cls K a.c_Shares
  si_Shares : SlX.SIsi K a.c_Shares
  ob_Shares : PySem.W.subIn K (.ref a.c_Shares) (.type "object") = some true
  sf_Shares : PySem.W.selfFirst K a.c_Shares = true
  kit_Shares_tuple : PySem.W.kitOne K (.type "tuple") (.ref a.c_Shares) = some false
  kit_Shares_list : PySem.W.kitOne K (.type "list") (.ref a.c_Shares) = some false
  kit_Shares_int : PySem.W.kitOne K (.type "int") (.ref a.c_Shares) = some false
  na_Shares_cents : NoAttr K a.c_Shares "_cents"
  u_Shares__init_ : ∃ fd, Fun K "__init__" "Shares.__init__" s_Shares__init_ a.f_Shares__init_ fd
  m_Shares__init_ : Meth K a.c_Shares "__init__" a.f_Shares__init_
  mk_Shares : Mk K a.c_Shares a.f_Shares__init_
  u_Shares_cents : ∃ fd, Fun K "cents" "Shares.cents" s_Shares_cents a.f_Shares_cents fd
  pr_Shares_cents : PropOf K a.c_Shares "cents" a.p_Shares_cents a.f_Shares_cents
  u_Shares_whole : ∃ fd, Fun K "whole" "Shares.whole" s_Shares_whole a.f_Shares_whole fd
  pr_Shares_whole : PropOf K a.c_Shares "whole" a.p_Shares_whole a.f_Shares_whole
  u_Shares__getitem_ : ∃ fd, Fun K "__getitem__" "Shares.__getitem__" s_Shares__getitem_ a.f_Shares__getitem_ fd
  m_Shares__getitem_ : Meth K a.c_Shares "__getitem__" a.f_Shares__getitem_
  u_Shares__iter_ : ∃ fd, Fun K "__iter__" "Shares.__iter__" s_Shares__iter_ a.f_Shares__iter_ fd
  m_Shares__iter_ : Meth K a.c_Shares "__iter__" a.f_Shares__iter_
  u_Shares__len_ : ∃ fd, Fun K "__len__" "Shares.__len__" s_Shares__len_ a.f_Shares__len_ fd
  m_Shares__len_ : Meth K a.c_Shares "__len__" a.f_Shares__len_
  u_Shares__eq_ : ∃ fd, Fun K "__eq__" "Shares.__eq__" s_Shares__eq_ a.f_Shares__eq_ fd
  m_Shares__eq_ : Meth K a.c_Shares "__eq__" a.f_Shares__eq_
  ne_Shares__eq_ : OwnNe K a.c_Shares
  u_Shares__add_ : ∃ fd, Fun K "__add__" "Shares.__add__" s_Shares__add_ a.f_Shares__add_ fd
  m_Shares__add_ : Meth K a.c_Shares "__add__" a.f_Shares__add_
  u_Shares__sub_ : ∃ fd, Fun K "__sub__" "Shares.__sub__" s_Shares__sub_ a.f_Shares__sub_ fd
  m_Shares__sub_ : Meth K a.c_Shares "__sub__" a.f_Shares__sub_
  u_Shares__mul_ : ∃ fd, Fun K "__mul__" "Shares.__mul__" s_Shares__mul_ a.f_Shares__mul_ fd
  m_Shares__mul_ : Meth K a.c_Shares "__mul__" a.f_Shares__mul_
  oi_Shares__mul_ : OpInt K a.c_Shares "__mul__" "__rmul__"
  u_Shares__neg_ : ∃ fd, Fun K "__neg__" "Shares.__neg__" s_Shares__neg_ a.f_Shares__neg_ fd
  m_Shares__neg_ : Meth K a.c_Shares "__neg__" a.f_Shares__neg_
  u_Shares__abs_ : ∃ fd, Fun K "__abs__" "Shares.__abs__" s_Shares__abs_ a.f_Shares__abs_ fd
  m_Shares__abs_ : Meth K a.c_Shares "__abs__" a.f_Shares__abs_
  g_Bill : mg "Bill" = some (.ref a.c_Bill)
  cl_Bill : Cls K a.c_Bill
  si_Bill : SlX.SIsi K a.c_Bill
  ob_Bill : PySem.W.subIn K (.ref a.c_Bill) (.type "object") = some true
  sf_Bill : PySem.W.selfFirst K a.c_Bill = true
  kit_Bill_tuple : PySem.W.kitOne K (.type "tuple") (.ref a.c_Bill) = some false
  kit_Bill_list : PySem.W.kitOne K (.type "list") (.ref a.c_Bill) = some false
  kit_Bill_int : PySem.W.kitOne K (.type "int") (.ref a.c_Bill) = some false
  na_Bill_amount : NoAttr K a.c_Bill "_amount"
  na_Bill_seats : NoAttr K a.c_Bill "_seats"
  cr_Bill : ClX.CRead K a.c_Bill (.type "type")
  cv_Bill_MAX_SEATS : ∃ u, ClX.CVal K a.c_Bill (.type "type") "MAX_SEATS" (.int 8) u
  u_Bill__init_ : ∃ fd, Fun K "__init__" "Bill.__init__" s_Bill__init_ a.f_Bill__init_ fd
  m_Bill__init_ : Meth K a.c_Bill "__init__" a.f_Bill__init_
  mk_Bill : Mk K a.c_Bill a.f_Bill__init_
  u_Bill_amount : ∃ fd, Fun K "amount" "Bill.amount" s_Bill_amount a.f_Bill_amount fd
  pr_Bill_amount : PropOf K a.c_Bill "amount" a.p_Bill_amount a.f_Bill_amount
  u_Bill_seats : ∃ fd, Fun K "seats" "Bill.seats" s_Bill_seats a.f_Bill_seats fd
  pr_Bill_seats : PropOf K a.c_Bill "seats" a.p_Bill_seats a.f_Bill_seats
  u_Bill_odd_cents : ∃ fd, Fun K "odd_cents" "Bill.odd_cents" s_Bill_odd_cents a.f_Bill_odd_cents fd
  pr_Bill_odd_cents : PropOf K a.c_Bill "odd_cents" a.p_Bill_odd_cents a.f_Bill_odd_cents
  u_Bill__contains_ : ∃ fd, Fun K "__contains__" "Bill.__contains__" s_Bill__contains_ a.f_Bill__contains_ fd
  m_Bill__contains_ : Meth K a.c_Bill "__contains__" a.f_Bill__contains_
  g_Evening : mg "Evening" = some (.ref a.c_Evening)
  cl_Evening : Cls K a.c_Evening
  si_Evening : SlX.SIsi K a.c_Evening
  ob_Evening : PySem.W.subIn K (.ref a.c_Evening) (.type "object") = some true
  sf_Evening : PySem.W.selfFirst K a.c_Evening = true
  kit_Evening_tuple : PySem.W.kitOne K (.type "tuple") (.ref a.c_Evening) = some false
  kit_Evening_list : PySem.W.kitOne K (.type "list") (.ref a.c_Evening) = some false
  kit_Evening_int : PySem.W.kitOne K (.type "int") (.ref a.c_Evening) = some false
  na_Evening_seat_count : NoAttr K a.c_Evening "_seat_count"
  na_Evening_bills : NoAttr K a.c_Evening "_bills"
  cr_Evening : ClX.CRead K a.c_Evening (.type "type")
  cv_Evening_MAX_BILLS : ∃ u, ClX.CVal K a.c_Evening (.type "type") "MAX_BILLS" (.int 30) u
  u_Evening__init_ : ∃ fd, Fun K "__init__" "Evening.__init__" s_Evening__init_ a.f_Evening__init_ fd
  m_Evening__init_ : Meth K a.c_Evening "__init__" a.f_Evening__init_
  mk_Evening : Mk K a.c_Evening a.f_Evening__init_
  u_Evening_together : ∃ fd, Fun K "together" "Evening.together" s_Evening_together a.f_Evening_together fd
  cm_Evening_together : ClX.CMet K a.c_Evening (.type "type") "together" a.p_Evening_together a.f_Evening_together
  u_Evening_seat_count : ∃ fd, Fun K "seat_count" "Evening.seat_count" s_Evening_seat_count a.f_Evening_seat_count fd
  pr_Evening_seat_count : PropOf K a.c_Evening "seat_count" a.p_Evening_seat_count a.f_Evening_seat_count
  u_Evening_bills : ∃ fd, Fun K "bills" "Evening.bills" s_Evening_bills a.f_Evening_bills fd
  pr_Evening_bills : PropOf K a.c_Evening "bills" a.p_Evening_bills a.f_Evening_bills
  u_Evening__call_ : ∃ fd, Fun K "__call__" "Evening.__call__" s_Evening__call_ a.f_Evening__call_ fd
  m_Evening__call_ : Meth K a.c_Evening "__call__" a.f_Evening__call_
  co_Evening : StX.CallO K a.c_Evening a.f_Evening__call_
  u_Evening__getitem_ : ∃ fd, Fun K "__getitem__" "Evening.__getitem__" s_Evening__getitem_ a.f_Evening__getitem_ fd
  m_Evening__getitem_ : Meth K a.c_Evening "__getitem__" a.f_Evening__getitem_
  u_Evening__iter_ : ∃ fd, Fun K "__iter__" "Evening.__iter__" s_Evening__iter_ a.f_Evening__iter_ fd
  m_Evening__iter_ : Meth K a.c_Evening "__iter__" a.f_Evening__iter_
  u_Evening__len_ : ∃ fd, Fun K "__len__" "Evening.__len__" s_Evening__len_ a.f_Evening__len_ fd
  m_Evening__len_ : Meth K a.c_Evening "__len__" a.f_Evening__len_
  u_Evening__bool_ : ∃ fd, Fun K "__bool__" "Evening.__bool__" s_Evening__bool_ a.f_Evening__bool_ fd
  m_Evening__bool_ : Meth K a.c_Evening "__bool__" a.f_Evening__bool_
  u_Evening__add_ : ∃ fd, Fun K "__add__" "Evening.__add__" s_Evening__add_ a.f_Evening__add_ fd
  m_Evening__add_ : Meth K a.c_Evening "__add__" a.f_Evening__add_
  u_Evening__mul_ : ∃ fd, Fun K "__mul__" "Evening.__mul__" s_Evening__mul_ a.f_Evening__mul_ fd
  m_Evening__mul_ : Meth K a.c_Evening "__mul__" a.f_Evening__mul_
  oi_Evening__mul_ : OpInt K a.c_Evening "__mul__" "__rmul__"
theorem all_mk {K : PySem.W.Frag} {h : Heap} {mg : Str → Option Value} {f__wall f_is_between f_is_digits f_seats_of f_check_amount f_check_seats f_check_seat_count f_check_bills f_check_mark f_no_shares f_seats_behind f_split_bill f_title_line f_line_of f_seat_line f_receipt f_cents_of_line f_mark_of_line f_parse_receipt f_amount_bytes f_checksum f_encode_evening f_byte_at f_amount_at f_decode_evening f_row_of f_format_evening f_is_number f_check_row f_numbers_of_row f_parse_evening f__law_mix f__law_next f__law_alike f__law_bill f__law_bills f__law_text f__law_pay f__law_paid f__law_money f__law_lines f_law c_CentError c_InvalidBill c_InvalidEvening c_InvalidMark c_UnknownSeat c_OtherTable c_InvalidNumber c_InvalidText c_InvalidReceipt c_DecodeError c_Shares f_Shares__init_ f_Shares_cents p_Shares_cents f_Shares_whole p_Shares_whole f_Shares__getitem_ f_Shares__iter_ f_Shares__len_ f_Shares__eq_ f_Shares__add_ f_Shares__sub_ f_Shares__mul_ f_Shares__neg_ f_Shares__abs_ c_Bill f_Bill__init_ f_Bill_amount p_Bill_amount f_Bill_seats p_Bill_seats f_Bill_odd_cents p_Bill_odd_cents f_Bill__contains_ c_Evening f_Evening__init_ f_Evening_together p_Evening_together f_Evening_seat_count p_Evening_seat_count f_Evening_bills p_Evening_bills f_Evening__call_ f_Evening__getitem_ f_Evening__iter_ f_Evening__len_ f_Evening__bool_ f_Evening__add_ f_Evening__mul_ : Addr} (X : K.In h) (G : h.Ns mainGlobals mg)
    {tk_MAX_AMOUNT : Tok}
    {tk_MIN_SEAT_COUNT : Tok}
    {tk_LINE_SIGNS : Tok}
    {tk_MAX_CENT_DIGITS : Tok}
    {tk_FIRST_BYTE : Tok}
    {tk_GROUP : Tok}
    {tk_MAX_DIGITS : Tok}
    {od1 an1 : Option Addr} {sl1 : Array (Option Value)} {oc1 kV1 dc1 pm1 cd1 ct1 : Value}
    {od2 an2 : Option Addr} {sl2 : Array (Option Value)} {oc2 kV2 dc2 pm2 cd2 ct2 : Value}
    {od3 an3 : Option Addr} {sl3 : Array (Option Value)} {oc3 kV3 dc3 pm3 cd3 ct3 : Value}
    {od4 an4 : Option Addr} {sl4 : Array (Option Value)} {oc4 kV4 dc4 pm4 cd4 ct4 : Value}
    {od5 an5 : Option Addr} {sl5 : Array (Option Value)} {oc5 kV5 dc5 pm5 cd5 ct5 : Value}
    {od6 an6 : Option Addr} {sl6 : Array (Option Value)} {oc6 kV6 dc6 pm6 cd6 ct6 : Value}
    {od7 an7 : Option Addr} {sl7 : Array (Option Value)} {oc7 kV7 dc7 pm7 cd7 ct7 : Value}
    {od8 an8 : Option Addr} {sl8 : Array (Option Value)} {oc8 kV8 dc8 pm8 cd8 ct8 : Value}
    {od9 an9 : Option Addr} {sl9 : Array (Option Value)} {oc9 kV9 dc9 pm9 cd9 ct9 : Value}
    {od10 an10 : Option Addr} {sl10 : Array (Option Value)} {oc10 kV10 dc10 pm10 cd10 ct10 : Value}
    {od11 an11 : Option Addr} {sl11 : Array (Option Value)} {oc11 kV11 dc11 pm11 cd11 ct11 : Value}
    {od12 an12 : Option Addr} {sl12 : Array (Option Value)} {oc12 kV12 dc12 pm12 cd12 ct12 : Value}
    {od13 an13 : Option Addr} {sl13 : Array (Option Value)} {oc13 kV13 dc13 pm13 cd13 ct13 : Value}
    {od14 an14 : Option Addr} {sl14 : Array (Option Value)} {oc14 kV14 dc14 pm14 cd14 ct14 : Value}
    {od15 an15 : Option Addr} {sl15 : Array (Option Value)} {oc15 kV15 dc15 pm15 cd15 ct15 : Value}
    {od16 an16 : Option Addr} {sl16 : Array (Option Value)} {oc16 kV16 dc16 pm16 cd16 ct16 : Value}
    {od17 an17 : Option Addr} {sl17 : Array (Option Value)} {oc17 kV17 dc17 pm17 cd17 ct17 : Value}
    {od18 an18 : Option Addr} {sl18 : Array (Option Value)} {oc18 kV18 dc18 pm18 cd18 ct18 : Value}
    {od19 an19 : Option Addr} {sl19 : Array (Option Value)} {oc19 kV19 dc19 pm19 cd19 ct19 : Value}
    {od20 an20 : Option Addr} {sl20 : Array (Option Value)} {oc20 kV20 dc20 pm20 cd20 ct20 : Value}
    {od21 an21 : Option Addr} {sl21 : Array (Option Value)} {oc21 kV21 dc21 pm21 cd21 ct21 : Value}
    {od22 an22 : Option Addr} {sl22 : Array (Option Value)} {oc22 kV22 dc22 pm22 cd22 ct22 : Value}
    {od23 an23 : Option Addr} {sl23 : Array (Option Value)} {oc23 kV23 dc23 pm23 cd23 ct23 : Value}
    {od24 an24 : Option Addr} {sl24 : Array (Option Value)} {oc24 kV24 dc24 pm24 cd24 ct24 : Value}
    {od25 an25 : Option Addr} {sl25 : Array (Option Value)} {oc25 kV25 dc25 pm25 cd25 ct25 : Value}
    {od26 an26 : Option Addr} {sl26 : Array (Option Value)} {oc26 kV26 dc26 pm26 cd26 ct26 : Value}
    {od27 an27 : Option Addr} {sl27 : Array (Option Value)} {oc27 kV27 dc27 pm27 cd27 ct27 : Value}
    {od28 an28 : Option Addr} {sl28 : Array (Option Value)} {oc28 kV28 dc28 pm28 cd28 ct28 : Value}
    {od29 an29 : Option Addr} {sl29 : Array (Option Value)} {oc29 kV29 dc29 pm29 cd29 ct29 : Value}
    {od30 an30 : Option Addr} {sl30 : Array (Option Value)} {oc30 kV30 dc30 pm30 cd30 ct30 : Value}
    {od31 an31 : Option Addr} {sl31 : Array (Option Value)} {oc31 kV31 dc31 pm31 cd31 ct31 : Value}
    {od32 an32 : Option Addr} {sl32 : Array (Option Value)} {oc32 kV32 dc32 pm32 cd32 ct32 : Value}
    {od33 an33 : Option Addr} {sl33 : Array (Option Value)} {oc33 kV33 dc33 pm33 cd33 ct33 : Value}
    {od34 an34 : Option Addr} {sl34 : Array (Option Value)} {oc34 kV34 dc34 pm34 cd34 ct34 : Value}
    {od35 an35 : Option Addr} {sl35 : Array (Option Value)} {oc35 kV35 dc35 pm35 cd35 ct35 : Value}
    {od36 an36 : Option Addr} {sl36 : Array (Option Value)} {oc36 kV36 dc36 pm36 cd36 ct36 : Value}
    {od37 an37 : Option Addr} {sl37 : Array (Option Value)} {oc37 kV37 dc37 pm37 cd37 ct37 : Value}
    {od38 an38 : Option Addr} {sl38 : Array (Option Value)} {oc38 kV38 dc38 pm38 cd38 ct38 : Value}
    {od39 an39 : Option Addr} {sl39 : Array (Option Value)} {oc39 kV39 dc39 pm39 cd39 ct39 : Value}
    {od40 an40 : Option Addr} {sl40 : Array (Option Value)} {oc40 kV40 dc40 pm40 cd40 ct40 : Value}
    {od41 an41 : Option Addr} {sl41 : Array (Option Value)} {oc41 kV41 dc41 pm41 cd41 ct41 : Value}
    {od42 an42 : Option Addr} {sl42 : Array (Option Value)} {oc42 kV42 dc42 pm42 cd42 ct42 : Value}
    {od43 an43 : Option Addr} {sl43 : Array (Option Value)} {oc43 kV43 dc43 pm43 cd43 ct43 : Value}
    {rs_Shares_cents : List Value}
    {od44 an44 : Option Addr} {sl44 : Array (Option Value)} {oc44 kV44 dc44 pm44 cd44 ct44 : Value}
    {rs_Shares_whole : List Value}
    {od45 an45 : Option Addr} {sl45 : Array (Option Value)} {oc45 kV45 dc45 pm45 cd45 ct45 : Value}
    {od46 an46 : Option Addr} {sl46 : Array (Option Value)} {oc46 kV46 dc46 pm46 cd46 ct46 : Value}
    {od47 an47 : Option Addr} {sl47 : Array (Option Value)} {oc47 kV47 dc47 pm47 cd47 ct47 : Value}
    {od48 an48 : Option Addr} {sl48 : Array (Option Value)} {oc48 kV48 dc48 pm48 cd48 ct48 : Value}
    {od49 an49 : Option Addr} {sl49 : Array (Option Value)} {oc49 kV49 dc49 pm49 cd49 ct49 : Value}
    {od50 an50 : Option Addr} {sl50 : Array (Option Value)} {oc50 kV50 dc50 pm50 cd50 ct50 : Value}
    {od51 an51 : Option Addr} {sl51 : Array (Option Value)} {oc51 kV51 dc51 pm51 cd51 ct51 : Value}
    {od52 an52 : Option Addr} {sl52 : Array (Option Value)} {oc52 kV52 dc52 pm52 cd52 ct52 : Value}
    {fo_Shares__mul_ ro_Shares__mul_ : Option Value}
    {od53 an53 : Option Addr} {sl53 : Array (Option Value)} {oc53 kV53 dc53 pm53 cd53 ct53 : Value}
    {od54 an54 : Option Addr} {sl54 : Array (Option Value)} {oc54 kV54 dc54 pm54 cd54 ct54 : Value}
    {tk_Bill_MAX_SEATS : Tok}
    {od55 an55 : Option Addr} {sl55 : Array (Option Value)} {oc55 kV55 dc55 pm55 cd55 ct55 : Value}
    {rs_Bill_amount : List Value}
    {od56 an56 : Option Addr} {sl56 : Array (Option Value)} {oc56 kV56 dc56 pm56 cd56 ct56 : Value}
    {rs_Bill_seats : List Value}
    {od57 an57 : Option Addr} {sl57 : Array (Option Value)} {oc57 kV57 dc57 pm57 cd57 ct57 : Value}
    {rs_Bill_odd_cents : List Value}
    {od58 an58 : Option Addr} {sl58 : Array (Option Value)} {oc58 kV58 dc58 pm58 cd58 ct58 : Value}
    {od59 an59 : Option Addr} {sl59 : Array (Option Value)} {oc59 kV59 dc59 pm59 cd59 ct59 : Value}
    {tk_Evening_MAX_BILLS : Tok}
    {od60 an60 : Option Addr} {sl60 : Array (Option Value)} {oc60 kV60 dc60 pm60 cd60 ct60 : Value}
    {rs_Evening_together : List Value}
    {od61 an61 : Option Addr} {sl61 : Array (Option Value)} {oc61 kV61 dc61 pm61 cd61 ct61 : Value}
    {rs_Evening_seat_count : List Value}
    {od62 an62 : Option Addr} {sl62 : Array (Option Value)} {oc62 kV62 dc62 pm62 cd62 ct62 : Value}
    {rs_Evening_bills : List Value}
    {od63 an63 : Option Addr} {sl63 : Array (Option Value)} {oc63 kV63 dc63 pm63 cd63 ct63 : Value}
    {od64 an64 : Option Addr} {sl64 : Array (Option Value)} {oc64 kV64 dc64 pm64 cd64 ct64 : Value}
    {od65 an65 : Option Addr} {sl65 : Array (Option Value)} {oc65 kV65 dc65 pm65 cd65 ct65 : Value}
    {od66 an66 : Option Addr} {sl66 : Array (Option Value)} {oc66 kV66 dc66 pm66 cd66 ct66 : Value}
    {od67 an67 : Option Addr} {sl67 : Array (Option Value)} {oc67 kV67 dc67 pm67 cd67 ct67 : Value}
    {od68 an68 : Option Addr} {sl68 : Array (Option Value)} {oc68 kV68 dc68 pm68 cd68 ct68 : Value}
    {od69 an69 : Option Addr} {sl69 : Array (Option Value)} {oc69 kV69 dc69 pm69 cd69 ct69 : Value}
    {od70 an70 : Option Addr} {sl70 : Array (Option Value)} {oc70 kV70 dc70 pm70 cd70 ct70 : Value}
    {fo_Evening__mul_ ro_Evening__mul_ : Option Value}
    (z_TypeError : PySem.W.nsIn K mainGlobals "TypeError" = some none)
    (z_bool : PySem.W.nsIn K mainGlobals "bool" = some none)
    (z_classmethod : PySem.W.nsIn K mainGlobals "classmethod" = some none)
    (z_dict : PySem.W.nsIn K mainGlobals "dict" = some none)
    (z_divmod : PySem.W.nsIn K mainGlobals "divmod" = some none)
    (z_enumerate : PySem.W.nsIn K mainGlobals "enumerate" = some none)
    (z_int : PySem.W.nsIn K mainGlobals "int" = some none)
    (z_isinstance : PySem.W.nsIn K mainGlobals "isinstance" = some none)
    (z_len : PySem.W.nsIn K mainGlobals "len" = some none)
    (z_list : PySem.W.nsIn K mainGlobals "list" = some none)
    (z_max : PySem.W.nsIn K mainGlobals "max" = some none)
    (z_min : PySem.W.nsIn K mainGlobals "min" = some none)
    (z_property : PySem.W.nsIn K mainGlobals "property" = some none)
    (z_range : PySem.W.nsIn K mainGlobals "range" = some none)
    (z_sorted : PySem.W.nsIn K mainGlobals "sorted" = some none)
    (z_str : PySem.W.nsIn K mainGlobals "str" = some none)
    (z_sum : PySem.W.nsIn K mainGlobals "sum" = some none)
    (z_super : PySem.W.nsIn K mainGlobals "super" = some none)
    (z_tuple : PySem.W.nsIn K mainGlobals "tuple" = some none)
    (z_zip : PySem.W.nsIn K mainGlobals "zip" = some none)
    (g_MAX_AMOUNT : PySem.W.nsIn K mainGlobals "MAX_AMOUNT" = some (some (.int 1000000000000 tk_MAX_AMOUNT)))
    (g_MIN_SEAT_COUNT : PySem.W.nsIn K mainGlobals "MIN_SEAT_COUNT" = some (some (.int 2 tk_MIN_SEAT_COUNT)))
    (g_LINE_SIGNS : PySem.W.nsIn K mainGlobals "LINE_SIGNS" = some (some (.int 30 tk_LINE_SIGNS)))
    (g_MAX_CENT_DIGITS : PySem.W.nsIn K mainGlobals "MAX_CENT_DIGITS" = some (some (.int 24 tk_MAX_CENT_DIGITS)))
    (g_FIRST_BYTE : PySem.W.nsIn K mainGlobals "FIRST_BYTE" = some (some (.int 111 tk_FIRST_BYTE)))
    (g_GROUP : PySem.W.nsIn K mainGlobals "GROUP" = some (some (.int 128 tk_GROUP)))
    (g_MAX_DIGITS : PySem.W.nsIn K mainGlobals "MAX_DIGITS" = some (some (.int 13 tk_MAX_DIGITS)))
    (g__wall : PySem.W.nsIn K mainGlobals "_wall" = some (some (.ref f__wall)))
    (l1 : K.lookup f__wall = some ⟨oc1, od1, .func (PySem.W.fnOf "_wall" "_wall" (defArgs s__wall) (defBody s__wall) (defScope s__wall) .none kV1 dc1 pm1 an1 cd1 ct1), sl1⟩)
    (c1 : PySem.W.codeIn K cd1 "_wall" = true)
    (k1 : PySem.W.keepIn K (.ref f__wall) = true)
    (g_is_between : PySem.W.nsIn K mainGlobals "is_between" = some (some (.ref f_is_between)))
    (l2 : K.lookup f_is_between = some ⟨oc2, od2, .func (PySem.W.fnOf "is_between" "is_between" (defArgs s_is_between) (defBody s_is_between) (defScope s_is_between) .none kV2 dc2 pm2 an2 cd2 ct2), sl2⟩)
    (c2 : PySem.W.codeIn K cd2 "is_between" = true)
    (k2 : PySem.W.keepIn K (.ref f_is_between) = true)
    (g_is_digits : PySem.W.nsIn K mainGlobals "is_digits" = some (some (.ref f_is_digits)))
    (l3 : K.lookup f_is_digits = some ⟨oc3, od3, .func (PySem.W.fnOf "is_digits" "is_digits" (defArgs s_is_digits) (defBody s_is_digits) (defScope s_is_digits) .none kV3 dc3 pm3 an3 cd3 ct3), sl3⟩)
    (c3 : PySem.W.codeIn K cd3 "is_digits" = true)
    (k3 : PySem.W.keepIn K (.ref f_is_digits) = true)
    (g_seats_of : PySem.W.nsIn K mainGlobals "seats_of" = some (some (.ref f_seats_of)))
    (l4 : K.lookup f_seats_of = some ⟨oc4, od4, .func (PySem.W.fnOf "seats_of" "seats_of" (defArgs s_seats_of) (defBody s_seats_of) (defScope s_seats_of) .none kV4 dc4 pm4 an4 cd4 ct4), sl4⟩)
    (c4 : PySem.W.codeIn K cd4 "seats_of" = true)
    (k4 : PySem.W.keepIn K (.ref f_seats_of) = true)
    (g_check_amount : PySem.W.nsIn K mainGlobals "check_amount" = some (some (.ref f_check_amount)))
    (l5 : K.lookup f_check_amount = some ⟨oc5, od5, .func (PySem.W.fnOf "check_amount" "check_amount" (defArgs s_check_amount) (defBody s_check_amount) (defScope s_check_amount) .none kV5 dc5 pm5 an5 cd5 ct5), sl5⟩)
    (c5 : PySem.W.codeIn K cd5 "check_amount" = true)
    (k5 : PySem.W.keepIn K (.ref f_check_amount) = true)
    (g_check_seats : PySem.W.nsIn K mainGlobals "check_seats" = some (some (.ref f_check_seats)))
    (l6 : K.lookup f_check_seats = some ⟨oc6, od6, .func (PySem.W.fnOf "check_seats" "check_seats" (defArgs s_check_seats) (defBody s_check_seats) (defScope s_check_seats) .none kV6 dc6 pm6 an6 cd6 ct6), sl6⟩)
    (c6 : PySem.W.codeIn K cd6 "check_seats" = true)
    (k6 : PySem.W.keepIn K (.ref f_check_seats) = true)
    (g_check_seat_count : PySem.W.nsIn K mainGlobals "check_seat_count" = some (some (.ref f_check_seat_count)))
    (l7 : K.lookup f_check_seat_count = some ⟨oc7, od7, .func (PySem.W.fnOf "check_seat_count" "check_seat_count" (defArgs s_check_seat_count) (defBody s_check_seat_count) (defScope s_check_seat_count) .none kV7 dc7 pm7 an7 cd7 ct7), sl7⟩)
    (c7 : PySem.W.codeIn K cd7 "check_seat_count" = true)
    (k7 : PySem.W.keepIn K (.ref f_check_seat_count) = true)
    (g_check_bills : PySem.W.nsIn K mainGlobals "check_bills" = some (some (.ref f_check_bills)))
    (l8 : K.lookup f_check_bills = some ⟨oc8, od8, .func (PySem.W.fnOf "check_bills" "check_bills" (defArgs s_check_bills) (defBody s_check_bills) (defScope s_check_bills) .none kV8 dc8 pm8 an8 cd8 ct8), sl8⟩)
    (c8 : PySem.W.codeIn K cd8 "check_bills" = true)
    (k8 : PySem.W.keepIn K (.ref f_check_bills) = true)
    (g_check_mark : PySem.W.nsIn K mainGlobals "check_mark" = some (some (.ref f_check_mark)))
    (l9 : K.lookup f_check_mark = some ⟨oc9, od9, .func (PySem.W.fnOf "check_mark" "check_mark" (defArgs s_check_mark) (defBody s_check_mark) (defScope s_check_mark) .none kV9 dc9 pm9 an9 cd9 ct9), sl9⟩)
    (c9 : PySem.W.codeIn K cd9 "check_mark" = true)
    (k9 : PySem.W.keepIn K (.ref f_check_mark) = true)
    (g_no_shares : PySem.W.nsIn K mainGlobals "no_shares" = some (some (.ref f_no_shares)))
    (l10 : K.lookup f_no_shares = some ⟨oc10, od10, .func (PySem.W.fnOf "no_shares" "no_shares" (defArgs s_no_shares) (defBody s_no_shares) (defScope s_no_shares) .none kV10 dc10 pm10 an10 cd10 ct10), sl10⟩)
    (c10 : PySem.W.codeIn K cd10 "no_shares" = true)
    (k10 : PySem.W.keepIn K (.ref f_no_shares) = true)
    (g_seats_behind : PySem.W.nsIn K mainGlobals "seats_behind" = some (some (.ref f_seats_behind)))
    (l11 : K.lookup f_seats_behind = some ⟨oc11, od11, .func (PySem.W.fnOf "seats_behind" "seats_behind" (defArgs s_seats_behind) (defBody s_seats_behind) (defScope s_seats_behind) .none kV11 dc11 pm11 an11 cd11 ct11), sl11⟩)
    (c11 : PySem.W.codeIn K cd11 "seats_behind" = true)
    (k11 : PySem.W.keepIn K (.ref f_seats_behind) = true)
    (g_split_bill : PySem.W.nsIn K mainGlobals "split_bill" = some (some (.ref f_split_bill)))
    (l12 : K.lookup f_split_bill = some ⟨oc12, od12, .func (PySem.W.fnOf "split_bill" "split_bill" (defArgs s_split_bill) (defBody s_split_bill) (defScope s_split_bill) .none kV12 dc12 pm12 an12 cd12 ct12), sl12⟩)
    (c12 : PySem.W.codeIn K cd12 "split_bill" = true)
    (k12 : PySem.W.keepIn K (.ref f_split_bill) = true)
    (g_title_line : PySem.W.nsIn K mainGlobals "title_line" = some (some (.ref f_title_line)))
    (l13 : K.lookup f_title_line = some ⟨oc13, od13, .func (PySem.W.fnOf "title_line" "title_line" (defArgs s_title_line) (defBody s_title_line) (defScope s_title_line) .none kV13 dc13 pm13 an13 cd13 ct13), sl13⟩)
    (c13 : PySem.W.codeIn K cd13 "title_line" = true)
    (k13 : PySem.W.keepIn K (.ref f_title_line) = true)
    (g_line_of : PySem.W.nsIn K mainGlobals "line_of" = some (some (.ref f_line_of)))
    (l14 : K.lookup f_line_of = some ⟨oc14, od14, .func (PySem.W.fnOf "line_of" "line_of" (defArgs s_line_of) (defBody s_line_of) (defScope s_line_of) .none kV14 dc14 pm14 an14 cd14 ct14), sl14⟩)
    (c14 : PySem.W.codeIn K cd14 "line_of" = true)
    (k14 : PySem.W.keepIn K (.ref f_line_of) = true)
    (g_seat_line : PySem.W.nsIn K mainGlobals "seat_line" = some (some (.ref f_seat_line)))
    (l15 : K.lookup f_seat_line = some ⟨oc15, od15, .func (PySem.W.fnOf "seat_line" "seat_line" (defArgs s_seat_line) (defBody s_seat_line) (defScope s_seat_line) .none kV15 dc15 pm15 an15 cd15 ct15), sl15⟩)
    (c15 : PySem.W.codeIn K cd15 "seat_line" = true)
    (k15 : PySem.W.keepIn K (.ref f_seat_line) = true)
    (g_receipt : PySem.W.nsIn K mainGlobals "receipt" = some (some (.ref f_receipt)))
    (l16 : K.lookup f_receipt = some ⟨oc16, od16, .func (PySem.W.fnOf "receipt" "receipt" (defArgs s_receipt) (defBody s_receipt) (defScope s_receipt) .none kV16 dc16 pm16 an16 cd16 ct16), sl16⟩)
    (c16 : PySem.W.codeIn K cd16 "receipt" = true)
    (k16 : PySem.W.keepIn K (.ref f_receipt) = true)
    (g_cents_of_line : PySem.W.nsIn K mainGlobals "cents_of_line" = some (some (.ref f_cents_of_line)))
    (l17 : K.lookup f_cents_of_line = some ⟨oc17, od17, .func (PySem.W.fnOf "cents_of_line" "cents_of_line" (defArgs s_cents_of_line) (defBody s_cents_of_line) (defScope s_cents_of_line) .none kV17 dc17 pm17 an17 cd17 ct17), sl17⟩)
    (c17 : PySem.W.codeIn K cd17 "cents_of_line" = true)
    (k17 : PySem.W.keepIn K (.ref f_cents_of_line) = true)
    (g_mark_of_line : PySem.W.nsIn K mainGlobals "mark_of_line" = some (some (.ref f_mark_of_line)))
    (l18 : K.lookup f_mark_of_line = some ⟨oc18, od18, .func (PySem.W.fnOf "mark_of_line" "mark_of_line" (defArgs s_mark_of_line) (defBody s_mark_of_line) (defScope s_mark_of_line) .none kV18 dc18 pm18 an18 cd18 ct18), sl18⟩)
    (c18 : PySem.W.codeIn K cd18 "mark_of_line" = true)
    (k18 : PySem.W.keepIn K (.ref f_mark_of_line) = true)
    (g_parse_receipt : PySem.W.nsIn K mainGlobals "parse_receipt" = some (some (.ref f_parse_receipt)))
    (l19 : K.lookup f_parse_receipt = some ⟨oc19, od19, .func (PySem.W.fnOf "parse_receipt" "parse_receipt" (defArgs s_parse_receipt) (defBody s_parse_receipt) (defScope s_parse_receipt) .none kV19 dc19 pm19 an19 cd19 ct19), sl19⟩)
    (c19 : PySem.W.codeIn K cd19 "parse_receipt" = true)
    (k19 : PySem.W.keepIn K (.ref f_parse_receipt) = true)
    (g_amount_bytes : PySem.W.nsIn K mainGlobals "amount_bytes" = some (some (.ref f_amount_bytes)))
    (l20 : K.lookup f_amount_bytes = some ⟨oc20, od20, .func (PySem.W.fnOf "amount_bytes" "amount_bytes" (defArgs s_amount_bytes) (defBody s_amount_bytes) (defScope s_amount_bytes) .none kV20 dc20 pm20 an20 cd20 ct20), sl20⟩)
    (c20 : PySem.W.codeIn K cd20 "amount_bytes" = true)
    (k20 : PySem.W.keepIn K (.ref f_amount_bytes) = true)
    (g_checksum : PySem.W.nsIn K mainGlobals "checksum" = some (some (.ref f_checksum)))
    (l21 : K.lookup f_checksum = some ⟨oc21, od21, .func (PySem.W.fnOf "checksum" "checksum" (defArgs s_checksum) (defBody s_checksum) (defScope s_checksum) .none kV21 dc21 pm21 an21 cd21 ct21), sl21⟩)
    (c21 : PySem.W.codeIn K cd21 "checksum" = true)
    (k21 : PySem.W.keepIn K (.ref f_checksum) = true)
    (g_encode_evening : PySem.W.nsIn K mainGlobals "encode_evening" = some (some (.ref f_encode_evening)))
    (l22 : K.lookup f_encode_evening = some ⟨oc22, od22, .func (PySem.W.fnOf "encode_evening" "encode_evening" (defArgs s_encode_evening) (defBody s_encode_evening) (defScope s_encode_evening) .none kV22 dc22 pm22 an22 cd22 ct22), sl22⟩)
    (c22 : PySem.W.codeIn K cd22 "encode_evening" = true)
    (k22 : PySem.W.keepIn K (.ref f_encode_evening) = true)
    (g_byte_at : PySem.W.nsIn K mainGlobals "byte_at" = some (some (.ref f_byte_at)))
    (l23 : K.lookup f_byte_at = some ⟨oc23, od23, .func (PySem.W.fnOf "byte_at" "byte_at" (defArgs s_byte_at) (defBody s_byte_at) (defScope s_byte_at) .none kV23 dc23 pm23 an23 cd23 ct23), sl23⟩)
    (c23 : PySem.W.codeIn K cd23 "byte_at" = true)
    (k23 : PySem.W.keepIn K (.ref f_byte_at) = true)
    (g_amount_at : PySem.W.nsIn K mainGlobals "amount_at" = some (some (.ref f_amount_at)))
    (l24 : K.lookup f_amount_at = some ⟨oc24, od24, .func (PySem.W.fnOf "amount_at" "amount_at" (defArgs s_amount_at) (defBody s_amount_at) (defScope s_amount_at) .none kV24 dc24 pm24 an24 cd24 ct24), sl24⟩)
    (c24 : PySem.W.codeIn K cd24 "amount_at" = true)
    (k24 : PySem.W.keepIn K (.ref f_amount_at) = true)
    (g_decode_evening : PySem.W.nsIn K mainGlobals "decode_evening" = some (some (.ref f_decode_evening)))
    (l25 : K.lookup f_decode_evening = some ⟨oc25, od25, .func (PySem.W.fnOf "decode_evening" "decode_evening" (defArgs s_decode_evening) (defBody s_decode_evening) (defScope s_decode_evening) .none kV25 dc25 pm25 an25 cd25 ct25), sl25⟩)
    (c25 : PySem.W.codeIn K cd25 "decode_evening" = true)
    (k25 : PySem.W.keepIn K (.ref f_decode_evening) = true)
    (g_row_of : PySem.W.nsIn K mainGlobals "row_of" = some (some (.ref f_row_of)))
    (l26 : K.lookup f_row_of = some ⟨oc26, od26, .func (PySem.W.fnOf "row_of" "row_of" (defArgs s_row_of) (defBody s_row_of) (defScope s_row_of) .none kV26 dc26 pm26 an26 cd26 ct26), sl26⟩)
    (c26 : PySem.W.codeIn K cd26 "row_of" = true)
    (k26 : PySem.W.keepIn K (.ref f_row_of) = true)
    (g_format_evening : PySem.W.nsIn K mainGlobals "format_evening" = some (some (.ref f_format_evening)))
    (l27 : K.lookup f_format_evening = some ⟨oc27, od27, .func (PySem.W.fnOf "format_evening" "format_evening" (defArgs s_format_evening) (defBody s_format_evening) (defScope s_format_evening) .none kV27 dc27 pm27 an27 cd27 ct27), sl27⟩)
    (c27 : PySem.W.codeIn K cd27 "format_evening" = true)
    (k27 : PySem.W.keepIn K (.ref f_format_evening) = true)
    (g_is_number : PySem.W.nsIn K mainGlobals "is_number" = some (some (.ref f_is_number)))
    (l28 : K.lookup f_is_number = some ⟨oc28, od28, .func (PySem.W.fnOf "is_number" "is_number" (defArgs s_is_number) (defBody s_is_number) (defScope s_is_number) .none kV28 dc28 pm28 an28 cd28 ct28), sl28⟩)
    (c28 : PySem.W.codeIn K cd28 "is_number" = true)
    (k28 : PySem.W.keepIn K (.ref f_is_number) = true)
    (g_check_row : PySem.W.nsIn K mainGlobals "check_row" = some (some (.ref f_check_row)))
    (l29 : K.lookup f_check_row = some ⟨oc29, od29, .func (PySem.W.fnOf "check_row" "check_row" (defArgs s_check_row) (defBody s_check_row) (defScope s_check_row) .none kV29 dc29 pm29 an29 cd29 ct29), sl29⟩)
    (c29 : PySem.W.codeIn K cd29 "check_row" = true)
    (k29 : PySem.W.keepIn K (.ref f_check_row) = true)
    (g_numbers_of_row : PySem.W.nsIn K mainGlobals "numbers_of_row" = some (some (.ref f_numbers_of_row)))
    (l30 : K.lookup f_numbers_of_row = some ⟨oc30, od30, .func (PySem.W.fnOf "numbers_of_row" "numbers_of_row" (defArgs s_numbers_of_row) (defBody s_numbers_of_row) (defScope s_numbers_of_row) .none kV30 dc30 pm30 an30 cd30 ct30), sl30⟩)
    (c30 : PySem.W.codeIn K cd30 "numbers_of_row" = true)
    (k30 : PySem.W.keepIn K (.ref f_numbers_of_row) = true)
    (g_parse_evening : PySem.W.nsIn K mainGlobals "parse_evening" = some (some (.ref f_parse_evening)))
    (l31 : K.lookup f_parse_evening = some ⟨oc31, od31, .func (PySem.W.fnOf "parse_evening" "parse_evening" (defArgs s_parse_evening) (defBody s_parse_evening) (defScope s_parse_evening) .none kV31 dc31 pm31 an31 cd31 ct31), sl31⟩)
    (c31 : PySem.W.codeIn K cd31 "parse_evening" = true)
    (k31 : PySem.W.keepIn K (.ref f_parse_evening) = true)
    (g__law_mix : PySem.W.nsIn K mainGlobals "_law_mix" = some (some (.ref f__law_mix)))
    (l32 : K.lookup f__law_mix = some ⟨oc32, od32, .func (PySem.W.fnOf "_law_mix" "_law_mix" (defArgs s__law_mix) (defBody s__law_mix) (defScope s__law_mix) .none kV32 dc32 pm32 an32 cd32 ct32), sl32⟩)
    (c32 : PySem.W.codeIn K cd32 "_law_mix" = true)
    (k32 : PySem.W.keepIn K (.ref f__law_mix) = true)
    (g__law_next : PySem.W.nsIn K mainGlobals "_law_next" = some (some (.ref f__law_next)))
    (l33 : K.lookup f__law_next = some ⟨oc33, od33, .func (PySem.W.fnOf "_law_next" "_law_next" (defArgs s__law_next) (defBody s__law_next) (defScope s__law_next) .none kV33 dc33 pm33 an33 cd33 ct33), sl33⟩)
    (c33 : PySem.W.codeIn K cd33 "_law_next" = true)
    (k33 : PySem.W.keepIn K (.ref f__law_next) = true)
    (g__law_alike : PySem.W.nsIn K mainGlobals "_law_alike" = some (some (.ref f__law_alike)))
    (l34 : K.lookup f__law_alike = some ⟨oc34, od34, .func (PySem.W.fnOf "_law_alike" "_law_alike" (defArgs s__law_alike) (defBody s__law_alike) (defScope s__law_alike) .none kV34 dc34 pm34 an34 cd34 ct34), sl34⟩)
    (c34 : PySem.W.codeIn K cd34 "_law_alike" = true)
    (k34 : PySem.W.keepIn K (.ref f__law_alike) = true)
    (g__law_bill : PySem.W.nsIn K mainGlobals "_law_bill" = some (some (.ref f__law_bill)))
    (l35 : K.lookup f__law_bill = some ⟨oc35, od35, .func (PySem.W.fnOf "_law_bill" "_law_bill" (defArgs s__law_bill) (defBody s__law_bill) (defScope s__law_bill) .none kV35 dc35 pm35 an35 cd35 ct35), sl35⟩)
    (c35 : PySem.W.codeIn K cd35 "_law_bill" = true)
    (k35 : PySem.W.keepIn K (.ref f__law_bill) = true)
    (g__law_bills : PySem.W.nsIn K mainGlobals "_law_bills" = some (some (.ref f__law_bills)))
    (l36 : K.lookup f__law_bills = some ⟨oc36, od36, .func (PySem.W.fnOf "_law_bills" "_law_bills" (defArgs s__law_bills) (defBody s__law_bills) (defScope s__law_bills) .none kV36 dc36 pm36 an36 cd36 ct36), sl36⟩)
    (c36 : PySem.W.codeIn K cd36 "_law_bills" = true)
    (k36 : PySem.W.keepIn K (.ref f__law_bills) = true)
    (g__law_text : PySem.W.nsIn K mainGlobals "_law_text" = some (some (.ref f__law_text)))
    (l37 : K.lookup f__law_text = some ⟨oc37, od37, .func (PySem.W.fnOf "_law_text" "_law_text" (defArgs s__law_text) (defBody s__law_text) (defScope s__law_text) .none kV37 dc37 pm37 an37 cd37 ct37), sl37⟩)
    (c37 : PySem.W.codeIn K cd37 "_law_text" = true)
    (k37 : PySem.W.keepIn K (.ref f__law_text) = true)
    (g__law_pay : PySem.W.nsIn K mainGlobals "_law_pay" = some (some (.ref f__law_pay)))
    (l38 : K.lookup f__law_pay = some ⟨oc38, od38, .func (PySem.W.fnOf "_law_pay" "_law_pay" (defArgs s__law_pay) (defBody s__law_pay) (defScope s__law_pay) .none kV38 dc38 pm38 an38 cd38 ct38), sl38⟩)
    (c38 : PySem.W.codeIn K cd38 "_law_pay" = true)
    (k38 : PySem.W.keepIn K (.ref f__law_pay) = true)
    (g__law_paid : PySem.W.nsIn K mainGlobals "_law_paid" = some (some (.ref f__law_paid)))
    (l39 : K.lookup f__law_paid = some ⟨oc39, od39, .func (PySem.W.fnOf "_law_paid" "_law_paid" (defArgs s__law_paid) (defBody s__law_paid) (defScope s__law_paid) .none kV39 dc39 pm39 an39 cd39 ct39), sl39⟩)
    (c39 : PySem.W.codeIn K cd39 "_law_paid" = true)
    (k39 : PySem.W.keepIn K (.ref f__law_paid) = true)
    (g__law_money : PySem.W.nsIn K mainGlobals "_law_money" = some (some (.ref f__law_money)))
    (l40 : K.lookup f__law_money = some ⟨oc40, od40, .func (PySem.W.fnOf "_law_money" "_law_money" (defArgs s__law_money) (defBody s__law_money) (defScope s__law_money) .none kV40 dc40 pm40 an40 cd40 ct40), sl40⟩)
    (c40 : PySem.W.codeIn K cd40 "_law_money" = true)
    (k40 : PySem.W.keepIn K (.ref f__law_money) = true)
    (g__law_lines : PySem.W.nsIn K mainGlobals "_law_lines" = some (some (.ref f__law_lines)))
    (l41 : K.lookup f__law_lines = some ⟨oc41, od41, .func (PySem.W.fnOf "_law_lines" "_law_lines" (defArgs s__law_lines) (defBody s__law_lines) (defScope s__law_lines) .none kV41 dc41 pm41 an41 cd41 ct41), sl41⟩)
    (c41 : PySem.W.codeIn K cd41 "_law_lines" = true)
    (k41 : PySem.W.keepIn K (.ref f__law_lines) = true)
    (g_law : PySem.W.nsIn K mainGlobals "law" = some (some (.ref f_law)))
    (l42 : K.lookup f_law = some ⟨oc42, od42, .func (PySem.W.fnOf "law" "law" (defArgs s_law) (defBody s_law) (defScope s_law) .none kV42 dc42 pm42 an42 cd42 ct42), sl42⟩)
    (c42 : PySem.W.codeIn K cd42 "law" = true)
    (k42 : PySem.W.keepIn K (.ref f_law) = true)
    (g_CentError : PySem.W.nsIn K mainGlobals "CentError" = some (some (.ref c_CentError)))
    (x_CentError : PySem.W.excIn K c_CentError [.type "ValueError", .type "Exception", .type "BaseException", .type "object"] "ValueError.__new__" = true)
    (xk_CentError : PySem.W.keepIn K (.ref c_CentError) = true)
    (xs_CentError : PySem.W.subIn K (.ref c_CentError) (.type "BaseException") = some true)
    (xt_CentError : PySem.W.typeIn K (.ref c_CentError) = some (.type "type"))
    (g_InvalidBill : PySem.W.nsIn K mainGlobals "InvalidBill" = some (some (.ref c_InvalidBill)))
    (g_InvalidEvening : PySem.W.nsIn K mainGlobals "InvalidEvening" = some (some (.ref c_InvalidEvening)))
    (g_InvalidMark : PySem.W.nsIn K mainGlobals "InvalidMark" = some (some (.ref c_InvalidMark)))
    (x_InvalidMark : PySem.W.excIn K c_InvalidMark [.type "ValueError", .type "Exception", .type "BaseException", .type "object"] "ValueError.__new__" = true)
    (xk_InvalidMark : PySem.W.keepIn K (.ref c_InvalidMark) = true)
    (xs_InvalidMark : PySem.W.subIn K (.ref c_InvalidMark) (.type "BaseException") = some true)
    (xt_InvalidMark : PySem.W.typeIn K (.ref c_InvalidMark) = some (.type "type"))
    (g_UnknownSeat : PySem.W.nsIn K mainGlobals "UnknownSeat" = some (some (.ref c_UnknownSeat)))
    (x_UnknownSeat : PySem.W.excIn K c_UnknownSeat [.type "ValueError", .type "Exception", .type "BaseException", .type "object"] "ValueError.__new__" = true)
    (xk_UnknownSeat : PySem.W.keepIn K (.ref c_UnknownSeat) = true)
    (xs_UnknownSeat : PySem.W.subIn K (.ref c_UnknownSeat) (.type "BaseException") = some true)
    (xt_UnknownSeat : PySem.W.typeIn K (.ref c_UnknownSeat) = some (.type "type"))
    (g_OtherTable : PySem.W.nsIn K mainGlobals "OtherTable" = some (some (.ref c_OtherTable)))
    (x_OtherTable : PySem.W.excIn K c_OtherTable [.type "ValueError", .type "Exception", .type "BaseException", .type "object"] "ValueError.__new__" = true)
    (xk_OtherTable : PySem.W.keepIn K (.ref c_OtherTable) = true)
    (xs_OtherTable : PySem.W.subIn K (.ref c_OtherTable) (.type "BaseException") = some true)
    (xt_OtherTable : PySem.W.typeIn K (.ref c_OtherTable) = some (.type "type"))
    (g_InvalidNumber : PySem.W.nsIn K mainGlobals "InvalidNumber" = some (some (.ref c_InvalidNumber)))
    (x_InvalidNumber : PySem.W.excIn K c_InvalidNumber [.type "ValueError", .type "Exception", .type "BaseException", .type "object"] "ValueError.__new__" = true)
    (xk_InvalidNumber : PySem.W.keepIn K (.ref c_InvalidNumber) = true)
    (xs_InvalidNumber : PySem.W.subIn K (.ref c_InvalidNumber) (.type "BaseException") = some true)
    (xt_InvalidNumber : PySem.W.typeIn K (.ref c_InvalidNumber) = some (.type "type"))
    (g_InvalidText : PySem.W.nsIn K mainGlobals "InvalidText" = some (some (.ref c_InvalidText)))
    (g_InvalidReceipt : PySem.W.nsIn K mainGlobals "InvalidReceipt" = some (some (.ref c_InvalidReceipt)))
    (g_DecodeError : PySem.W.nsIn K mainGlobals "DecodeError" = some (some (.ref c_DecodeError)))
    (g_Shares : PySem.W.nsIn K mainGlobals "Shares" = some (some (.ref c_Shares)))
    (pg_Shares : PySem.W.plainGet K c_Shares Str.empty = true)
    (hd_Shares : PySem.W.hasDictIn K c_Shares = true)
    (po_Shares : PySem.W.plainOver K c_Shares = true)
    (sa_Shares : PySem.W.findIn K (.ref c_Shares) "__setattr__" = some (some (.builtin "object.__setattr__")))
    (ia_Shares : PySem.W.findIn K (.ref c_Shares) "__class__" = some (some (.builtin "object.__class__")))
    (ib_Shares : PySem.W.specialIn K (.builtin "object.__class__") "__get__" = some (some (.builtin "getset_descriptor.__get__")))
    (ic_Shares : PySem.W.takesIn K (.builtin "object.__class__") = some true)
    (id_Shares : PySem.W.mroIn K c_Shares (.type "object") = some true)
    (ob_Shares : PySem.W.subIn K (.ref c_Shares) (.type "object") = some true)
    (sf_Shares : PySem.W.selfFirst K c_Shares = true)
    (tyc_Shares : PySem.W.typeIn K (.ref c_Shares) = some (.type "type"))
    (kit_Shares_tuple : PySem.W.subIn K (.type "tuple") (.ref c_Shares) = some false)
    (kit_Shares_list : PySem.W.subIn K (.type "list") (.ref c_Shares) = some false)
    (kit_Shares_int : PySem.W.subIn K (.type "int") (.ref c_Shares) = some false)
    (na_Shares_cents : PySem.W.findIn K (.ref c_Shares) "_cents" = some none)
    (ma_Shares__init_ : PySem.W.findIn K (.ref c_Shares) "__init__" = some (some (.ref f_Shares__init_)))
    (mb_Shares__init_ : PySem.W.isFn K (.ref f_Shares__init_) = true)
    (l43 : K.lookup f_Shares__init_ = some ⟨oc43, od43, .func (PySem.W.fnOf "__init__" "Shares.__init__" (defArgs s_Shares__init_) (defBody s_Shares__init_) (defScope s_Shares__init_) .none kV43 dc43 pm43 an43 cd43 ct43), sl43⟩)
    (c43 : PySem.W.codeIn K cd43 "Shares.__init__" = true)
    (k43 : PySem.W.keepIn K (.ref f_Shares__init_) = true)
    (mk_Shares : PySem.W.makesIn K c_Shares = true)
    (kc_Shares : PySem.W.keepIn K (.ref c_Shares) = true)
    (pa_Shares_cents : PySem.W.findIn K (.ref c_Shares) "cents" = some (some (.ref p_Shares_cents)))
    (pb_Shares_cents : PySem.W.specialIn K (.ref p_Shares_cents) "__get__" = some (some (.builtin "property.__get__")))
    (pc_Shares_cents : PySem.W.takesIn K (.ref p_Shares_cents) = some true)
    (pd_Shares_cents : PySem.W.recIn K p_Shares_cents "property" = some (.ref f_Shares_cents :: rs_Shares_cents))
    (l44 : K.lookup f_Shares_cents = some ⟨oc44, od44, .func (PySem.W.fnOf "cents" "Shares.cents" (defArgs s_Shares_cents) (defBody s_Shares_cents) (defScope s_Shares_cents) .none kV44 dc44 pm44 an44 cd44 ct44), sl44⟩)
    (c44 : PySem.W.codeIn K cd44 "Shares.cents" = true)
    (k44 : PySem.W.keepIn K (.ref f_Shares_cents) = true)
    (pa_Shares_whole : PySem.W.findIn K (.ref c_Shares) "whole" = some (some (.ref p_Shares_whole)))
    (pb_Shares_whole : PySem.W.specialIn K (.ref p_Shares_whole) "__get__" = some (some (.builtin "property.__get__")))
    (pc_Shares_whole : PySem.W.takesIn K (.ref p_Shares_whole) = some true)
    (pd_Shares_whole : PySem.W.recIn K p_Shares_whole "property" = some (.ref f_Shares_whole :: rs_Shares_whole))
    (l45 : K.lookup f_Shares_whole = some ⟨oc45, od45, .func (PySem.W.fnOf "whole" "Shares.whole" (defArgs s_Shares_whole) (defBody s_Shares_whole) (defScope s_Shares_whole) .none kV45 dc45 pm45 an45 cd45 ct45), sl45⟩)
    (c45 : PySem.W.codeIn K cd45 "Shares.whole" = true)
    (k45 : PySem.W.keepIn K (.ref f_Shares_whole) = true)
    (ma_Shares__getitem_ : PySem.W.findIn K (.ref c_Shares) "__getitem__" = some (some (.ref f_Shares__getitem_)))
    (mb_Shares__getitem_ : PySem.W.isFn K (.ref f_Shares__getitem_) = true)
    (l46 : K.lookup f_Shares__getitem_ = some ⟨oc46, od46, .func (PySem.W.fnOf "__getitem__" "Shares.__getitem__" (defArgs s_Shares__getitem_) (defBody s_Shares__getitem_) (defScope s_Shares__getitem_) .none kV46 dc46 pm46 an46 cd46 ct46), sl46⟩)
    (c46 : PySem.W.codeIn K cd46 "Shares.__getitem__" = true)
    (k46 : PySem.W.keepIn K (.ref f_Shares__getitem_) = true)
    (ma_Shares__iter_ : PySem.W.findIn K (.ref c_Shares) "__iter__" = some (some (.ref f_Shares__iter_)))
    (mb_Shares__iter_ : PySem.W.isFn K (.ref f_Shares__iter_) = true)
    (l47 : K.lookup f_Shares__iter_ = some ⟨oc47, od47, .func (PySem.W.fnOf "__iter__" "Shares.__iter__" (defArgs s_Shares__iter_) (defBody s_Shares__iter_) (defScope s_Shares__iter_) .none kV47 dc47 pm47 an47 cd47 ct47), sl47⟩)
    (c47 : PySem.W.codeIn K cd47 "Shares.__iter__" = true)
    (k47 : PySem.W.keepIn K (.ref f_Shares__iter_) = true)
    (ma_Shares__len_ : PySem.W.findIn K (.ref c_Shares) "__len__" = some (some (.ref f_Shares__len_)))
    (mb_Shares__len_ : PySem.W.isFn K (.ref f_Shares__len_) = true)
    (l48 : K.lookup f_Shares__len_ = some ⟨oc48, od48, .func (PySem.W.fnOf "__len__" "Shares.__len__" (defArgs s_Shares__len_) (defBody s_Shares__len_) (defScope s_Shares__len_) .none kV48 dc48 pm48 an48 cd48 ct48), sl48⟩)
    (c48 : PySem.W.codeIn K cd48 "Shares.__len__" = true)
    (k48 : PySem.W.keepIn K (.ref f_Shares__len_) = true)
    (ma_Shares__eq_ : PySem.W.findIn K (.ref c_Shares) "__eq__" = some (some (.ref f_Shares__eq_)))
    (mb_Shares__eq_ : PySem.W.isFn K (.ref f_Shares__eq_) = true)
    (l49 : K.lookup f_Shares__eq_ = some ⟨oc49, od49, .func (PySem.W.fnOf "__eq__" "Shares.__eq__" (defArgs s_Shares__eq_) (defBody s_Shares__eq_) (defScope s_Shares__eq_) .none kV49 dc49 pm49 an49 cd49 ct49), sl49⟩)
    (c49 : PySem.W.codeIn K cd49 "Shares.__eq__" = true)
    (k49 : PySem.W.keepIn K (.ref f_Shares__eq_) = true)
    (na_Shares__eq_ : PySem.W.findIn K (.ref c_Shares) "__ne__" = some (some (.builtin "object.__ne__")))
    (nf_Shares__eq_ : PySem.W.notFirst K c_Shares (.ref c_Shares) = true)
    (nt_Shares__eq_ : PySem.W.notFirst K c_Shares (.type "tuple") = true)
    (ma_Shares__add_ : PySem.W.findIn K (.ref c_Shares) "__add__" = some (some (.ref f_Shares__add_)))
    (mb_Shares__add_ : PySem.W.isFn K (.ref f_Shares__add_) = true)
    (l50 : K.lookup f_Shares__add_ = some ⟨oc50, od50, .func (PySem.W.fnOf "__add__" "Shares.__add__" (defArgs s_Shares__add_) (defBody s_Shares__add_) (defScope s_Shares__add_) .none kV50 dc50 pm50 an50 cd50 ct50), sl50⟩)
    (c50 : PySem.W.codeIn K cd50 "Shares.__add__" = true)
    (k50 : PySem.W.keepIn K (.ref f_Shares__add_) = true)
    (ma_Shares__sub_ : PySem.W.findIn K (.ref c_Shares) "__sub__" = some (some (.ref f_Shares__sub_)))
    (mb_Shares__sub_ : PySem.W.isFn K (.ref f_Shares__sub_) = true)
    (l51 : K.lookup f_Shares__sub_ = some ⟨oc51, od51, .func (PySem.W.fnOf "__sub__" "Shares.__sub__" (defArgs s_Shares__sub_) (defBody s_Shares__sub_) (defScope s_Shares__sub_) .none kV51 dc51 pm51 an51 cd51 ct51), sl51⟩)
    (c51 : PySem.W.codeIn K cd51 "Shares.__sub__" = true)
    (k51 : PySem.W.keepIn K (.ref f_Shares__sub_) = true)
    (ma_Shares__mul_ : PySem.W.findIn K (.ref c_Shares) "__mul__" = some (some (.ref f_Shares__mul_)))
    (mb_Shares__mul_ : PySem.W.isFn K (.ref f_Shares__mul_) = true)
    (l52 : K.lookup f_Shares__mul_ = some ⟨oc52, od52, .func (PySem.W.fnOf "__mul__" "Shares.__mul__" (defArgs s_Shares__mul_) (defBody s_Shares__mul_) (defScope s_Shares__mul_) .none kV52 dc52 pm52 an52 cd52 ct52), sl52⟩)
    (c52 : PySem.W.codeIn K cd52 "Shares.__mul__" = true)
    (k52 : PySem.W.keepIn K (.ref f_Shares__mul_) = true)
    (oa_Shares__mul_ : PySem.W.findIn K (.ref c_Shares) "__rmul__" = some none)
    (ob_Shares__mul_ : PySem.W.findIn K (.type "int") "__mul__" = some fo_Shares__mul_)
    (oc_Shares__mul_ : PySem.W.findIn K (.type "int") "__rmul__" = some ro_Shares__mul_)
    (od_Shares__mul_ : PySem.W.subIn K (.type "int") (.ref c_Shares) = some false)
    (ma_Shares__neg_ : PySem.W.findIn K (.ref c_Shares) "__neg__" = some (some (.ref f_Shares__neg_)))
    (mb_Shares__neg_ : PySem.W.isFn K (.ref f_Shares__neg_) = true)
    (l53 : K.lookup f_Shares__neg_ = some ⟨oc53, od53, .func (PySem.W.fnOf "__neg__" "Shares.__neg__" (defArgs s_Shares__neg_) (defBody s_Shares__neg_) (defScope s_Shares__neg_) .none kV53 dc53 pm53 an53 cd53 ct53), sl53⟩)
    (c53 : PySem.W.codeIn K cd53 "Shares.__neg__" = true)
    (k53 : PySem.W.keepIn K (.ref f_Shares__neg_) = true)
    (ma_Shares__abs_ : PySem.W.findIn K (.ref c_Shares) "__abs__" = some (some (.ref f_Shares__abs_)))
    (mb_Shares__abs_ : PySem.W.isFn K (.ref f_Shares__abs_) = true)
    (l54 : K.lookup f_Shares__abs_ = some ⟨oc54, od54, .func (PySem.W.fnOf "__abs__" "Shares.__abs__" (defArgs s_Shares__abs_) (defBody s_Shares__abs_) (defScope s_Shares__abs_) .none kV54 dc54 pm54 an54 cd54 ct54), sl54⟩)
    (c54 : PySem.W.codeIn K cd54 "Shares.__abs__" = true)
    (k54 : PySem.W.keepIn K (.ref f_Shares__abs_) = true)
    (g_Bill : PySem.W.nsIn K mainGlobals "Bill" = some (some (.ref c_Bill)))
    (pg_Bill : PySem.W.plainGet K c_Bill Str.empty = true)
    (hd_Bill : PySem.W.hasDictIn K c_Bill = true)
    (po_Bill : PySem.W.plainOver K c_Bill = true)
    (sa_Bill : PySem.W.findIn K (.ref c_Bill) "__setattr__" = some (some (.builtin "object.__setattr__")))
    (ia_Bill : PySem.W.findIn K (.ref c_Bill) "__class__" = some (some (.builtin "object.__class__")))
    (ib_Bill : PySem.W.specialIn K (.builtin "object.__class__") "__get__" = some (some (.builtin "getset_descriptor.__get__")))
    (ic_Bill : PySem.W.takesIn K (.builtin "object.__class__") = some true)
    (id_Bill : PySem.W.mroIn K c_Bill (.type "object") = some true)
    (ob_Bill : PySem.W.subIn K (.ref c_Bill) (.type "object") = some true)
    (sf_Bill : PySem.W.selfFirst K c_Bill = true)
    (tyc_Bill : PySem.W.typeIn K (.ref c_Bill) = some (.type "type"))
    (kit_Bill_tuple : PySem.W.subIn K (.type "tuple") (.ref c_Bill) = some false)
    (kit_Bill_list : PySem.W.subIn K (.type "list") (.ref c_Bill) = some false)
    (kit_Bill_int : PySem.W.subIn K (.type "int") (.ref c_Bill) = some false)
    (na_Bill_amount : PySem.W.findIn K (.ref c_Bill) "_amount" = some none)
    (na_Bill_seats : PySem.W.findIn K (.ref c_Bill) "_seats" = some none)
    (cra_Bill : PySem.W.readsIn K c_Bill (.type "type") = true)
    (crb_Bill : PySem.W.specialIn K (.ref c_Bill) "__getattribute__" = some (some (.builtin "type.__getattribute__")))
    (cva_Bill_MAX_SEATS : PySem.W.findCls K (.ref c_Bill) (.type "type") "MAX_SEATS" = some (.val (.int 8 tk_Bill_MAX_SEATS)))
    (ma_Bill__init_ : PySem.W.findIn K (.ref c_Bill) "__init__" = some (some (.ref f_Bill__init_)))
    (mb_Bill__init_ : PySem.W.isFn K (.ref f_Bill__init_) = true)
    (l55 : K.lookup f_Bill__init_ = some ⟨oc55, od55, .func (PySem.W.fnOf "__init__" "Bill.__init__" (defArgs s_Bill__init_) (defBody s_Bill__init_) (defScope s_Bill__init_) .none kV55 dc55 pm55 an55 cd55 ct55), sl55⟩)
    (c55 : PySem.W.codeIn K cd55 "Bill.__init__" = true)
    (k55 : PySem.W.keepIn K (.ref f_Bill__init_) = true)
    (mk_Bill : PySem.W.makesIn K c_Bill = true)
    (kc_Bill : PySem.W.keepIn K (.ref c_Bill) = true)
    (pa_Bill_amount : PySem.W.findIn K (.ref c_Bill) "amount" = some (some (.ref p_Bill_amount)))
    (pb_Bill_amount : PySem.W.specialIn K (.ref p_Bill_amount) "__get__" = some (some (.builtin "property.__get__")))
    (pc_Bill_amount : PySem.W.takesIn K (.ref p_Bill_amount) = some true)
    (pd_Bill_amount : PySem.W.recIn K p_Bill_amount "property" = some (.ref f_Bill_amount :: rs_Bill_amount))
    (l56 : K.lookup f_Bill_amount = some ⟨oc56, od56, .func (PySem.W.fnOf "amount" "Bill.amount" (defArgs s_Bill_amount) (defBody s_Bill_amount) (defScope s_Bill_amount) .none kV56 dc56 pm56 an56 cd56 ct56), sl56⟩)
    (c56 : PySem.W.codeIn K cd56 "Bill.amount" = true)
    (k56 : PySem.W.keepIn K (.ref f_Bill_amount) = true)
    (pa_Bill_seats : PySem.W.findIn K (.ref c_Bill) "seats" = some (some (.ref p_Bill_seats)))
    (pb_Bill_seats : PySem.W.specialIn K (.ref p_Bill_seats) "__get__" = some (some (.builtin "property.__get__")))
    (pc_Bill_seats : PySem.W.takesIn K (.ref p_Bill_seats) = some true)
    (pd_Bill_seats : PySem.W.recIn K p_Bill_seats "property" = some (.ref f_Bill_seats :: rs_Bill_seats))
    (l57 : K.lookup f_Bill_seats = some ⟨oc57, od57, .func (PySem.W.fnOf "seats" "Bill.seats" (defArgs s_Bill_seats) (defBody s_Bill_seats) (defScope s_Bill_seats) .none kV57 dc57 pm57 an57 cd57 ct57), sl57⟩)
    (c57 : PySem.W.codeIn K cd57 "Bill.seats" = true)
    (k57 : PySem.W.keepIn K (.ref f_Bill_seats) = true)
    (pa_Bill_odd_cents : PySem.W.findIn K (.ref c_Bill) "odd_cents" = some (some (.ref p_Bill_odd_cents)))
    (pb_Bill_odd_cents : PySem.W.specialIn K (.ref p_Bill_odd_cents) "__get__" = some (some (.builtin "property.__get__")))
    (pc_Bill_odd_cents : PySem.W.takesIn K (.ref p_Bill_odd_cents) = some true)
    (pd_Bill_odd_cents : PySem.W.recIn K p_Bill_odd_cents "property" = some (.ref f_Bill_odd_cents :: rs_Bill_odd_cents))
    (l58 : K.lookup f_Bill_odd_cents = some ⟨oc58, od58, .func (PySem.W.fnOf "odd_cents" "Bill.odd_cents" (defArgs s_Bill_odd_cents) (defBody s_Bill_odd_cents) (defScope s_Bill_odd_cents) .none kV58 dc58 pm58 an58 cd58 ct58), sl58⟩)
    (c58 : PySem.W.codeIn K cd58 "Bill.odd_cents" = true)
    (k58 : PySem.W.keepIn K (.ref f_Bill_odd_cents) = true)
    (ma_Bill__contains_ : PySem.W.findIn K (.ref c_Bill) "__contains__" = some (some (.ref f_Bill__contains_)))
    (mb_Bill__contains_ : PySem.W.isFn K (.ref f_Bill__contains_) = true)
    (l59 : K.lookup f_Bill__contains_ = some ⟨oc59, od59, .func (PySem.W.fnOf "__contains__" "Bill.__contains__" (defArgs s_Bill__contains_) (defBody s_Bill__contains_) (defScope s_Bill__contains_) .none kV59 dc59 pm59 an59 cd59 ct59), sl59⟩)
    (c59 : PySem.W.codeIn K cd59 "Bill.__contains__" = true)
    (k59 : PySem.W.keepIn K (.ref f_Bill__contains_) = true)
    (g_Evening : PySem.W.nsIn K mainGlobals "Evening" = some (some (.ref c_Evening)))
    (pg_Evening : PySem.W.plainGet K c_Evening Str.empty = true)
    (hd_Evening : PySem.W.hasDictIn K c_Evening = true)
    (po_Evening : PySem.W.plainOver K c_Evening = true)
    (sa_Evening : PySem.W.findIn K (.ref c_Evening) "__setattr__" = some (some (.builtin "object.__setattr__")))
    (ia_Evening : PySem.W.findIn K (.ref c_Evening) "__class__" = some (some (.builtin "object.__class__")))
    (ib_Evening : PySem.W.specialIn K (.builtin "object.__class__") "__get__" = some (some (.builtin "getset_descriptor.__get__")))
    (ic_Evening : PySem.W.takesIn K (.builtin "object.__class__") = some true)
    (id_Evening : PySem.W.mroIn K c_Evening (.type "object") = some true)
    (ob_Evening : PySem.W.subIn K (.ref c_Evening) (.type "object") = some true)
    (sf_Evening : PySem.W.selfFirst K c_Evening = true)
    (tyc_Evening : PySem.W.typeIn K (.ref c_Evening) = some (.type "type"))
    (kit_Evening_tuple : PySem.W.subIn K (.type "tuple") (.ref c_Evening) = some false)
    (kit_Evening_list : PySem.W.subIn K (.type "list") (.ref c_Evening) = some false)
    (kit_Evening_int : PySem.W.subIn K (.type "int") (.ref c_Evening) = some false)
    (na_Evening_seat_count : PySem.W.findIn K (.ref c_Evening) "_seat_count" = some none)
    (na_Evening_bills : PySem.W.findIn K (.ref c_Evening) "_bills" = some none)
    (cra_Evening : PySem.W.readsIn K c_Evening (.type "type") = true)
    (crb_Evening : PySem.W.specialIn K (.ref c_Evening) "__getattribute__" = some (some (.builtin "type.__getattribute__")))
    (cva_Evening_MAX_BILLS : PySem.W.findCls K (.ref c_Evening) (.type "type") "MAX_BILLS" = some (.val (.int 30 tk_Evening_MAX_BILLS)))
    (ma_Evening__init_ : PySem.W.findIn K (.ref c_Evening) "__init__" = some (some (.ref f_Evening__init_)))
    (mb_Evening__init_ : PySem.W.isFn K (.ref f_Evening__init_) = true)
    (l60 : K.lookup f_Evening__init_ = some ⟨oc60, od60, .func (PySem.W.fnOf "__init__" "Evening.__init__" (defArgs s_Evening__init_) (defBody s_Evening__init_) (defScope s_Evening__init_) .none kV60 dc60 pm60 an60 cd60 ct60), sl60⟩)
    (c60 : PySem.W.codeIn K cd60 "Evening.__init__" = true)
    (k60 : PySem.W.keepIn K (.ref f_Evening__init_) = true)
    (mk_Evening : PySem.W.makesIn K c_Evening = true)
    (kc_Evening : PySem.W.keepIn K (.ref c_Evening) = true)
    (cma_Evening_together : PySem.W.findCls K (.ref c_Evening) (.type "type") "together" = some (.get (.builtin "classmethod.__get__") (.ref p_Evening_together) .none (.ref c_Evening)))
    (cmb_Evening_together : PySem.W.recIn K p_Evening_together "classmethod" = some (.ref f_Evening_together :: rs_Evening_together))
    (cmc_Evening_together : PySem.W.fnIn K f_Evening_together = true)
    (l61 : K.lookup f_Evening_together = some ⟨oc61, od61, .func (PySem.W.fnOf "together" "Evening.together" (defArgs s_Evening_together) (defBody s_Evening_together) (defScope s_Evening_together) .none kV61 dc61 pm61 an61 cd61 ct61), sl61⟩)
    (c61 : PySem.W.codeIn K cd61 "Evening.together" = true)
    (k61 : PySem.W.keepIn K (.ref f_Evening_together) = true)
    (pa_Evening_seat_count : PySem.W.findIn K (.ref c_Evening) "seat_count" = some (some (.ref p_Evening_seat_count)))
    (pb_Evening_seat_count : PySem.W.specialIn K (.ref p_Evening_seat_count) "__get__" = some (some (.builtin "property.__get__")))
    (pc_Evening_seat_count : PySem.W.takesIn K (.ref p_Evening_seat_count) = some true)
    (pd_Evening_seat_count : PySem.W.recIn K p_Evening_seat_count "property" = some (.ref f_Evening_seat_count :: rs_Evening_seat_count))
    (l62 : K.lookup f_Evening_seat_count = some ⟨oc62, od62, .func (PySem.W.fnOf "seat_count" "Evening.seat_count" (defArgs s_Evening_seat_count) (defBody s_Evening_seat_count) (defScope s_Evening_seat_count) .none kV62 dc62 pm62 an62 cd62 ct62), sl62⟩)
    (c62 : PySem.W.codeIn K cd62 "Evening.seat_count" = true)
    (k62 : PySem.W.keepIn K (.ref f_Evening_seat_count) = true)
    (pa_Evening_bills : PySem.W.findIn K (.ref c_Evening) "bills" = some (some (.ref p_Evening_bills)))
    (pb_Evening_bills : PySem.W.specialIn K (.ref p_Evening_bills) "__get__" = some (some (.builtin "property.__get__")))
    (pc_Evening_bills : PySem.W.takesIn K (.ref p_Evening_bills) = some true)
    (pd_Evening_bills : PySem.W.recIn K p_Evening_bills "property" = some (.ref f_Evening_bills :: rs_Evening_bills))
    (l63 : K.lookup f_Evening_bills = some ⟨oc63, od63, .func (PySem.W.fnOf "bills" "Evening.bills" (defArgs s_Evening_bills) (defBody s_Evening_bills) (defScope s_Evening_bills) .none kV63 dc63 pm63 an63 cd63 ct63), sl63⟩)
    (c63 : PySem.W.codeIn K cd63 "Evening.bills" = true)
    (k63 : PySem.W.keepIn K (.ref f_Evening_bills) = true)
    (ma_Evening__call_ : PySem.W.findIn K (.ref c_Evening) "__call__" = some (some (.ref f_Evening__call_)))
    (mb_Evening__call_ : PySem.W.isFn K (.ref f_Evening__call_) = true)
    (l64 : K.lookup f_Evening__call_ = some ⟨oc64, od64, .func (PySem.W.fnOf "__call__" "Evening.__call__" (defArgs s_Evening__call_) (defBody s_Evening__call_) (defScope s_Evening__call_) .none kV64 dc64 pm64 an64 cd64 ct64), sl64⟩)
    (c64 : PySem.W.codeIn K cd64 "Evening.__call__" = true)
    (k64 : PySem.W.keepIn K (.ref f_Evening__call_) = true)
    (coc_Evening__call_ : PySem.W.fnIn K f_Evening__call_ = true)
    (ma_Evening__getitem_ : PySem.W.findIn K (.ref c_Evening) "__getitem__" = some (some (.ref f_Evening__getitem_)))
    (mb_Evening__getitem_ : PySem.W.isFn K (.ref f_Evening__getitem_) = true)
    (l65 : K.lookup f_Evening__getitem_ = some ⟨oc65, od65, .func (PySem.W.fnOf "__getitem__" "Evening.__getitem__" (defArgs s_Evening__getitem_) (defBody s_Evening__getitem_) (defScope s_Evening__getitem_) .none kV65 dc65 pm65 an65 cd65 ct65), sl65⟩)
    (c65 : PySem.W.codeIn K cd65 "Evening.__getitem__" = true)
    (k65 : PySem.W.keepIn K (.ref f_Evening__getitem_) = true)
    (ma_Evening__iter_ : PySem.W.findIn K (.ref c_Evening) "__iter__" = some (some (.ref f_Evening__iter_)))
    (mb_Evening__iter_ : PySem.W.isFn K (.ref f_Evening__iter_) = true)
    (l66 : K.lookup f_Evening__iter_ = some ⟨oc66, od66, .func (PySem.W.fnOf "__iter__" "Evening.__iter__" (defArgs s_Evening__iter_) (defBody s_Evening__iter_) (defScope s_Evening__iter_) .none kV66 dc66 pm66 an66 cd66 ct66), sl66⟩)
    (c66 : PySem.W.codeIn K cd66 "Evening.__iter__" = true)
    (k66 : PySem.W.keepIn K (.ref f_Evening__iter_) = true)
    (ma_Evening__len_ : PySem.W.findIn K (.ref c_Evening) "__len__" = some (some (.ref f_Evening__len_)))
    (mb_Evening__len_ : PySem.W.isFn K (.ref f_Evening__len_) = true)
    (l67 : K.lookup f_Evening__len_ = some ⟨oc67, od67, .func (PySem.W.fnOf "__len__" "Evening.__len__" (defArgs s_Evening__len_) (defBody s_Evening__len_) (defScope s_Evening__len_) .none kV67 dc67 pm67 an67 cd67 ct67), sl67⟩)
    (c67 : PySem.W.codeIn K cd67 "Evening.__len__" = true)
    (k67 : PySem.W.keepIn K (.ref f_Evening__len_) = true)
    (ma_Evening__bool_ : PySem.W.findIn K (.ref c_Evening) "__bool__" = some (some (.ref f_Evening__bool_)))
    (mb_Evening__bool_ : PySem.W.isFn K (.ref f_Evening__bool_) = true)
    (l68 : K.lookup f_Evening__bool_ = some ⟨oc68, od68, .func (PySem.W.fnOf "__bool__" "Evening.__bool__" (defArgs s_Evening__bool_) (defBody s_Evening__bool_) (defScope s_Evening__bool_) .none kV68 dc68 pm68 an68 cd68 ct68), sl68⟩)
    (c68 : PySem.W.codeIn K cd68 "Evening.__bool__" = true)
    (k68 : PySem.W.keepIn K (.ref f_Evening__bool_) = true)
    (ma_Evening__add_ : PySem.W.findIn K (.ref c_Evening) "__add__" = some (some (.ref f_Evening__add_)))
    (mb_Evening__add_ : PySem.W.isFn K (.ref f_Evening__add_) = true)
    (l69 : K.lookup f_Evening__add_ = some ⟨oc69, od69, .func (PySem.W.fnOf "__add__" "Evening.__add__" (defArgs s_Evening__add_) (defBody s_Evening__add_) (defScope s_Evening__add_) .none kV69 dc69 pm69 an69 cd69 ct69), sl69⟩)
    (c69 : PySem.W.codeIn K cd69 "Evening.__add__" = true)
    (k69 : PySem.W.keepIn K (.ref f_Evening__add_) = true)
    (ma_Evening__mul_ : PySem.W.findIn K (.ref c_Evening) "__mul__" = some (some (.ref f_Evening__mul_)))
    (mb_Evening__mul_ : PySem.W.isFn K (.ref f_Evening__mul_) = true)
    (l70 : K.lookup f_Evening__mul_ = some ⟨oc70, od70, .func (PySem.W.fnOf "__mul__" "Evening.__mul__" (defArgs s_Evening__mul_) (defBody s_Evening__mul_) (defScope s_Evening__mul_) .none kV70 dc70 pm70 an70 cd70 ct70), sl70⟩)
    (c70 : PySem.W.codeIn K cd70 "Evening.__mul__" = true)
    (k70 : PySem.W.keepIn K (.ref f_Evening__mul_) = true)
    (oa_Evening__mul_ : PySem.W.findIn K (.ref c_Evening) "__rmul__" = some none)
    (ob_Evening__mul_ : PySem.W.findIn K (.type "int") "__mul__" = some fo_Evening__mul_)
    (oc_Evening__mul_ : PySem.W.findIn K (.type "int") "__rmul__" = some ro_Evening__mul_)
    (od_Evening__mul_ : PySem.W.subIn K (.type "int") (.ref c_Evening) = some false) :
    Facts K mg ⟨f__wall, f_is_between, f_is_digits, f_seats_of, f_check_amount, f_check_seats, f_check_seat_count, f_check_bills, f_check_mark, f_no_shares, f_seats_behind, f_split_bill, f_title_line, f_line_of, f_seat_line, f_receipt, f_cents_of_line, f_mark_of_line, f_parse_receipt, f_amount_bytes, f_checksum, f_encode_evening, f_byte_at, f_amount_at, f_decode_evening, f_row_of, f_format_evening, f_is_number, f_check_row, f_numbers_of_row, f_parse_evening, f__law_mix, f__law_next, f__law_alike, f__law_bill, f__law_bills, f__law_text, f__law_pay, f__law_paid, f__law_money, f__law_lines, f_law, c_CentError, c_InvalidBill, c_InvalidEvening, c_InvalidMark, c_UnknownSeat, c_OtherTable, c_InvalidNumber, c_InvalidText, c_InvalidReceipt, c_DecodeError, c_Shares, f_Shares__init_, f_Shares_cents, p_Shares_cents, f_Shares_whole, p_Shares_whole, f_Shares__getitem_, f_Shares__iter_, f_Shares__len_, f_Shares__eq_, f_Shares__add_, f_Shares__sub_, f_Shares__mul_, f_Shares__neg_, f_Shares__abs_, c_Bill, f_Bill__init_, f_Bill_amount, p_Bill_amount, f_Bill_seats, p_Bill_seats, f_Bill_odd_cents, p_Bill_odd_cents, f_Bill__contains_, c_Evening, f_Evening__init_, f_Evening_together, p_Evening_together, f_Evening_seat_count, p_Evening_seat_count, f_Evening_bills, p_Evening_bills, f_Evening__call_, f_Evening__getitem_, f_Evening__iter_, f_Evening__len_, f_Evening__bool_, f_Evening__add_, f_Evening__mul_⟩ where
  z_TypeError := PySem.W.mg_none_of X G z_TypeError
  z_bool := PySem.W.mg_none_of X G z_bool
  z_classmethod := PySem.W.mg_none_of X G z_classmethod
  z_dict := PySem.W.mg_none_of X G z_dict
  z_divmod := PySem.W.mg_none_of X G z_divmod
  z_enumerate := PySem.W.mg_none_of X G z_enumerate
  z_int := PySem.W.mg_none_of X G z_int
  z_isinstance := PySem.W.mg_none_of X G z_isinstance
  z_len := PySem.W.mg_none_of X G z_len
  z_list := PySem.W.mg_none_of X G z_list
  z_max := PySem.W.mg_none_of X G z_max
  z_min := PySem.W.mg_none_of X G z_min
  z_property := PySem.W.mg_none_of X G z_property
  z_range := PySem.W.mg_none_of X G z_range
  z_sorted := PySem.W.mg_none_of X G z_sorted
  z_str := PySem.W.mg_none_of X G z_str
  z_sum := PySem.W.mg_none_of X G z_sum
  z_super := PySem.W.mg_none_of X G z_super
  z_tuple := PySem.W.mg_none_of X G z_tuple
  z_zip := PySem.W.mg_none_of X G z_zip
  i_MAX_AMOUNT := ⟨_, PySem.W.mg_of X G g_MAX_AMOUNT⟩
  i_MIN_SEAT_COUNT := ⟨_, PySem.W.mg_of X G g_MIN_SEAT_COUNT⟩
  i_LINE_SIGNS := ⟨_, PySem.W.mg_of X G g_LINE_SIGNS⟩
  i_MAX_CENT_DIGITS := ⟨_, PySem.W.mg_of X G g_MAX_CENT_DIGITS⟩
  i_FIRST_BYTE := ⟨_, PySem.W.mg_of X G g_FIRST_BYTE⟩
  i_GROUP := ⟨_, PySem.W.mg_of X G g_GROUP⟩
  i_MAX_DIGITS := ⟨_, PySem.W.mg_of X G g_MAX_DIGITS⟩
  u__wall := ⟨_, fun_mk (st := s__wall) l1 c1 k1⟩
  g__wall := PySem.W.mg_of X G g__wall
  u_is_between := ⟨_, fun_mk (st := s_is_between) l2 c2 k2⟩
  g_is_between := PySem.W.mg_of X G g_is_between
  u_is_digits := ⟨_, fun_mk (st := s_is_digits) l3 c3 k3⟩
  g_is_digits := PySem.W.mg_of X G g_is_digits
  u_seats_of := ⟨_, fun_mk (st := s_seats_of) l4 c4 k4⟩
  g_seats_of := PySem.W.mg_of X G g_seats_of
  u_check_amount := ⟨_, fun_mk (st := s_check_amount) l5 c5 k5⟩
  g_check_amount := PySem.W.mg_of X G g_check_amount
  u_check_seats := ⟨_, fun_mk (st := s_check_seats) l6 c6 k6⟩
  g_check_seats := PySem.W.mg_of X G g_check_seats
  u_check_seat_count := ⟨_, fun_mk (st := s_check_seat_count) l7 c7 k7⟩
  g_check_seat_count := PySem.W.mg_of X G g_check_seat_count
  u_check_bills := ⟨_, fun_mk (st := s_check_bills) l8 c8 k8⟩
  g_check_bills := PySem.W.mg_of X G g_check_bills
  u_check_mark := ⟨_, fun_mk (st := s_check_mark) l9 c9 k9⟩
  g_check_mark := PySem.W.mg_of X G g_check_mark
  u_no_shares := ⟨_, fun_mk (st := s_no_shares) l10 c10 k10⟩
  g_no_shares := PySem.W.mg_of X G g_no_shares
  u_seats_behind := ⟨_, fun_mk (st := s_seats_behind) l11 c11 k11⟩
  g_seats_behind := PySem.W.mg_of X G g_seats_behind
  u_split_bill := ⟨_, fun_mk (st := s_split_bill) l12 c12 k12⟩
  g_split_bill := PySem.W.mg_of X G g_split_bill
  u_title_line := ⟨_, fun_mk (st := s_title_line) l13 c13 k13⟩
  g_title_line := PySem.W.mg_of X G g_title_line
  u_line_of := ⟨_, fun_mk (st := s_line_of) l14 c14 k14⟩
  g_line_of := PySem.W.mg_of X G g_line_of
  u_seat_line := ⟨_, fun_mk (st := s_seat_line) l15 c15 k15⟩
  g_seat_line := PySem.W.mg_of X G g_seat_line
  u_receipt := ⟨_, fun_mk (st := s_receipt) l16 c16 k16⟩
  g_receipt := PySem.W.mg_of X G g_receipt
  u_cents_of_line := ⟨_, fun_mk (st := s_cents_of_line) l17 c17 k17⟩
  g_cents_of_line := PySem.W.mg_of X G g_cents_of_line
  u_mark_of_line := ⟨_, fun_mk (st := s_mark_of_line) l18 c18 k18⟩
  g_mark_of_line := PySem.W.mg_of X G g_mark_of_line
  u_parse_receipt := ⟨_, fun_mk (st := s_parse_receipt) l19 c19 k19⟩
  g_parse_receipt := PySem.W.mg_of X G g_parse_receipt
  u_amount_bytes := ⟨_, fun_mk (st := s_amount_bytes) l20 c20 k20⟩
  g_amount_bytes := PySem.W.mg_of X G g_amount_bytes
  u_checksum := ⟨_, fun_mk (st := s_checksum) l21 c21 k21⟩
  g_checksum := PySem.W.mg_of X G g_checksum
  u_encode_evening := ⟨_, fun_mk (st := s_encode_evening) l22 c22 k22⟩
  g_encode_evening := PySem.W.mg_of X G g_encode_evening
  u_byte_at := ⟨_, fun_mk (st := s_byte_at) l23 c23 k23⟩
  g_byte_at := PySem.W.mg_of X G g_byte_at
  u_amount_at := ⟨_, fun_mk (st := s_amount_at) l24 c24 k24⟩
  g_amount_at := PySem.W.mg_of X G g_amount_at
  u_decode_evening := ⟨_, fun_mk (st := s_decode_evening) l25 c25 k25⟩
  g_decode_evening := PySem.W.mg_of X G g_decode_evening
  u_row_of := ⟨_, fun_mk (st := s_row_of) l26 c26 k26⟩
  g_row_of := PySem.W.mg_of X G g_row_of
  u_format_evening := ⟨_, fun_mk (st := s_format_evening) l27 c27 k27⟩
  g_format_evening := PySem.W.mg_of X G g_format_evening
  u_is_number := ⟨_, fun_mk (st := s_is_number) l28 c28 k28⟩
  g_is_number := PySem.W.mg_of X G g_is_number
  u_check_row := ⟨_, fun_mk (st := s_check_row) l29 c29 k29⟩
  g_check_row := PySem.W.mg_of X G g_check_row
  u_numbers_of_row := ⟨_, fun_mk (st := s_numbers_of_row) l30 c30 k30⟩
  g_numbers_of_row := PySem.W.mg_of X G g_numbers_of_row
  u_parse_evening := ⟨_, fun_mk (st := s_parse_evening) l31 c31 k31⟩
  g_parse_evening := PySem.W.mg_of X G g_parse_evening
  u__law_mix := ⟨_, fun_mk (st := s__law_mix) l32 c32 k32⟩
  g__law_mix := PySem.W.mg_of X G g__law_mix
  u__law_next := ⟨_, fun_mk (st := s__law_next) l33 c33 k33⟩
  g__law_next := PySem.W.mg_of X G g__law_next
  u__law_alike := ⟨_, fun_mk (st := s__law_alike) l34 c34 k34⟩
  g__law_alike := PySem.W.mg_of X G g__law_alike
  u__law_bill := ⟨_, fun_mk (st := s__law_bill) l35 c35 k35⟩
  g__law_bill := PySem.W.mg_of X G g__law_bill
  u__law_bills := ⟨_, fun_mk (st := s__law_bills) l36 c36 k36⟩
  g__law_bills := PySem.W.mg_of X G g__law_bills
  u__law_text := ⟨_, fun_mk (st := s__law_text) l37 c37 k37⟩
  g__law_text := PySem.W.mg_of X G g__law_text
  u__law_pay := ⟨_, fun_mk (st := s__law_pay) l38 c38 k38⟩
  g__law_pay := PySem.W.mg_of X G g__law_pay
  u__law_paid := ⟨_, fun_mk (st := s__law_paid) l39 c39 k39⟩
  g__law_paid := PySem.W.mg_of X G g__law_paid
  u__law_money := ⟨_, fun_mk (st := s__law_money) l40 c40 k40⟩
  g__law_money := PySem.W.mg_of X G g__law_money
  u__law_lines := ⟨_, fun_mk (st := s__law_lines) l41 c41 k41⟩
  g__law_lines := PySem.W.mg_of X G g__law_lines
  u_law := ⟨_, fun_mk (st := s_law) l42 c42 k42⟩
  g_law := PySem.W.mg_of X G g_law
  x_CentError := ⟨PySem.W.mg_of X G g_CentError, x_CentError, xk_CentError, xs_CentError, xt_CentError⟩
  x_InvalidMark := ⟨PySem.W.mg_of X G g_InvalidMark, x_InvalidMark, xk_InvalidMark, xs_InvalidMark, xt_InvalidMark⟩
  x_UnknownSeat := ⟨PySem.W.mg_of X G g_UnknownSeat, x_UnknownSeat, xk_UnknownSeat, xs_UnknownSeat, xt_UnknownSeat⟩
  x_OtherTable := ⟨PySem.W.mg_of X G g_OtherTable, x_OtherTable, xk_OtherTable, xs_OtherTable, xt_OtherTable⟩
  x_InvalidNumber := ⟨PySem.W.mg_of X G g_InvalidNumber, x_InvalidNumber, xk_InvalidNumber, xs_InvalidNumber, xt_InvalidNumber⟩
  g_Shares := PySem.W.mg_of X G g_Shares
  cl_Shares := ⟨pg_Shares, hd_Shares, po_Shares, sa_Shares⟩
  si_Shares := ⟨ia_Shares, ib_Shares, ic_Shares, id_Shares⟩
  ob_Shares := ob_Shares
  sf_Shares := sf_Shares
  kit_Shares_tuple := kit_own hd_Shares tyc_Shares kit_Shares_tuple
  kit_Shares_list := kit_own hd_Shares tyc_Shares kit_Shares_list
  kit_Shares_int := kit_own hd_Shares tyc_Shares kit_Shares_int
  na_Shares_cents := na_Shares_cents
  u_Shares__init_ := ⟨_, fun_mk (st := s_Shares__init_) l43 c43 k43⟩
  m_Shares__init_ := ⟨ma_Shares__init_, mb_Shares__init_, k43⟩
  mk_Shares := ⟨mk_Shares, ma_Shares__init_, mb_Shares__init_, kc_Shares⟩
  u_Shares_cents := ⟨_, fun_mk (st := s_Shares_cents) l44 c44 k44⟩
  pr_Shares_cents := ⟨pa_Shares_cents, pb_Shares_cents, pc_Shares_cents, ⟨_, pd_Shares_cents⟩⟩
  u_Shares_whole := ⟨_, fun_mk (st := s_Shares_whole) l45 c45 k45⟩
  pr_Shares_whole := ⟨pa_Shares_whole, pb_Shares_whole, pc_Shares_whole, ⟨_, pd_Shares_whole⟩⟩
  u_Shares__getitem_ := ⟨_, fun_mk (st := s_Shares__getitem_) l46 c46 k46⟩
  m_Shares__getitem_ := ⟨ma_Shares__getitem_, mb_Shares__getitem_, k46⟩
  u_Shares__iter_ := ⟨_, fun_mk (st := s_Shares__iter_) l47 c47 k47⟩
  m_Shares__iter_ := ⟨ma_Shares__iter_, mb_Shares__iter_, k47⟩
  u_Shares__len_ := ⟨_, fun_mk (st := s_Shares__len_) l48 c48 k48⟩
  m_Shares__len_ := ⟨ma_Shares__len_, mb_Shares__len_, k48⟩
  u_Shares__eq_ := ⟨_, fun_mk (st := s_Shares__eq_) l49 c49 k49⟩
  m_Shares__eq_ := ⟨ma_Shares__eq_, mb_Shares__eq_, k49⟩
  ne_Shares__eq_ := ⟨na_Shares__eq_, nf_Shares__eq_, nt_Shares__eq_⟩
  u_Shares__add_ := ⟨_, fun_mk (st := s_Shares__add_) l50 c50 k50⟩
  m_Shares__add_ := ⟨ma_Shares__add_, mb_Shares__add_, k50⟩
  u_Shares__sub_ := ⟨_, fun_mk (st := s_Shares__sub_) l51 c51 k51⟩
  m_Shares__sub_ := ⟨ma_Shares__sub_, mb_Shares__sub_, k51⟩
  u_Shares__mul_ := ⟨_, fun_mk (st := s_Shares__mul_) l52 c52 k52⟩
  m_Shares__mul_ := ⟨ma_Shares__mul_, mb_Shares__mul_, k52⟩
  oi_Shares__mul_ := ⟨oa_Shares__mul_, ⟨_, ob_Shares__mul_⟩, ⟨_, oc_Shares__mul_⟩, od_Shares__mul_⟩
  u_Shares__neg_ := ⟨_, fun_mk (st := s_Shares__neg_) l53 c53 k53⟩
  m_Shares__neg_ := ⟨ma_Shares__neg_, mb_Shares__neg_, k53⟩
  u_Shares__abs_ := ⟨_, fun_mk (st := s_Shares__abs_) l54 c54 k54⟩
  m_Shares__abs_ := ⟨ma_Shares__abs_, mb_Shares__abs_, k54⟩
  g_Bill := PySem.W.mg_of X G g_Bill
  cl_Bill := ⟨pg_Bill, hd_Bill, po_Bill, sa_Bill⟩
  si_Bill := ⟨ia_Bill, ib_Bill, ic_Bill, id_Bill⟩
  ob_Bill := ob_Bill
  sf_Bill := sf_Bill
  kit_Bill_tuple := kit_own hd_Bill tyc_Bill kit_Bill_tuple
  kit_Bill_list := kit_own hd_Bill tyc_Bill kit_Bill_list
  kit_Bill_int := kit_own hd_Bill tyc_Bill kit_Bill_int
  na_Bill_amount := na_Bill_amount
  na_Bill_seats := na_Bill_seats
  cr_Bill := ⟨cra_Bill, crb_Bill⟩
  cv_Bill_MAX_SEATS := ⟨_, cva_Bill_MAX_SEATS, ⟨_, rfl⟩⟩
  u_Bill__init_ := ⟨_, fun_mk (st := s_Bill__init_) l55 c55 k55⟩
  m_Bill__init_ := ⟨ma_Bill__init_, mb_Bill__init_, k55⟩
  mk_Bill := ⟨mk_Bill, ma_Bill__init_, mb_Bill__init_, kc_Bill⟩
  u_Bill_amount := ⟨_, fun_mk (st := s_Bill_amount) l56 c56 k56⟩
  pr_Bill_amount := ⟨pa_Bill_amount, pb_Bill_amount, pc_Bill_amount, ⟨_, pd_Bill_amount⟩⟩
  u_Bill_seats := ⟨_, fun_mk (st := s_Bill_seats) l57 c57 k57⟩
  pr_Bill_seats := ⟨pa_Bill_seats, pb_Bill_seats, pc_Bill_seats, ⟨_, pd_Bill_seats⟩⟩
  u_Bill_odd_cents := ⟨_, fun_mk (st := s_Bill_odd_cents) l58 c58 k58⟩
  pr_Bill_odd_cents := ⟨pa_Bill_odd_cents, pb_Bill_odd_cents, pc_Bill_odd_cents, ⟨_, pd_Bill_odd_cents⟩⟩
  u_Bill__contains_ := ⟨_, fun_mk (st := s_Bill__contains_) l59 c59 k59⟩
  m_Bill__contains_ := ⟨ma_Bill__contains_, mb_Bill__contains_, k59⟩
  g_Evening := PySem.W.mg_of X G g_Evening
  cl_Evening := ⟨pg_Evening, hd_Evening, po_Evening, sa_Evening⟩
  si_Evening := ⟨ia_Evening, ib_Evening, ic_Evening, id_Evening⟩
  ob_Evening := ob_Evening
  sf_Evening := sf_Evening
  kit_Evening_tuple := kit_own hd_Evening tyc_Evening kit_Evening_tuple
  kit_Evening_list := kit_own hd_Evening tyc_Evening kit_Evening_list
  kit_Evening_int := kit_own hd_Evening tyc_Evening kit_Evening_int
  na_Evening_seat_count := na_Evening_seat_count
  na_Evening_bills := na_Evening_bills
  cr_Evening := ⟨cra_Evening, crb_Evening⟩
  cv_Evening_MAX_BILLS := ⟨_, cva_Evening_MAX_BILLS, ⟨_, rfl⟩⟩
  u_Evening__init_ := ⟨_, fun_mk (st := s_Evening__init_) l60 c60 k60⟩
  m_Evening__init_ := ⟨ma_Evening__init_, mb_Evening__init_, k60⟩
  mk_Evening := ⟨mk_Evening, ma_Evening__init_, mb_Evening__init_, kc_Evening⟩
  u_Evening_together := ⟨_, fun_mk (st := s_Evening_together) l61 c61 k61⟩
  cm_Evening_together := ⟨cma_Evening_together, ⟨_, cmb_Evening_together⟩, cmc_Evening_together⟩
  u_Evening_seat_count := ⟨_, fun_mk (st := s_Evening_seat_count) l62 c62 k62⟩
  pr_Evening_seat_count := ⟨pa_Evening_seat_count, pb_Evening_seat_count, pc_Evening_seat_count, ⟨_, pd_Evening_seat_count⟩⟩
  u_Evening_bills := ⟨_, fun_mk (st := s_Evening_bills) l63 c63 k63⟩
  pr_Evening_bills := ⟨pa_Evening_bills, pb_Evening_bills, pc_Evening_bills, ⟨_, pd_Evening_bills⟩⟩
  u_Evening__call_ := ⟨_, fun_mk (st := s_Evening__call_) l64 c64 k64⟩
  m_Evening__call_ := ⟨ma_Evening__call_, mb_Evening__call_, k64⟩
  co_Evening := ⟨ma_Evening__call_, mb_Evening__call_, coc_Evening__call_⟩
  u_Evening__getitem_ := ⟨_, fun_mk (st := s_Evening__getitem_) l65 c65 k65⟩
  m_Evening__getitem_ := ⟨ma_Evening__getitem_, mb_Evening__getitem_, k65⟩
  u_Evening__iter_ := ⟨_, fun_mk (st := s_Evening__iter_) l66 c66 k66⟩
  m_Evening__iter_ := ⟨ma_Evening__iter_, mb_Evening__iter_, k66⟩
  u_Evening__len_ := ⟨_, fun_mk (st := s_Evening__len_) l67 c67 k67⟩
  m_Evening__len_ := ⟨ma_Evening__len_, mb_Evening__len_, k67⟩
  u_Evening__bool_ := ⟨_, fun_mk (st := s_Evening__bool_) l68 c68 k68⟩
  m_Evening__bool_ := ⟨ma_Evening__bool_, mb_Evening__bool_, k68⟩
  u_Evening__add_ := ⟨_, fun_mk (st := s_Evening__add_) l69 c69 k69⟩
  m_Evening__add_ := ⟨ma_Evening__add_, mb_Evening__add_, k69⟩
  u_Evening__mul_ := ⟨_, fun_mk (st := s_Evening__mul_) l70 c70 k70⟩
  m_Evening__mul_ := ⟨ma_Evening__mul_, mb_Evening__mul_, k70⟩
  oi_Evening__mul_ := ⟨oa_Evening__mul_, ⟨_, ob_Evening__mul_⟩, ⟨_, oc_Evening__mul_⟩, od_Evening__mul_⟩
/-! tactics of this text: st one step, go as many as go -/
local macro_rules | `(tactic| walk_at "ar") => `(tactic| first | assumption | omega | (show (_ : Int) < _; omega) | decide)
local macro_rules | `(tactic| walk_at "st") => `(tactic| first
  | with_reducible refine' w_seq ?_
  | with_reducible refine' w_asg ?_
  | with_reducible refine' w_name ?_
  | with_reducible refine' w_c ?_
  | with_reducible refine' w_op ?_
  | with_reducible refine' w_ix ?_
  | with_reducible refine' w_at ?_
  | with_reducible refine' w_cons ?_
  | with_reducible refine' w_nil ?_
  | with_reducible refine' w_ret ?_
  | with_reducible refine' w_if ?_
  | with_reducible refine' w_test ?_
  | with_reducible refine' w_tr ?_
  | with_reducible refine' w_un ?_
  | with_reducible refine' w_andV ?_
  | with_reducible refine' w_orV ?_
  | with_reducible refine' w_notA ?_
  | with_reducible refine' w_ch ?_
  | with_reducible refine' w_and ?_
  | with_reducible refine' w_or ?_
  | with_reducible refine' w_not ?_
  | with_reducible refine' w_ifx ?_
  | with_reducible refine' w_tup ?_
  | with_reducible refine' w_lst ?_
  | with_reducible refine' w_next ?_
  | with_reducible refine' w_drop ?_
  | with_reducible refine' w_retN ?_
  | ((with_reducible refine' w_var ?h ?_); (case h => exact rfl))
  | ((with_reducible refine' w_bi ?h ?_); (case h => walk_at "mg"))
  | ((with_reducible refine' w_bv ?h ?_); (case h => walk_at "mg"))
  | ((with_reducible refine' w_gv ?h ?_); (case h => walk_at "mg"))
  | ((with_reducible refine' w_gl ?h ?k ?_); (case h => walk_at "mg"); (case k => walk_at "kp"))
  | ((with_reducible refine' w_glS ?h ?k ?_); (case h => walk_at "mg"); (case k => walk_at "kp"))
  | with_reducible refine' bl_ex ?_
  | with_reducible refine' iteT ?_
  | with_reducible refine' iteF ?_
  | with_reducible refine' ite_nf ?_
  | with_reducible refine' ite_nt ?_
  | with_reducible refine' s_add ?_
  | with_reducible refine' s_sub ?_
  | with_reducible refine' s_lt ?_
  | with_reducible refine' s_le ?_
  | with_reducible refine' s_gt ?_
  | with_reducible refine' s_ge ?_
  | with_reducible refine' s_eqI ?_
  | with_reducible refine' s_neI ?_
  | with_reducible refine' s_eqB ?_
  | with_reducible refine' s_neB ?_
  | with_reducible refine' s_truB ?_
  | with_reducible refine' s_truI ?_
  | with_reducible refine' s_neg ?_
  | ((with_reducible refine' s_mod ?h ?_); (case h => walk_at "ar")))
local macro_rules | `(tactic| walk_at "go") => `(tactic| repeat walk_at "st")

local macro_rules | `(tactic| walk_at "mg") => `(tactic| first | assumption | exact Facts.z_len (by assumption) | exact Facts.z_isinstance (by assumption) | exact Facts.z_int (by assumption) | exact Facts.z_bool (by assumption) | exact Facts.g_Shares (by assumption) | exact Facts.g_is_between (by assumption))
/-! ### the program: is_between, Shares -/
section
variable {P : Program} {w : World} {K : PySem.W.Frag} {mg : Str → Option Value} {base : Heap} {a : Ad}
/-- shares of cs stand at p -/
def ShAt (C : Addr) (H : Hp) (p : Addr) (cs : List Int) : Prop := ∃ dx t, H p = some (.ins C dx [("_cents", .ref t)]) ∧ H t = some (.tup (cs.map V.int))
theorem ShAt.same {C : Addr} {H H' : Hp} {p : Addr} {cs : List Int} (h : ShAt C H p cs) (s : Same H H') : ShAt C H' p cs := by
  obtain ⟨dx, t, h1, h2⟩ := h
  exact ⟨dx, t, s _ _ h1, s _ _ h2⟩
theorem look_cents {t : Addr} : List.lookup ("_cents" : Str) [(("_cents" : Str), V.ref t)] = some (.ref t) := by simp [List.lookup]

def spBetween : Sp := fun vs H Q _ => ∃ i lo hi : Int, vs = [.int i, .int lo, .int hi] ∧ Q (.bl (decide (lo ≤ i) && decide (i ≤ hi))) H
theorem ok_between (T : Facts K mg a) : FnR P w K mg base (L2.CX P w) 1 a.f_is_between spBetween := by
  obtain ⟨fd, F⟩ := T.u_is_between
  refine fnr_ok F sc_is_between (F.binds fun _ _ _ _ _ _ us hl => match us, hl with | [_, _, _], _ => rfl) (fun vs H Q E h => ?_) (fun cdv A outer s H vs Q E hr h => ?_)
  · obtain ⟨i, lo, hi, rfl, _⟩ := h
    rfl
  · obtain ⟨i, lo, hi, rfl, q⟩ := h
    refine ⟨_, (pss_one (ps_ret (pe_and (pe_biA (id := "isinstance") Like.refl pas_main (by rfl) (by decide +kernel) (pa_cons (pv 0) (pa_cons (pe_bvA (v := .ty "int") Like.refl (by rfl) (by decide +kernel) rfl) pa_nil))) (pe_and (pe_notA Like.refl pas_main (pe_biA (id := "isinstance") Like.refl pas_main (by rfl) (by decide +kernel) (pa_cons (pv 0) (pa_cons (pe_bvA (v := .ty "bool") Like.refl (by rfl) (by decide +kernel) rfl) pa_nil)))) (pe_one (pe_chA Like.refl pas_main (pv 1) (pv 0) (pv 2))))))), ?_⟩
    walk_at "go"
    refine s_isiI (b := true) (by decide +kernel) ?_
    walk_at "go"
    refine s_isiI (b := false) (by decide +kernel) ?_
    walk_at "go"
    refine ite_d (fun h1 => ?_) (fun h1 => ?_)
    · rw [decide_eq_true h1] at q
      walk_at "go"
      exact q
    · rw [decide_eq_false h1] at q
      exact q

def spShInit (C : Addr) : Sp := fun vs H Q _ => ∃ x t dx, vs = [.ref x, .ref t] ∧ H x = some (.ins C dx []) ∧ Q .non (upd H x (.ins C dx [("_cents", .ref t)]))
theorem ok_sh_init (T : Facts K mg a) : FnR P w K mg base (L2.CX P w) 1 a.f_Shares__init_ (fun vs H Q E => ∃ ws rest, vs = ws ++ rest ∧ ws.length = ["self"].length ∧ rest.length ≤ sizeLine ∧ ∀ p, H p = Option.none → spShInit a.c_Shares (ws ++ [V.ref p]) (upd H p (.tup rest)) Q E) := by
  obtain ⟨fd, F⟩ := T.u_Shares__init_
  refine fnr_star1 (p1 := "self") (pv := "cents") F sc_Shares__init_ (fun _ _ _ _ _ _ _ => rfl) (fun _ _ _ _ _ _ _ _ _ => rfl) (fun cdv A outer s H vs Q E hr h => ?_)
  obtain ⟨x, t, dx, rfl, hx, q⟩ := h
  refine ⟨_, (pss_one (ps_fld (pv 0) (pv 1) rfl)), ?_⟩
  refine w_fld ?_
  walk_at "go"
  exact ⟨x, a.c_Shares, dx, [], rfl, hx, T.cl_Shares, T.na_Shares_cents, by decide, q⟩
/-- Shares(*cs) -/
theorem s_shares {X0 : Cx} {E : XK} {H : Hp} {Q : VK} {cs : List Int} (T : Facts X0.K X0.mg a) (F : Fn X0 1 a.f_Shares__init_ (fun vs H Q E => ∃ ws rest, vs = ws ++ rest ∧ ws.length = ["self"].length ∧ rest.length ≤ sizeLine ∧ ∀ p, H p = Option.none → spShInit a.c_Shares (ws ++ [V.ref p]) (upd H p (.tup rest)) Q E)) (hr : Room 2 X0.A) (hl : cs.length ≤ 100000)
    (q : ∀ p H', H p = none → Same H H' → ShAt a.c_Shares H' p cs → Q (.ref p) H') : ∃ r, CaD X0 E (.ref a.c_Shares) r ∧ r (cs.map V.int) H Q := by
  refine s_mk T.mk_Shares F hr fun x dx hx hdx hne => ⟨[.ref x], cs.map V.int, rfl, rfl, by rw [List.length_map]; exact sz5 hl, fun t ht => ⟨x, t, dx, rfl, ?_, ?_⟩⟩
  · rw [upd_ne (fun z => by subst z; rw [upd_same] at ht; cases ht), upd_same]
  · have n1 : t ≠ x := fun z => by subst z; rw [upd_same] at ht; cases ht
    have n2 : t ≠ dx := fun z => by subst z; rw [upd_ne hne, upd_same] at ht; cases ht
    rw [upd_ne n1, upd_ne n2] at ht
    refine ⟨rfl, q x _ hx (fun b o e => ?_) ⟨dx, t, upd_same, ?_⟩⟩
    · rw [upd_ne (ne_of_none e hx), upd_ne (ne_of_none e ht), upd_ne (ne_of_none e hx), upd_ne (ne_of_none e hdx)]
      exact e
    · rw [upd_ne n1, upd_same]

def spShCents (C : Addr) : Sp := fun vs H Q _ => ∃ p dx t, vs = [.ref p] ∧ H p = some (.ins C dx [("_cents", .ref t)]) ∧ Q (.ref t) H
theorem ok_sh_cents (T : Facts K mg a) : FnR P w K mg base (L2.CX P w) 1 a.f_Shares_cents (spShCents a.c_Shares) := by
  obtain ⟨fd, F⟩ := T.u_Shares_cents
  refine fnr_ok F sc_Shares_cents (F.binds fun _ _ _ _ _ _ us hl => match us, hl with | [_], _ => rfl) (fun vs H Q E h => ?_) (fun cdv A outer s H vs Q E hr h => ?_)
  · obtain ⟨p, dx, t, rfl, _⟩ := h
    rfl
  · obtain ⟨p, dx, t, rfl, hp, q⟩ := h
    refine ⟨_, (pss_one (ps_ret (pe_atA Like.refl pas_main (pv 0)))), ?_⟩
    walk_at "go"
    exact s_fld hp T.cl_Shares T.na_Shares_cents look_cents q
def spShLen (C : Addr) : Sp := fun vs H Q _ => ∃ p cs, vs = [.ref p] ∧ ShAt C H p cs ∧ Q (.int (cs.length : Nat)) H
theorem ok_sh_len (T : Facts K mg a) : FnR P w K mg base (L2.CX P w) 1 a.f_Shares__len_ (spShLen a.c_Shares) := by
  obtain ⟨fd, F⟩ := T.u_Shares__len_
  refine fnr_ok F sc_Shares__len_ (F.binds fun _ _ _ _ _ _ us hl => match us, hl with | [_], _ => rfl) (fun vs H Q E h => ?_) (fun cdv A outer s H vs Q E hr h => ?_)
  · obtain ⟨p, cs, rfl, _⟩ := h
    rfl
  · obtain ⟨p, cs, rfl, ⟨dx, t, hp, ht⟩, q⟩ := h
    refine ⟨_, (pss_one (ps_ret (pe_biA (id := "len") Like.refl pas_main (by rfl) (by decide +kernel) (pa_cons (pe_atA Like.refl pas_main (pv 0)) pa_nil)))), ?_⟩
    walk_at "go"
    refine s_fld hp T.cl_Shares T.na_Shares_cents look_cents ?_
    walk_at "go"
    refine s_lenT (SqT.of ht) ?_
    rw [List.length_map]
    exact q
def spShGet (C U : Addr) : Sp := fun vs H Q E => ∃ p cs i, vs = [.ref p, .int i] ∧ ShAt C H p cs ∧ (∀ c, 0 ≤ i → cs[i.toNat]? = some c → Q (.int c) H) ∧ (¬ (0 ≤ i ∧ i < (cs.length : Nat)) → E (.ref U) none H)
theorem ok_sh_get (T : Facts K mg a) : FnR P w K mg base (L2.CX P w) 2 a.f_Shares__getitem_ (spShGet a.c_Shares a.c_UnknownSeat) := by
  obtain ⟨fd, F⟩ := T.u_Shares__getitem_
  have GB : FnR P w K mg base (L2.CX P w) 1 a.f_is_between spBetween := ok_between T
  refine fnr_ok F sc_Shares__getitem_ (F.binds fun _ _ _ _ _ _ us hl => match us, hl with | [_, _], _ => rfl) (fun vs H Q E h => ?_) (fun cdv A outer s H vs Q E hr h => ?_)
  · obtain ⟨p, cs, i, rfl, _⟩ := h
    rfl
  · obtain ⟨p, cs, i, rfl, ⟨dx, t, hp, ht⟩, q, e⟩ := h
    refine ⟨_, (pss_cons (ps_if (pt_not (pt_trA Like.refl pas_main (pe_glA Like.refl pas_main (by rfl) (pa_cons (pv 1) (pa_cons (pe_int) (pa_cons (pe_opA Like.refl pas_main (pe_biA (id := "len") Like.refl pas_main (by rfl) (by decide +kernel) (pa_cons (pe_atA Like.refl pas_main (pv 0)) pa_nil)) (pe_int)) pa_nil)))))) (pss_one (ps_raA rfl tk_main (by rfl))) pss_nil)
    (pss_one (ps_ret (pe_ixA Like.refl pas_main (pe_atA Like.refl pas_main (pv 0)) (pv 1))))), ?_⟩
    refine w_seq (w_if (w_not (w_tr (w_gl T.g_is_between (Fun.kp T.u_is_between.choose_spec) ?_))))
    walk_at "go"
    refine s_fld hp T.cl_Shares T.na_Shares_cents look_cents ?_
    walk_at "go"
    refine s_lenT (SqT.of ht) ?_
    walk_at "go"
    refine s_fn GB hr ⟨i, 0, _, rfl, ?_⟩
    walk_at "go"
    rw [List.length_map]
    by_cases h0 : 0 ≤ i
    · by_cases h1 : i < (cs.length : Nat)
      · rw [decide_eq_true h0, decide_eq_true (show i ≤ (cs.length : Int) - 1 by omega)]
        refine iteF ?_
        walk_at "go"
        refine s_fld hp T.cl_Shares T.na_Shares_cents look_cents ?_
        walk_at "go"
        have hn : i.toNat < cs.length := by omega
        refine s_ixT (SqT.of ht) (at_of (j := i.toNat) (by omega) (by rw [List.getElem?_map, List.getElem?_eq_getElem hn] <;> rfl)) (q _ h0 (List.getElem?_eq_getElem hn))
      · rw [decide_eq_false (show ¬ i ≤ (cs.length : Int) - 1 by omega), Bool.and_false]
        exact iteT ⟨_, T.x_UnknownSeat, e fun z => h1 z.2⟩
    · rw [decide_eq_false h0]
      exact iteT ⟨_, T.x_UnknownSeat, e fun z => h0 z.1⟩
def spShEq (K : PySem.W.Frag) (C : Addr) : Sp := fun vs H Q _ => ∃ p cs y, vs = [.ref p, y] ∧ ShAt C H p cs ∧
  ((∃ q ds, y = .ref q ∧ ShAt C H q ds ∧ Q (.bl (decide (cs = ds))) H) ∨ (∃ t, TyX K H y (.type t) ∧ PySem.W.kitOne K (.type t) (.ref C) = some false ∧ Q (.bl false) H))
theorem ok_sh_eq (T : Facts K mg a) : FnR P w K mg base (L2.CX P w) 1 a.f_Shares__eq_ (spShEq K a.c_Shares) := by
  obtain ⟨fd, F⟩ := T.u_Shares__eq_
  refine fnr_ok F sc_Shares__eq_ (F.binds fun _ _ _ _ _ _ us hl => match us, hl with | [_, _], _ => rfl) (fun vs H Q E h => ?_) (fun cdv A outer s H vs Q E hr h => ?_)
  · obtain ⟨p, cs, y, rfl, _⟩ := h
    rfl
  · obtain ⟨p, cs, y, rfl, ⟨dx, t, hp, ht⟩, h⟩ := h
    have hr' := hr.units
    refine ⟨_, (pss_one (ps_ret (pe_and (pe_biA (id := "isinstance") Like.refl pas_main (by rfl) (by decide +kernel) (pa_cons (pv 1) (pa_cons (pe_gvA Like.refl (by rfl)) pa_nil))) (pe_one (pe_cmpA Like.refl pas_main (pe_atA Like.refl pas_main (pv 0)) (pe_atA Like.refl pas_main (pv 1)) (nomark _)))))), ?_⟩
    walk_at "go"
    rcases h with ⟨q, ds, rfl, ⟨dy, u, hq, hu⟩, k⟩ | ⟨ty, hy, hk, k⟩
    · refine s_isiC (tyx_ins hq T.cl_Shares T.si_Shares) kit_self ?_
      walk_at "go"
      refine s_fld hp T.cl_Shares T.na_Shares_cents look_cents ?_
      walk_at "go"
      refine s_fld hq T.cl_Shares T.na_Shares_cents look_cents ?_
      exact s_eqTups hr' (SqT.of ht) (SqT.of hu) k
    · refine s_isiC hy hk ?_
      walk_at "go"
      exact k
/-- Shares by the class's new object -/
abbrev InitSp (C : Addr) : Sp := fun vs H Q E => ∃ ws rest, vs = ws ++ rest ∧ ws.length = ["self"].length ∧ rest.length ≤ sizeLine ∧ ∀ p, H p = Option.none → spShInit C (ws ++ [V.ref p]) (upd H p (.tup rest)) Q E
def spShMul (C : Addr) : Sp := fun vs H Q _ => ∃ p cs i, vs = [.ref p, .int i] ∧ ShAt C H p cs ∧ cs.length ≤ 1000 ∧ (∀ c ∈ cs, CMul c i) ∧ ∀ r H', H r = none → Same H H' → ShAt C H' r (cs.map (· * i)) → Q (.ref r) H'
theorem ok_sh_mul (T : Facts K mg a) : FnR P w K mg base (L2.CX P w) 3 a.f_Shares__mul_ (spShMul a.c_Shares) := by
  obtain ⟨fd, F⟩ := T.u_Shares__mul_
  have GI : FnR P w K mg base (L2.CX P w) 1 a.f_Shares__init_ (InitSp a.c_Shares) := ok_sh_init T
  refine fnr_ok F sc_Shares__mul_ (F.binds fun _ _ _ _ _ _ us hl => match us, hl with | [_, _], _ => rfl) (fun vs H Q E h => ?_) (fun cdv A outer s H vs Q E hr h => ?_)
  · obtain ⟨p, cs, i, rfl, _⟩ := h
    rfl
  · obtain ⟨p, cs, i, rfl, ⟨dx, t, hp, ht⟩, hl, hm, q⟩ := h
    refine ⟨_, (pss_cons (ps_setLc (i := 2) (own := [("cents", 3)]) (g := gName 3) (tt := tYes) rfl sc_Shares__mul_.nd rfl rfl (sw_true rfl rfl rfl (by decide +kernel)) (pi_seqA Like.refl (pe_atA Like.refl pas_main (pv 0))) (blkOk_by (own := [("cents", 3)]) (N := N_Shares__mul_) (sc := defScope s_Shares__mul_) (by decide +kernel)) (fun _ _ _ _ _ => (pg_name (i := 3) sc_Shares__mul_.nd rfl (by first | exact Or.inl rfl | exact Or.inr rfl))) (fun _ _ _ _ _ => pts_nil) (fun _ _ _ _ _ => (pe_opA ⟨rfl, rfl, rfl, rfl, rfl, rfl, rfl⟩ passL (pv 3) (pv 1))))
    (pss_one (ps_ret (pe_glS Like.refl pas_main (by rfl) (pv 2))))), ?_⟩
    refine w_seq (w_asg ?_)
    refine c_tup (a := t) (xs := cs.map V.int) (fun k => (cs.take k).map fun c => V.int (c * i)) rfl (fun k hk => ?_) (SqT.of ht) (fun _ => rfl) (fun k x H' hx s1 => ?_) (fun r H' hr0 s1 hL => ?_) (fun R k => ?_)
    · rw [List.length_map, List.length_take]
      omega
    · rw [List.getElem?_map] at hx
      cases e : cs[k]? with
      | none => rw [e] at hx; cases hx
      | some c =>
        rw [e] at hx
        cases hx
        have ek : (cs.take (k + 1)).map (fun c => V.int (c * i)) = (cs.take k).map (fun c => V.int (c * i)) ++ [V.int (c * i)] := by
          rw [List.take_add_one, e]
          simp
        show Turn1 _ _ _ _ _ ((cs.take (k + 1)).map fun c => V.int (c * i))
        rw [ek]
        refine turn1_map fun R kk => ?_
        walk_at "go"
        exact s_mul (hm c (List.mem_of_getElem? e)) (kk _ (Same.refl _))
    · rw [List.length_map] at hL
      rw [List.take_of_length_le (Nat.le_refl _)] at hL
      walk_at "go"
      refine w_glS T.g_Shares T.mk_Shares.kp ?_
      walk_at "go"
      refine ⟨r, (cs.map (· * i)).map V.int, rfl, .inr (SqL.of (by rw [hL, List.map_map] <;> rfl)), ?_⟩
      exact s_shares T GI hr (by rw [List.length_map]; omega) fun p' H2 hp' s2 sh => q p' H2 (s1.free hp') (s1.trans s2) sh
    · walk_at "go"
      exact s_fld hp T.cl_Shares T.na_Shares_cents look_cents k
def spShNeg (C : Addr) : Sp := fun vs H Q _ => ∃ p cs, vs = [.ref p] ∧ ShAt C H p cs ∧ cs.length ≤ 1000 ∧ ∀ r H', H r = none → Same H H' → ShAt C H' r (cs.map (· * (-1))) → Q (.ref r) H'
theorem ok_sh_neg (T : Facts K mg a) : FnR P w K mg base (L2.CX P w) 4 a.f_Shares__neg_ (spShNeg a.c_Shares) := by
  obtain ⟨fd, F⟩ := T.u_Shares__neg_
  have GM : FnR P w K mg base (L2.CX P w) 3 a.f_Shares__mul_ (spShMul a.c_Shares) := ok_sh_mul T
  refine fnr_ok F sc_Shares__neg_ (F.binds fun _ _ _ _ _ _ us hl => match us, hl with | [_], _ => rfl) (fun vs H Q E h => ?_) (fun cdv A outer s H vs Q E hr h => ?_)
  · obtain ⟨p, cs, rfl, _⟩ := h
    rfl
  · obtain ⟨p, cs, rfl, sh, hl, q⟩ := h
    obtain ⟨dx, t, hp, ht⟩ := id sh
    refine ⟨_, (pss_one (ps_ret (pe_opA Like.refl pas_main (pv 0) (pe_unA Like.refl pas_main (pe_int))))), ?_⟩
    walk_at "go"
    exact s_opInt T.sf_Shares T.m_Shares__mul_ T.oi_Shares__mul_ (by decide +kernel) (by decide +kernel) GM hr hp ⟨p, cs, -1, rfl, sh, hl, fun c _ => .inr ⟨by decide, by decide⟩, q⟩
def spShAdd (C O : Addr) : Sp := fun vs H Q E => ∃ p q cs ds, vs = [.ref p, .ref q] ∧ ShAt C H p cs ∧ ShAt C H q ds ∧ cs.length ≤ 1000 ∧
  (cs.length = ds.length → ∀ r H', H r = none → Same H H' → ShAt C H' r (List.zipWith (· + ·) cs ds) → Q (.ref r) H') ∧ (cs.length ≠ ds.length → E (.ref O) none H)
theorem ok_sh_add (T : Facts K mg a) : FnR P w K mg base (L2.CX P w) 3 a.f_Shares__add_ (spShAdd a.c_Shares a.c_OtherTable) := by
  obtain ⟨fd, F⟩ := T.u_Shares__add_
  have GI : FnR P w K mg base (L2.CX P w) 1 a.f_Shares__init_ (InitSp a.c_Shares) := ok_sh_init T
  refine fnr_ok F sc_Shares__add_ (F.binds fun _ _ _ _ _ _ us hl => match us, hl with | [_, _], _ => rfl) (fun vs H Q E h => ?_) (fun cdv A outer s H vs Q E hr h => ?_)
  · obtain ⟨p, q, cs, ds, rfl, _⟩ := h
    rfl
  · obtain ⟨p, q, cs, ds, rfl, ⟨dx, t, hp, ht⟩, ⟨dy, u, hq, hu⟩, hl, k, e⟩ := h
    refine ⟨_, (pss_cons (ps_if (pt_cmpA Like.refl pas_main (pe_biA (id := "len") Like.refl pas_main (by rfl) (by decide +kernel) (pa_cons (pe_atA Like.refl pas_main (pv 0)) pa_nil)) (pe_biA (id := "len") Like.refl pas_main (by rfl) (by decide +kernel) (pa_cons (pe_atA Like.refl pas_main (pv 1)) pa_nil)) (nomark _)) (pss_one (ps_raA rfl tk_main (by rfl))) pss_nil)
    (pss_cons (ps_setLc (i := 2) (own := [("mine", 3), ("its", 4)]) (g := gTup K 2 (gCons (gName 3) (gCons (gName 4) gNil))) (tt := tYes) rfl sc_Shares__add_.nd rfl rfl (sw_true rfl rfl rfl (by decide +kernel)) (RZ.pi_zipA (by rfl) T.z_zip (pa_cons (pe_atA Like.refl pas_main (pv 0)) (pa_cons (pe_atA Like.refl pas_main (pv 1)) pa_nil))) (blkOk_by (own := [("mine", 3), ("its", 4)]) (N := N_Shares__add_) (sc := defScope s_Shares__add_) (by decide +kernel)) (fun _ _ _ _ _ => (pg_tup rfl (pgs_cons (pg_name (i := 3) sc_Shares__add_.nd rfl (by first | exact Or.inl rfl | exact Or.inr rfl)) (pgs_cons (pg_name (i := 4) sc_Shares__add_.nd rfl (by first | exact Or.inl rfl | exact Or.inr rfl)) pgs_nil)))) (fun _ _ _ _ _ => pts_nil) (fun _ _ _ _ _ => (pe_opA ⟨rfl, rfl, rfl, rfl, rfl, rfl, rfl⟩ passL (pv 3) (pv 4))))
    (pss_one (ps_ret (pe_glS Like.refl pas_main (by rfl) (pv 2)))))), ?_⟩
    walk_at "go"
    refine s_fld hp T.cl_Shares T.na_Shares_cents look_cents ?_
    walk_at "go"
    refine s_lenT (SqT.of ht) ?_
    walk_at "go"
    refine s_fld hq T.cl_Shares T.na_Shares_cents look_cents ?_
    walk_at "go"
    refine s_lenT (SqT.of hu) ?_
    walk_at "go"
    rw [List.length_map, List.length_map]
    refine ite_n (fun h1 => ?_) (fun h1 => ?_)
    · exact ⟨_, T.x_OtherTable, e fun z => h1 (by rw [z])⟩
    · have hcd : cs.length = ds.length := by omega
      walk_at "go"
      refine c_zipT (a := t) (b := u) (xs := cs.map V.int) (ys := ds.map V.int) (fun k => ((List.zipWith (· + ·) cs ds).take k).map V.int) rfl (fun k hk => ?_) (SqT.of ht) (SqT.of hu) (fun _ _ => rfl) (fun j x y H' hx hy s1 => ?_) (fun r H' hr0 s1 hL => ?_) (fun R k => ?_)
      · rw [List.length_map, List.length_take, List.length_zipWith]
        omega
      · rw [List.getElem?_map] at hx hy
        cases ex : cs[j]? with
        | none => rw [ex] at hx; cases hx
        | some c =>
          cases ey : ds[j]? with
          | none => rw [ey] at hy; cases hy
          | some d =>
            rw [ex] at hx
            rw [ey] at hy
            cases hx
            cases hy
            have ek : ((List.zipWith (· + ·) cs ds).take (j + 1)).map V.int = ((List.zipWith (· + ·) cs ds).take j).map V.int ++ [V.int (c + d)] := by
              rw [List.take_add_one, List.getElem?_zipWith, ex, ey]
              simp
            show Turn1 _ _ _ _ _ (((List.zipWith (· + ·) cs ds).take (j + 1)).map V.int)
            rw [ek]
            refine turn1_map fun R kk => ?_
            walk_at "go"
            exact kk _ (Same.refl _)
      · have e1 : (List.zipWith (· + ·) cs ds).take (min (cs.map V.int).length (ds.map V.int).length) = List.zipWith (· + ·) cs ds := List.take_of_length_le (by rw [List.length_zipWith, List.length_map, List.length_map]; exact Nat.le_refl _)
        rw [e1] at hL
        walk_at "go"
        refine w_glS T.g_Shares T.mk_Shares.kp ?_
        walk_at "go"
        refine ⟨r, (List.zipWith (· + ·) cs ds).map V.int, rfl, .inr (SqL.of hL), ?_⟩
        exact s_shares T GI hr (by rw [List.length_zipWith]; omega) fun p' H2 hp' s2 sh => k hcd p' H2 (s1.free hp') (s1.trans s2) sh
      · walk_at "go"
        refine s_fld hp T.cl_Shares T.na_Shares_cents look_cents ?_
        walk_at "go"
        refine s_fld hq T.cl_Shares T.na_Shares_cents look_cents ?_
        walk_at "go"
        exact k
def spShSub (C O : Addr) : Sp := fun vs H Q E => ∃ p q cs ds, vs = [.ref p, .ref q] ∧ ShAt C H p cs ∧ ShAt C H q ds ∧ cs.length ≤ 1000 ∧ ds.length ≤ 1000 ∧
  (cs.length = ds.length → ∀ r H', H r = none → Same H H' → ShAt C H' r (List.zipWith (· - ·) cs ds) → Q (.ref r) H') ∧ (cs.length ≠ ds.length → ∀ H', Same H H' → E (.ref O) none H')
theorem zip_neg : ∀ cs ds : List Int, List.zipWith (· + ·) cs (ds.map (· * (-1))) = List.zipWith (· - ·) cs ds
  | [], _ => by simp
  | _ :: _, [] => by simp
  | c :: cs, d :: ds => by
    rw [List.map_cons, List.zipWith_cons_cons, List.zipWith_cons_cons, zip_neg cs ds]
    congr 1
    omega
theorem ok_sh_sub (T : Facts K mg a) : FnR P w K mg base (L2.CX P w) 5 a.f_Shares__sub_ (spShSub a.c_Shares a.c_OtherTable) := by
  obtain ⟨fd, F⟩ := T.u_Shares__sub_
  have GN : FnR P w K mg base (L2.CX P w) 4 a.f_Shares__neg_ (spShNeg a.c_Shares) := ok_sh_neg T
  have GA : FnR P w K mg base (L2.CX P w) 3 a.f_Shares__add_ (spShAdd a.c_Shares a.c_OtherTable) := ok_sh_add T
  refine fnr_ok F sc_Shares__sub_ (F.binds fun _ _ _ _ _ _ us hl => match us, hl with | [_, _], _ => rfl) (fun vs H Q E h => ?_) (fun cdv A outer s H vs Q E hr h => ?_)
  · obtain ⟨p, q, cs, ds, rfl, _⟩ := h
    rfl
  · obtain ⟨p, q, cs, ds, rfl, sp, sq, hl, hl2, k, e⟩ := h
    obtain ⟨dx, t, hp, ht⟩ := id sp
    obtain ⟨dy, u, hq, hu⟩ := id sq
    refine ⟨_, (pss_one (ps_ret (pe_opA Like.refl pas_main (pv 0) (pe_unA Like.refl pas_main (pv 1))))), ?_⟩
    walk_at "go"
    refine s_negI T.m_Shares__neg_ GN hr hq ⟨q, ds, rfl, sq, hl2, fun r H' hr0 s1 sr => ?_⟩
    obtain ⟨dz, v, hv, hw⟩ := id sr
    refine s_opSame T.sf_Shares T.m_Shares__add_ (by decide +kernel) GA (hr.mono (by decide)) (s1 _ _ hp) hv ⟨p, r, cs, _, rfl, sp.same s1, sr, hl, fun hh r' H2 hr' s2 sh => ?_, fun hh => ?_⟩
    · rw [List.length_map] at hh
      rw [zip_neg] at sh
      exact k hh r' H2 (s1.free hr') (s1.trans s2) sh
    · rw [List.length_map] at hh
      exact e hh H' s1
def spShAbs (C : Addr) : Sp := fun vs H Q _ => ∃ p cs, vs = [.ref p] ∧ ShAt C H p cs ∧ Q (.int (maxI cs - minI cs)) H
theorem ok_sh_abs (T : Facts K mg a) : FnR P w K mg base (L2.CX P w) 1 a.f_Shares__abs_ (spShAbs a.c_Shares) := by
  obtain ⟨fd, F⟩ := T.u_Shares__abs_
  refine fnr_ok F sc_Shares__abs_ (F.binds fun _ _ _ _ _ _ us hl => match us, hl with | [_], _ => rfl) (fun vs H Q E h => ?_) (fun cdv A outer s H vs Q E hr h => ?_)
  · obtain ⟨p, cs, rfl, _⟩ := h
    rfl
  · obtain ⟨p, cs, rfl, ⟨dx, t, hp, ht⟩, q⟩ := h
    refine ⟨_, (pss_one (ps_ret (pe_ifExp (pt_trA Like.refl pas_main (pe_atA Like.refl pas_main (pv 0))) (pe_opA Like.refl pas_main (pe_biA (id := "max") Like.refl pas_main (by rfl) (by decide +kernel) (pa_cons (pe_atA Like.refl pas_main (pv 0)) pa_nil)) (pe_biA (id := "min") Like.refl pas_main (by rfl) (by decide +kernel) (pa_cons (pe_atA Like.refl pas_main (pv 0)) pa_nil))) (pe_int)))), ?_⟩
    walk_at "go"
    refine s_fld hp T.cl_Shares T.na_Shares_cents look_cents ?_
    refine s_truT (SqT.of ht) ?_
    cases cs with
    | nil =>
      refine iteF ?_
      walk_at "go"
      exact q
    | cons c cs =>
      refine iteT ?_
      refine w_op (w_bi T.z_max ?_)
      walk_at "go"
      refine s_fld hp T.cl_Shares T.na_Shares_cents look_cents ?_
      walk_at "go"
      refine s_maxT rfl (SqT.of ht) (by simp) ?_
      refine w_bi T.z_min ?_
      walk_at "go"
      refine s_fld hp T.cl_Shares T.na_Shares_cents look_cents ?_
      walk_at "go"
      refine s_minT rfl (SqT.of ht) (by simp) ?_
      walk_at "go"
      exact q
end

end Odd

namespace Odd
open PySem PySem.Spec PyProof.Rows L2
/-! tactics of this text: st one step, go as many as go -/
local macro_rules | `(tactic| walk_at "ar") => `(tactic| first | assumption | omega | (show (_ : Int) < _; omega) | decide)
local macro_rules | `(tactic| walk_at "st") => `(tactic| first
  | with_reducible refine' w_seq ?_
  | with_reducible refine' w_asg ?_
  | with_reducible refine' w_name ?_
  | with_reducible refine' w_c ?_
  | with_reducible refine' w_op ?_
  | with_reducible refine' w_ix ?_
  | with_reducible refine' w_at ?_
  | with_reducible refine' w_cons ?_
  | with_reducible refine' w_nil ?_
  | with_reducible refine' w_ret ?_
  | with_reducible refine' w_if ?_
  | with_reducible refine' w_test ?_
  | with_reducible refine' w_tr ?_
  | with_reducible refine' w_un ?_
  | with_reducible refine' w_andV ?_
  | with_reducible refine' w_orV ?_
  | with_reducible refine' w_notA ?_
  | with_reducible refine' w_ch ?_
  | with_reducible refine' w_and ?_
  | with_reducible refine' w_or ?_
  | with_reducible refine' w_not ?_
  | with_reducible refine' w_ifx ?_
  | with_reducible refine' w_tup ?_
  | with_reducible refine' w_lst ?_
  | with_reducible refine' w_next ?_
  | with_reducible refine' w_drop ?_
  | with_reducible refine' w_retN ?_
  | ((with_reducible refine' w_var ?h ?_); (case h => exact rfl))
  | ((with_reducible refine' w_bi ?h ?_); (case h => walk_at "mg"))
  | ((with_reducible refine' w_bv ?h ?_); (case h => walk_at "mg"))
  | ((with_reducible refine' w_gv ?h ?_); (case h => walk_at "mg"))
  | ((with_reducible refine' w_gl ?h ?k ?_); (case h => walk_at "mg"); (case k => walk_at "kp"))
  | ((with_reducible refine' w_glS ?h ?k ?_); (case h => walk_at "mg"); (case k => walk_at "kp"))
  | with_reducible refine' bl_ex ?_
  | with_reducible refine' iteT ?_
  | with_reducible refine' iteF ?_
  | with_reducible refine' ite_nf ?_
  | with_reducible refine' ite_nt ?_
  | with_reducible refine' s_add ?_
  | with_reducible refine' s_sub ?_
  | with_reducible refine' s_lt ?_
  | with_reducible refine' s_le ?_
  | with_reducible refine' s_gt ?_
  | with_reducible refine' s_ge ?_
  | with_reducible refine' s_eqI ?_
  | with_reducible refine' s_neI ?_
  | with_reducible refine' s_eqB ?_
  | with_reducible refine' s_neB ?_
  | with_reducible refine' s_truB ?_
  | with_reducible refine' s_truI ?_
  | with_reducible refine' s_neg ?_
  | ((with_reducible refine' s_mod ?h ?_); (case h => walk_at "ar")))
local macro_rules | `(tactic| walk_at "go") => `(tactic| repeat walk_at "st")

local macro_rules | `(tactic| walk_at "mg") => `(tactic| first | assumption | exact Facts.z_len (by assumption) | exact Facts.z_isinstance (by assumption) | exact Facts.z_int (by assumption) | exact Facts.z_bool (by assumption) | exact Facts.z_tuple (by assumption) | exact Facts.z_list (by assumption) | exact Facts.z_range (by assumption) | exact Facts.z_sum (by assumption) | exact Facts.g_Shares (by assumption) | exact Facts.g_Bill (by assumption) | exact Facts.g_Evening (by assumption) | exact Facts.g_is_between (by assumption) | exact Facts.g_check_amount (by assumption) | exact Facts.g_check_seats (by assumption) | exact Facts.g_check_seat_count (by assumption) | exact Facts.g_check_bills (by assumption) | exact Facts.g_check_mark (by assumption) | exact Facts.g_no_shares (by assumption) | exact Facts.g_seats_behind (by assumption) | exact Facts.g_split_bill (by assumption))
local macro_rules | `(tactic| walk_at "kp") => `(tactic| first | assumption | exact Fun.kp (Facts.u_is_between (by assumption)).choose_spec | exact (Facts.mk_Shares (by assumption)).kp | exact (Facts.mk_Bill (by assumption)).kp | exact (Facts.mk_Evening (by assumption)).kp | exact Fun.kp (Facts.u_check_amount (by assumption)).choose_spec | exact Fun.kp (Facts.u_check_seats (by assumption)).choose_spec | exact Fun.kp (Facts.u_check_seat_count (by assumption)).choose_spec | exact Fun.kp (Facts.u_check_bills (by assumption)).choose_spec | exact Fun.kp (Facts.u_check_mark (by assumption)).choose_spec | exact Fun.kp (Facts.u_no_shares (by assumption)).choose_spec | exact Fun.kp (Facts.u_seats_behind (by assumption)).choose_spec | exact Fun.kp (Facts.u_split_bill (by assumption)).choose_spec)

/-! ### the program: bills, evenings -/
section
variable {P : Program} {w : World} {K : PySem.W.Frag} {mg : Str → Option Value} {base : Heap} {a : Ad}
/-- a bill of amt for the seats ss stands at p -/
def BiAt (C : Addr) (H : Hp) (p : Addr) (b : Int × List Int) : Prop := ∃ dx t, H p = some (.ins C dx [("_amount", .int b.1), ("_seats", .ref t)]) ∧ H t = some (.tup (b.2.map V.int))
theorem BiAt.same {C : Addr} {H H' : Hp} {p : Addr} {b : Int × List Int} (h : BiAt C H p b) (s : Same H H') : BiAt C H' p b := by
  obtain ⟨dx, t, h1, h2⟩ := h
  exact ⟨dx, t, s _ _ h1, s _ _ h2⟩
/-- bills stand at ps -/
def BisAt (C : Addr) (H : Hp) (ps : List Addr) (bs : List (Int × List Int)) : Prop := ps.length = bs.length ∧ ∀ (i : Nat) p b, ps[i]? = some p → bs[i]? = some b → BiAt C H p b
theorem BisAt.same {C : Addr} {H H' : Hp} {ps : List Addr} {bs : List (Int × List Int)} (h : BisAt C H ps bs) (s : Same H H') : BisAt C H' ps bs := ⟨h.1, fun i p b h1 h2 => (h.2 i p b h1 h2).same s⟩
/-- an evening of bs at a table of n seats stands at p -/
def EvAt (CE CB : Addr) (H : Hp) (p : Addr) (n : Int) (bs : List (Int × List Int)) : Prop := ∃ dx t ps, H p = some (.ins CE dx [("_seat_count", .int n), ("_bills", .ref t)]) ∧ H t = some (.tup (ps.map V.ref)) ∧ BisAt CB H ps bs
theorem EvAt.same {CE CB : Addr} {H H' : Hp} {p : Addr} {n : Int} {bs : List (Int × List Int)} (h : EvAt CE CB H p n bs) (s : Same H H') : EvAt CE CB H' p n bs := by
  obtain ⟨dx, t, ps, h1, h2, h3⟩ := h
  exact ⟨dx, t, ps, s _ _ h1, s _ _ h2, h3.same s⟩
/-- ascending seats, from lo to 7 -/
def asc : Int → List Int → Bool
  | _, [] => true
  | lo, s :: ss => decide (lo ≤ s) && decide (s ≤ 7) && asc (s + 1) ss
/-- a bill that is none of the wrong ones -/
def OkBill (b : Int × List Int) : Prop := 0 ≤ b.1 ∧ b.1 ≤ 10 ^ 12 ∧ asc 0 b.2 = true ∧ b.2 ≠ []
theorem s_btwT {X0 : Cx} {E : XK} {H : Hp} {Q : VK} {i lo hi : Int} (GB : Fn X0 1 a.f_is_between spBetween) (hr : Room 1 X0.A) (h1 : lo ≤ i) (h2 : i ≤ hi) (q : Q (.bl true) H) : ∃ r, CaD X0 E (.ref a.f_is_between) r ∧ r [.int i, .int lo, .int hi] H Q :=
  s_fn GB hr ⟨i, lo, hi, rfl, by rw [decide_eq_true h1, decide_eq_true h2]; exact q⟩
def spCkAmount : Sp := fun vs H Q _ => ∃ i : Int, vs = [.int i] ∧ 0 ≤ i ∧ i ≤ 10 ^ 12 ∧ Q .non H
theorem ok_check_amount (T : Facts K mg a) : FnR P w K mg base (L2.CX P w) 2 a.f_check_amount spCkAmount := by
  obtain ⟨fd, F⟩ := T.u_check_amount
  have GB : FnR P w K mg base (L2.CX P w) 1 a.f_is_between spBetween := ok_between T
  refine fnr_ok F sc_check_amount (F.binds fun _ _ _ _ _ _ us hl => match us, hl with | [_], _ => rfl) (fun vs H Q E h => ?_) (fun cdv A outer s H vs Q E hr h => ?_)
  · obtain ⟨i, rfl, _⟩ := h
    rfl
  · obtain ⟨i, rfl, h0, h1, q⟩ := h
    refine ⟨_, (pss_one (ps_if (pt_not (pt_trA Like.refl pas_main (pe_glA Like.refl pas_main (by rfl) (pa_cons (pv 0) (pa_cons (pe_int) (pa_cons (pe_gvI Like.refl (by rfl)) pa_nil)))))) (pss_one (ps_never)) pss_nil)), ?_⟩
    walk_at "go"
    refine w_gvI T.i_MAX_AMOUNT.choose_spec ?_
    walk_at "go"
    refine s_btwT GB hr h0 (by omega) ?_
    walk_at "go"
    exact q
def spCkSeats (K : PySem.W.Frag) : Sp := fun vs H Q _ => ∃ t ss, vs = [.ref t] ∧ SqT K H t (ss.map V.int) ∧ asc 0 ss = true ∧ ss ≠ [] ∧ ∀ H', Same H H' → Q .non H'
theorem ok_check_seats (T : Facts K mg a) : FnR P w K mg base (L2.CX P w) 2 a.f_check_seats (spCkSeats K) := by
  obtain ⟨fd, F⟩ := T.u_check_seats
  have GB : FnR P w K mg base (L2.CX P w) 1 a.f_is_between spBetween := ok_between T
  refine fnr_ok F sc_check_seats (F.binds fun _ _ _ _ _ _ us hl => match us, hl with | [_], _ => rfl) (fun vs H Q E h => ?_) (fun cdv A outer s H vs Q E hr h => ?_)
  · obtain ⟨t, ss, rfl, _⟩ := h
    rfl
  · obtain ⟨t, ss, rfl, ht, ha, hne, q⟩ := h
    refine ⟨_, (pss_cons (ps_set (i := 1) sc_check_seats.nd rfl (Or.inl rfl) (pe_int))
    (pss_cons (ps_for own_main rfl (pi_enumA (by rfl) T.z_enumerate (pa_cons (pv 0) pa_nil)) (pg_tup rfl (pgs_cons (pg_name (i := 2) sc_check_seats.nd rfl (Or.inl rfl)) (pgs_cons (pg_name (i := 3) sc_check_seats.nd rfl (Or.inl rfl)) pgs_nil))) (pss_cons (ps_if (pt_not (pt_trA Like.refl pas_main (pe_glA Like.refl pas_main (by rfl) (pa_cons (pv 3) (pa_cons (pv 1) (pa_cons (pe_opA Like.refl pas_main (pe_atA Like.refl pas_main (pe_gvA Like.refl (by rfl))) (pe_int)) pa_nil)))))) (pss_one (ps_never)) pss_nil)
    (pss_one (ps_set (i := 1) sc_check_seats.nd rfl (Or.inl rfl) (pe_opA Like.refl pas_main (pv 3) (pe_int))))))
    (pss_one (ps_if (pt_not (pt_trA Like.refl pas_main (pv 0))) (pss_one (ps_never)) pss_nil)))), ?_⟩
    walk_at "go"
    refine f_enumT (xs := ss.map V.int) (a := t) (fun k σ H' => Same H H' ∧ ∃ (lo : Int) (x y : Option V), σ = [some (.ref t), some (.int lo), x, y] ∧ asc lo (ss.drop k) = true) (fun R k => ?_) ⟨Same.refl _, 0, none, none, rfl, ha⟩ (fun k σ H' _ p => same_t p.1 ht) (fun k x σ H' T2 hx p hT => ?_) (fun σ H' p => ?_)
    · walk_at "go"
      exact k
    · obtain ⟨s1, lo, u, v, rfl, hlo⟩ := p
      rw [List.getElem?_map] at hx
      cases e : ss[k]? with
      | none => rw [e] at hx; cases hx
      | some z =>
        rw [e] at hx
        cases hx
        obtain ⟨hk, ez⟩ := List.getElem?_eq_some_iff.1 e
        rw [List.drop_eq_getElem_cons hk, ez] at hlo
        simp only [asc, Bool.and_eq_true, decide_eq_true_eq] at hlo
        walk_at "go"
        refine s_cval T.cr_Bill T.cv_Bill_MAX_SEATS.choose_spec ?_
        walk_at "go"
        refine s_btwT GB hr hlo.1.1 (by omega) ?_
        walk_at "go"
        exact ⟨s1.trans (same_new hT), _, _, _, rfl, hlo.2⟩
    · obtain ⟨s1, lo, u, v, rfl, _⟩ := p
      walk_at "go"
      refine s_truT (same_t s1 ht) ?_
      cases ss with
      | nil => exact absurd rfl hne
      | cons s ss =>
        walk_at "go"
        exact q _ s1
def spCkCount : Sp := fun vs H Q _ => ∃ i : Int, vs = [.int i] ∧ 2 ≤ i ∧ i ≤ 8 ∧ Q .non H
theorem ok_check_seat_count (T : Facts K mg a) : FnR P w K mg base (L2.CX P w) 2 a.f_check_seat_count spCkCount := by
  obtain ⟨fd, F⟩ := T.u_check_seat_count
  have GB : FnR P w K mg base (L2.CX P w) 1 a.f_is_between spBetween := ok_between T
  refine fnr_ok F sc_check_seat_count (F.binds fun _ _ _ _ _ _ us hl => match us, hl with | [_], _ => rfl) (fun vs H Q E h => ?_) (fun cdv A outer s H vs Q E hr h => ?_)
  · obtain ⟨i, rfl, _⟩ := h
    rfl
  · obtain ⟨i, rfl, h0, h1, q⟩ := h
    refine ⟨_, (pss_one (ps_if (pt_not (pt_trA Like.refl pas_main (pe_glA Like.refl pas_main (by rfl) (pa_cons (pv 0) (pa_cons (pe_gvI Like.refl (by rfl)) (pa_cons (pe_atA Like.refl pas_main (pe_gvA Like.refl (by rfl))) pa_nil)))))) (pss_one (ps_never)) pss_nil)), ?_⟩
    walk_at "go"
    refine w_gvI T.i_MIN_SEAT_COUNT.choose_spec ?_
    walk_at "go"
    refine s_cval T.cr_Bill T.cv_Bill_MAX_SEATS.choose_spec ?_
    walk_at "go"
    refine s_btwT GB hr h0 (by omega) ?_
    walk_at "go"
    exact q
def spCkMark : Sp := fun vs H Q _ => ∃ i n : Int, vs = [.int i, .int n] ∧ 0 ≤ i ∧ i < n ∧ Q .non H
theorem ok_check_mark (T : Facts K mg a) : FnR P w K mg base (L2.CX P w) 2 a.f_check_mark spCkMark := by
  obtain ⟨fd, F⟩ := T.u_check_mark
  have GB : FnR P w K mg base (L2.CX P w) 1 a.f_is_between spBetween := ok_between T
  refine fnr_ok F sc_check_mark (F.binds fun _ _ _ _ _ _ us hl => match us, hl with | [_, _], _ => rfl) (fun vs H Q E h => ?_) (fun cdv A outer s H vs Q E hr h => ?_)
  · obtain ⟨i, n, rfl, _⟩ := h
    rfl
  · obtain ⟨i, n, rfl, h0, h1, q⟩ := h
    refine ⟨_, (pss_one (ps_if (pt_not (pt_trA Like.refl pas_main (pe_glA Like.refl pas_main (by rfl) (pa_cons (pv 0) (pa_cons (pe_int) (pa_cons (pe_opA Like.refl pas_main (pv 1) (pe_int)) pa_nil)))))) (pss_one (ps_raA rfl tk_main (by rfl))) pss_nil)), ?_⟩
    walk_at "go"
    refine s_btwT GB hr h0 (by omega) ?_
    walk_at "go"
    exact q
/-! getters -/
theorem look2 {k k1 : Str} {v v1 : V} (h : (k == k1) = false) : List.lookup k [(k1, v1), (k, v)] = some v := by simp [List.lookup, h]
theorem look_amount {i : Int} {t : Addr} : List.lookup ("_amount" : Str) [(("_amount" : Str), V.int i), ("_seats", V.ref t)] = some (.int i) := by simp [List.lookup]
theorem look_seats {i : Int} {t : Addr} : List.lookup ("_seats" : Str) [(("_amount" : Str), V.int i), ("_seats", V.ref t)] = some (.ref t) := look2 (by decide)
theorem look_count {i : Int} {t : Addr} : List.lookup ("_seat_count" : Str) [(("_seat_count" : Str), V.int i), ("_bills", V.ref t)] = some (.int i) := by simp [List.lookup]
theorem look_bills {i : Int} {t : Addr} : List.lookup ("_bills" : Str) [(("_seat_count" : Str), V.int i), ("_bills", V.ref t)] = some (.ref t) := look2 (by decide)
def spBiAmount (C : Addr) : Sp := fun vs H Q _ => ∃ p dx t i, vs = [.ref p] ∧ H p = some (.ins C dx [("_amount", .int i), ("_seats", .ref t)]) ∧ Q (.int i) H
theorem ok_bi_amount (T : Facts K mg a) : FnR P w K mg base (L2.CX P w) 1 a.f_Bill_amount (spBiAmount a.c_Bill) := by
  obtain ⟨fd, F⟩ := T.u_Bill_amount
  refine fnr_ok F sc_Bill_amount (F.binds fun _ _ _ _ _ _ us hl => match us, hl with | [_], _ => rfl) (fun vs H Q E h => ?_) (fun cdv A outer s H vs Q E hr h => ?_)
  · obtain ⟨p, dx, t, i, rfl, _⟩ := h
    rfl
  · obtain ⟨p, dx, t, i, rfl, hp, q⟩ := h
    refine ⟨_, (pss_one (ps_ret (pe_atA Like.refl pas_main (pv 0)))), ?_⟩
    walk_at "go"
    exact s_fld hp T.cl_Bill T.na_Bill_amount look_amount q
def spBiSeats (C : Addr) : Sp := fun vs H Q _ => ∃ p dx t i, vs = [.ref p] ∧ H p = some (.ins C dx [("_amount", .int i), ("_seats", .ref t)]) ∧ Q (.ref t) H
theorem ok_bi_seats (T : Facts K mg a) : FnR P w K mg base (L2.CX P w) 1 a.f_Bill_seats (spBiSeats a.c_Bill) := by
  obtain ⟨fd, F⟩ := T.u_Bill_seats
  refine fnr_ok F sc_Bill_seats (F.binds fun _ _ _ _ _ _ us hl => match us, hl with | [_], _ => rfl) (fun vs H Q E h => ?_) (fun cdv A outer s H vs Q E hr h => ?_)
  · obtain ⟨p, dx, t, i, rfl, _⟩ := h
    rfl
  · obtain ⟨p, dx, t, i, rfl, hp, q⟩ := h
    refine ⟨_, (pss_one (ps_ret (pe_atA Like.refl pas_main (pv 0)))), ?_⟩
    walk_at "go"
    exact s_fld hp T.cl_Bill T.na_Bill_seats look_seats q
def spBiOdd (C : Addr) : Sp := fun vs H Q _ => ∃ p b, vs = [.ref p] ∧ BiAt C H p b ∧ b.2 ≠ [] ∧ Q (.int (b.1 % (b.2.length : Nat))) H
theorem ok_bi_odd (T : Facts K mg a) : FnR P w K mg base (L2.CX P w) 1 a.f_Bill_odd_cents (spBiOdd a.c_Bill) := by
  obtain ⟨fd, F⟩ := T.u_Bill_odd_cents
  refine fnr_ok F sc_Bill_odd_cents (F.binds fun _ _ _ _ _ _ us hl => match us, hl with | [_], _ => rfl) (fun vs H Q E h => ?_) (fun cdv A outer s H vs Q E hr h => ?_)
  · obtain ⟨p, b, rfl, _⟩ := h
    rfl
  · obtain ⟨p, b, rfl, ⟨dx, t, hp, ht⟩, hne, q⟩ := h
    refine ⟨_, (pss_one (ps_ret (pe_opA Like.refl pas_main (pe_atA Like.refl pas_main (pv 0)) (pe_biA (id := "len") Like.refl pas_main (by rfl) (by decide +kernel) (pa_cons (pe_atA Like.refl pas_main (pv 0)) pa_nil))))), ?_⟩
    walk_at "go"
    refine s_fld hp T.cl_Bill T.na_Bill_amount look_amount ?_
    walk_at "go"
    refine s_fld hp T.cl_Bill T.na_Bill_seats look_seats ?_
    walk_at "go"
    refine s_lenT (SqT.of ht) ?_
    rw [List.length_map]
    have := List.length_pos_iff.2 hne
    walk_at "go"
    exact q
def spEvCount (C : Addr) : Sp := fun vs H Q _ => ∃ p dx t i, vs = [.ref p] ∧ H p = some (.ins C dx [("_seat_count", .int i), ("_bills", .ref t)]) ∧ Q (.int i) H
theorem ok_ev_count (T : Facts K mg a) : FnR P w K mg base (L2.CX P w) 1 a.f_Evening_seat_count (spEvCount a.c_Evening) := by
  obtain ⟨fd, F⟩ := T.u_Evening_seat_count
  refine fnr_ok F sc_Evening_seat_count (F.binds fun _ _ _ _ _ _ us hl => match us, hl with | [_], _ => rfl) (fun vs H Q E h => ?_) (fun cdv A outer s H vs Q E hr h => ?_)
  · obtain ⟨p, dx, t, i, rfl, _⟩ := h
    rfl
  · obtain ⟨p, dx, t, i, rfl, hp, q⟩ := h
    refine ⟨_, (pss_one (ps_ret (pe_atA Like.refl pas_main (pv 0)))), ?_⟩
    walk_at "go"
    exact s_fld hp T.cl_Evening T.na_Evening_seat_count look_count q
def spEvBills (C : Addr) : Sp := fun vs H Q _ => ∃ p dx t i, vs = [.ref p] ∧ H p = some (.ins C dx [("_seat_count", .int i), ("_bills", .ref t)]) ∧ Q (.ref t) H
theorem ok_ev_bills (T : Facts K mg a) : FnR P w K mg base (L2.CX P w) 1 a.f_Evening_bills (spEvBills a.c_Evening) := by
  obtain ⟨fd, F⟩ := T.u_Evening_bills
  refine fnr_ok F sc_Evening_bills (F.binds fun _ _ _ _ _ _ us hl => match us, hl with | [_], _ => rfl) (fun vs H Q E h => ?_) (fun cdv A outer s H vs Q E hr h => ?_)
  · obtain ⟨p, dx, t, i, rfl, _⟩ := h
    rfl
  · obtain ⟨p, dx, t, i, rfl, hp, q⟩ := h
    refine ⟨_, (pss_one (ps_ret (pe_atA Like.refl pas_main (pv 0)))), ?_⟩
    walk_at "go"
    exact s_fld hp T.cl_Evening T.na_Evening_bills look_bills q
end

/-! ### making bills and evenings, splitting -/
section
variable {P : Program} {w : World} {K : PySem.W.Frag} {mg : Str → Option Value} {base : Heap} {a : Ad}
theorem put2 {k k1 : Str} {v v1 : V} (h : k1 ≠ k) : putF k v [(k1, v1)] = [(k1, v1), (k, v)] := by
  show (if k1 = k then _ else _) = _
  rw [if_neg h]
  rfl
def spBiInit (C : Addr) : Sp := fun vs H Q _ => ∃ x t dx i ss, vs = [.ref x, .int i, .ref t] ∧ H x = some (.ins C dx []) ∧ H t = some (.tup (ss.map V.int)) ∧ OkBill (i, ss) ∧
  ∀ H', Same H H' → Q .non (upd H' x (.ins C dx [("_amount", .int i), ("_seats", .ref t)]))
abbrev InitB (C : Addr) : Sp := fun vs H Q E => ∃ ws rest, vs = ws ++ rest ∧ ws.length = ["self", "amount"].length ∧ rest.length ≤ sizeLine ∧ ∀ p, H p = Option.none → spBiInit C (ws ++ [V.ref p]) (upd H p (.tup rest)) Q E
theorem ok_bi_init (T : Facts K mg a) : FnR P w K mg base (L2.CX P w) 3 a.f_Bill__init_ (InitB a.c_Bill) := by
  obtain ⟨fd, F⟩ := T.u_Bill__init_
  have GA : FnR P w K mg base (L2.CX P w) 2 a.f_check_amount spCkAmount := ok_check_amount T
  have GS : FnR P w K mg base (L2.CX P w) 2 a.f_check_seats (spCkSeats K) := ok_check_seats T
  refine fnr_star2 (p1 := "self") (p2 := "amount") (pv := "seats") F sc_Bill__init_ (fun _ _ _ _ _ _ _ _ => rfl) (fun _ _ _ _ _ _ _ _ _ _ => rfl) (fun cdv A outer s H vs Q E hr h => ?_)
  obtain ⟨x, t, dx, i, ss, rfl, hx, ht, ⟨o1, o2, o3, o4⟩, q⟩ := h
  refine ⟨_, (pss_cons (ps_expr (pe_glA Like.refl pas_main (by rfl) (pa_cons (pv 1) pa_nil)))
    (pss_cons (ps_expr (pe_glA Like.refl pas_main (by rfl) (pa_cons (pv 2) pa_nil)))
    (pss_cons (ps_fld (pv 0) (pv 1) rfl)
    (pss_one (ps_fld (pv 0) (pv 2) rfl))))), ?_⟩
  walk_at "go"
  refine s_fn GA hr ⟨i, rfl, o1, o2, ?_⟩
  walk_at "go"
  refine s_fn GS hr ⟨t, ss, rfl, SqT.of ht, o3, o4, fun H' s1 => ?_⟩
  walk_at "go"
  with_reducible refine' w_fld ?_
  walk_at "go"
  refine ⟨x, a.c_Bill, dx, [], rfl, s1 _ _ hx, T.cl_Bill, T.na_Bill_amount, by decide, ?_⟩
  with_reducible refine' w_fld ?_
  walk_at "go"
  refine ⟨x, a.c_Bill, dx, _, rfl, upd_same, T.cl_Bill, T.na_Bill_seats, by show 1 < 1000; decide, ?_⟩
  have e : putF "_seats" (V.ref t) [(("_amount" : Str), V.int i)] = [(("_amount" : Str), V.int i), ("_seats", V.ref t)] := put2 (by decide)
  show Q .non (upd (upd H' x (.ins a.c_Bill dx [("_amount", V.int i)])) x (.ins a.c_Bill dx (putF "_seats" (V.ref t) [(("_amount" : Str), V.int i)])))
  rw [e, upd_upd]
  exact q H' s1
/-- Bill(i, *ss) -/
theorem s_bill {X0 : Cx} {E : XK} {H : Hp} {Q : VK} {i : Int} {ss : List Int} (T : Facts X0.K X0.mg a) (F : Fn X0 3 a.f_Bill__init_ (InitB a.c_Bill)) (hr : Room 4 X0.A) (ok : OkBill (i, ss)) (hl : ss.length ≤ 100000)
    (q : ∀ p H', H p = none → Same H H' → BiAt a.c_Bill H' p (i, ss) → Q (.ref p) H') : ∃ r, CaD X0 E (.ref a.c_Bill) r ∧ r (.int i :: ss.map V.int) H Q := by
  refine s_mk T.mk_Bill F hr fun x dx hx hdx hne => ⟨[.ref x, .int i], ss.map V.int, rfl, rfl, by rw [List.length_map]; exact sz5 hl, fun t ht => ?_⟩
  have n1 : t ≠ x := fun z => by subst z; rw [upd_same] at ht; cases ht
  have n2 : t ≠ dx := fun z => by subst z; rw [upd_ne hne, upd_same] at ht; cases ht
  have ht0 := ht
  rw [upd_ne n1, upd_ne n2] at ht
  refine ⟨x, t, dx, i, ss, rfl, ?_, upd_same, ok, fun H' s1 => ⟨rfl, ?_⟩⟩
  · rw [upd_ne n1.symm, upd_same]
  · refine q x _ hx (fun b o e => ?_) ⟨dx, t, upd_same, ?_⟩
    · have nb : b ≠ x := ne_of_none e hx
      rw [upd_ne nb]
      exact s1 _ _ (by rw [upd_ne (ne_of_none e ht), upd_ne nb, upd_ne (ne_of_none e hdx)]; exact e)
    · rw [upd_ne n1]
      exact s1 _ _ upd_same
/-- an evening that is none of the wrong ones -/
def OkEv (n : Nat) (bs : List (Int × List Int)) : Prop := 2 ≤ n ∧ n ≤ 8 ∧ bs.length ≤ 30 ∧ ∀ b ∈ bs, OkBill b ∧ ∀ s ∈ b.2, s < (n : Int)
def spCkBills (K : PySem.W.Frag) (C : Addr) : Sp := fun vs H Q _ => ∃ (n : Nat) (t : Addr) (ps : List Addr) (bs : List (Int × List Int)), vs = [.int n, .ref t] ∧ SqT K H t (ps.map V.ref) ∧ BisAt C H ps bs ∧ OkEv n bs ∧ ∀ H', Same H H' → Q .non H'
theorem ok_check_bills (T : Facts K mg a) : FnR P w K mg base (L2.CX P w) 3 a.f_check_bills (spCkBills K a.c_Bill) := by
  obtain ⟨fd, F⟩ := T.u_check_bills
  have GS : FnR P w K mg base (L2.CX P w) 1 a.f_Bill_seats (spBiSeats a.c_Bill) := ok_bi_seats T
  refine fnr_ok F sc_check_bills (F.binds fun _ _ _ _ _ _ us hl => match us, hl with | [_, _], _ => rfl) (fun vs H Q E h => ?_) (fun cdv A outer s H vs Q E hr h => ?_)
  · obtain ⟨n, t, ps, bs, rfl, _⟩ := h
    rfl
  · obtain ⟨n, t, ps, bs, rfl, ht, hb, ⟨o1, o2, o3, o4⟩, q⟩ := h
    refine ⟨_, (pss_cons (ps_for own_main rfl (pi_enumA (by rfl) T.z_enumerate (pa_cons (pv 1) pa_nil)) (pg_tup rfl (pgs_cons (pg_name (i := 2) sc_check_bills.nd rfl (Or.inl rfl)) (pgs_cons (pg_name (i := 3) sc_check_bills.nd rfl (Or.inl rfl)) pgs_nil))) (pss_one (ps_if (pt_cmpA Like.refl pas_main (pe_ixA Like.refl pas_main (pe_atA Like.refl pas_main (pv 3)) (pe_unA Like.refl pas_main (pe_int))) (pv 0) (nomark _)) (pss_one (ps_never)) pss_nil)))
    (pss_one (ps_if (pt_cmpA Like.refl pas_main (pe_biA (id := "len") Like.refl pas_main (by rfl) (by decide +kernel) (pa_cons (pv 1) pa_nil)) (pe_atA Like.refl pas_main (pe_gvA Like.refl (by rfl))) (nomark _)) (pss_one (ps_never)) pss_nil))), ?_⟩
    walk_at "go"
    refine f_enumT (xs := ps.map V.ref) (a := t) (fun k σ H' => Same H H' ∧ ∃ (x y : Option V), σ = [some (.int n), some (.ref t), x, y]) (fun R k => ?_) ⟨Same.refl _, none, none, rfl⟩ (fun k σ H' _ p => same_t p.1 ht) (fun k x σ H' T2 hx p hT => ?_) (fun σ H' p => ?_)
    · walk_at "go"
      exact k
    · obtain ⟨s1, u, v, rfl⟩ := p
      rw [List.getElem?_map] at hx
      cases e : ps[k]? with
      | none => rw [e] at hx; cases hx
      | some z =>
        rw [e] at hx
        cases hx
        obtain ⟨hk, ez⟩ := List.getElem?_eq_some_iff.1 e
        have hk2 : k < bs.length := by rw [← hb.1]; exact hk
        obtain ⟨dx, t2, h1, h2⟩ := hb.2 k z _ e (List.getElem?_eq_getElem hk2)
        obtain ⟨⟨c1, c2, c3, c4⟩, c5⟩ := o4 _ (List.getElem_mem hk2)
        have s2 : Same H (upd H' T2 (.tup [.int (k : Nat), .ref z])) := s1.trans (same_new hT)
        have hne : (bs[k].2.map V.int) ≠ [] := fun z => c4 (List.map_eq_nil_iff.1 z)
        have hlast := c5 _ (List.getLast_mem c4)
        walk_at "go"
        refine s_prop T.cl_Bill T.pr_Bill_seats GS hr (s2 _ _ h1) ⟨z, dx, t2, _, rfl, s2 _ _ h1, ?_⟩
        walk_at "go"
        refine s_ixT (SqT.of (s2 _ _ h2)) (v := .int (bs[k].2.getLast c4)) (by rw [at_last _ hne, List.getLast_map]) ?_
        walk_at "go"
        rw [decide_eq_false (show ¬ (n : Int) ≤ bs[k].2.getLast c4 by omega)]
        walk_at "go"
        exact ⟨s2, _, _, rfl⟩
    · obtain ⟨s1, u, v, rfl⟩ := p
      walk_at "go"
      refine s_lenT (same_t s1 ht) ?_
      walk_at "go"
      refine s_cval T.cr_Evening T.cv_Evening_MAX_BILLS.choose_spec ?_
      rw [List.length_map]
      have := hb.1
      walk_at "go"
      rw [decide_eq_false (show ¬ (30 : Int) < (ps.length : Nat) by omega)]
      walk_at "go"
      exact q _ s1
def spEvInit (CE CB : Addr) : Sp := fun vs H Q _ => ∃ (x t dx : Addr) (n : Nat) (ps : List Addr) (bs : List (Int × List Int)), vs = [.ref x, .int n, .ref t] ∧ H x = some (.ins CE dx []) ∧ H t = some (.tup (ps.map V.ref)) ∧ BisAt CB H ps bs ∧ OkEv n bs ∧
  ∀ H', Same H H' → Q .non (upd H' x (.ins CE dx [("_seat_count", .int n), ("_bills", .ref t)]))
abbrev InitE (CE CB : Addr) : Sp := fun vs H Q E => ∃ ws rest, vs = ws ++ rest ∧ ws.length = ["self", "seat_count"].length ∧ rest.length ≤ sizeLine ∧ ∀ p, H p = Option.none → spEvInit CE CB (ws ++ [V.ref p]) (upd H p (.tup rest)) Q E
theorem ok_ev_init (T : Facts K mg a) : FnR P w K mg base (L2.CX P w) 4 a.f_Evening__init_ (InitE a.c_Evening a.c_Bill) := by
  obtain ⟨fd, F⟩ := T.u_Evening__init_
  have GA : FnR P w K mg base (L2.CX P w) 2 a.f_check_seat_count spCkCount := ok_check_seat_count T
  have GS : FnR P w K mg base (L2.CX P w) 3 a.f_check_bills (spCkBills K a.c_Bill) := ok_check_bills T
  refine fnr_star2 (p1 := "self") (p2 := "seat_count") (pv := "bills") F sc_Evening__init_ (fun _ _ _ _ _ _ _ _ => rfl) (fun _ _ _ _ _ _ _ _ _ _ => rfl) (fun cdv A outer s H vs Q E hr h => ?_)
  obtain ⟨x, t, dx, n, ps, bs, rfl, hx, ht, hb, ok, q⟩ := h
  refine ⟨_, (pss_cons (ps_expr (pe_glA Like.refl pas_main (by rfl) (pa_cons (pv 1) pa_nil)))
    (pss_cons (ps_expr (pe_glA Like.refl pas_main (by rfl) (pa_cons (pv 1) (pa_cons (pv 2) pa_nil))))
    (pss_cons (ps_fld (pv 0) (pv 1) rfl)
    (pss_one (ps_fld (pv 0) (pv 2) rfl))))), ?_⟩
  walk_at "go"
  refine s_fn GA (hr.mono (by decide)) ⟨n, rfl, by have := ok.1; omega, by have := ok.2.1; omega, ?_⟩
  walk_at "go"
  refine s_fn GS hr ⟨n, t, ps, bs, rfl, SqT.of ht, hb, ok, fun H' s1 => ?_⟩
  walk_at "go"
  with_reducible refine' w_fld ?_
  walk_at "go"
  refine ⟨x, a.c_Evening, dx, [], rfl, s1 _ _ hx, T.cl_Evening, T.na_Evening_seat_count, by decide, ?_⟩
  with_reducible refine' w_fld ?_
  walk_at "go"
  refine ⟨x, a.c_Evening, dx, _, rfl, upd_same, T.cl_Evening, T.na_Evening_bills, by show 1 < 1000; decide, ?_⟩
  have e : putF "_bills" (V.ref t) [(("_seat_count" : Str), V.int (n : Nat))] = [(("_seat_count" : Str), V.int (n : Nat)), ("_bills", V.ref t)] := put2 (by decide)
  show Q .non (upd (upd H' x (.ins a.c_Evening dx [("_seat_count", V.int (n : Nat))])) x (.ins a.c_Evening dx (putF "_bills" (V.ref t) [(("_seat_count" : Str), V.int (n : Nat))])))
  rw [e, upd_upd]
  exact q H' s1
/-- Evening(n, *bills) -/
theorem s_evening {X0 : Cx} {E : XK} {H : Hp} {Q : VK} {n : Nat} {ps : List Addr} {bs : List (Int × List Int)} (T : Facts X0.K X0.mg a) (F : Fn X0 4 a.f_Evening__init_ (InitE a.c_Evening a.c_Bill)) (hr : Room 5 X0.A) (hb : BisAt a.c_Bill H ps bs) (ok : OkEv n bs)
    (q : ∀ p H', H p = none → Same H H' → EvAt a.c_Evening a.c_Bill H' p n bs → Q (.ref p) H') : ∃ r, CaD X0 E (.ref a.c_Evening) r ∧ r (.int (n : Nat) :: ps.map V.ref) H Q := by
  have hps : ps.length ≤ 100000 := by have := ok.2.2.1; rw [hb.1]; omega
  refine s_mk T.mk_Evening F hr fun x dx hx hdx hne => ⟨[.ref x, .int n], ps.map V.ref, rfl, rfl, by rw [List.length_map]; exact sz5 hps, fun t ht => ?_⟩
  have n1 : t ≠ x := fun z => by subst z; rw [upd_same] at ht; cases ht
  have n2 : t ≠ dx := fun z => by subst z; rw [upd_ne hne, upd_same] at ht; cases ht
  rw [upd_ne n1, upd_ne n2] at ht
  have s0 : Same H (upd (upd (upd H dx (.own x)) x (.ins a.c_Evening dx [])) t (.tup (ps.map V.ref))) := fun b o e => by
    rw [upd_ne (ne_of_none e ht), upd_ne (ne_of_none e hx), upd_ne (ne_of_none e hdx)]
    exact e
  refine ⟨x, t, dx, n, ps, bs, rfl, ?_, upd_same, hb.same s0, ok, fun H' s1 => ⟨rfl, ?_⟩⟩
  · rw [upd_ne n1.symm, upd_same]
  · have s2 : Same H (upd H' x (.ins a.c_Evening dx [("_seat_count", .int n), ("_bills", .ref t)])) := fun b o e => by
      rw [upd_ne (ne_of_none e hx)]
      exact s1 _ _ (s0 _ _ e)
    exact q x _ hx s2 ⟨dx, t, ps, upd_same, by rw [upd_ne n1]; exact s1 _ _ upd_same, hb.same s2⟩
/-! the seats behind a mark -/
def behind (m : Int) (ss : List Int) : List Int := ss.filter (fun s => decide (m < s)) ++ ss.filter (fun s => decide (s ≤ m))
def spBehind (K : PySem.W.Frag) : Sp := fun vs H Q _ => ∃ m t ss, vs = [.int m, .ref t] ∧ SqT K H t (ss.map V.int) ∧ ss.length ≤ 1000 ∧ ∀ r H', H r = none → Same H H' → H' r = some (.lst ((behind m ss).map V.int)) → Q (.ref r) H'
theorem filt_step {f : Int → Bool} {ss : List Int} {k : Nat} {z : Int} (e : ss[k]? = some z) : ((ss.take (k + 1)).filter f).map V.int = if f z = true then ((ss.take k).filter f).map V.int ++ [V.int z] else ((ss.take k).filter f).map V.int := by
  rw [List.take_add_one, e, List.filter_append, List.map_append]
  simp only [Option.toList, List.filter_cons, List.filter_nil]
  split <;> simp
theorem ok_seats_behind (T : Facts K mg a) : FnR P w K mg base (L2.CX P w) 1 a.f_seats_behind (spBehind K) := by
  obtain ⟨fd, F⟩ := T.u_seats_behind
  refine fnr_ok F sc_seats_behind (F.binds fun _ _ _ _ _ _ us hl => match us, hl with | [_, _], _ => rfl) (fun vs H Q E h => ?_) (fun cdv A outer s H vs Q E hr h => ?_)
  · obtain ⟨m, t, ss, rfl, _⟩ := h
    rfl
  · obtain ⟨m, t, ss, rfl, ht, hl, q⟩ := h
    have hz : ∀ (f : Int → Bool) k, (((ss.take k).filter f).map V.int).length < 100000 := fun f k => by
      rw [List.length_map]
      have h1 := List.length_filter_le f (ss.take k)
      rw [List.length_take] at h1
      omega
    refine ⟨_, (pss_one (ps_ret (pe_opA Like.refl pas_main (pe_lc (own := [("seat", 2)]) (g := gName 2) (tt := _) rfl sc_seats_behind.nd (pi_seqA Like.refl (pv 1)) (blkOk_by (own := [("seat", 2)]) (N := N_seats_behind) (sc := defScope s_seats_behind) (by decide +kernel)) (fun _ _ _ _ _ => (pg_name (i := 2) sc_seats_behind.nd rfl (by first | exact Or.inl rfl | exact Or.inr rfl))) (fun _ _ _ _ _ => pts_one (pt_cmpA ⟨rfl, rfl, rfl, rfl, rfl, rfl, rfl⟩ passL (pv 2) (pv 0) (nomark _))) (fun _ _ _ _ _ => (pv 2))) (pe_lc (own := [("seat", 2)]) (g := gName 2) (tt := _) rfl sc_seats_behind.nd (pi_seqA Like.refl (pv 1)) (blkOk_by (own := [("seat", 2)]) (N := N_seats_behind) (sc := defScope s_seats_behind) (by decide +kernel)) (fun _ _ _ _ _ => (pg_name (i := 2) sc_seats_behind.nd rfl (by first | exact Or.inl rfl | exact Or.inr rfl))) (fun _ _ _ _ _ => pts_one (pt_cmpA ⟨rfl, rfl, rfl, rfl, rfl, rfl, rfl⟩ passL (pv 2) (pv 0) (nomark _))) (fun _ _ _ _ _ => (pv 2)))))), ?_⟩
    refine w_ret (w_op ?_)
    refine c_tup (a := t) (xs := ss.map V.int) (fun k => ((ss.take k).filter fun s => decide (m < s)).map V.int) rfl (fun k _ => hz _ k) ht (fun _ => rfl) (fun k x H' hx s1 => ?_) (fun r H' hr0 s1 hL => ?_) (fun R k => ?_)
    · rw [List.getElem?_map] at hx
      cases e : ss[k]? with
      | none => rw [e] at hx; cases hx
      | some z =>
        rw [e] at hx
        cases hx
        show Turn1 _ _ _ _ (((ss.take k).filter fun s => decide (m < s)).map V.int) (((ss.take (k + 1)).filter fun s => decide (m < s)).map V.int)
        rw [filt_step e]
        refine turn1_filter (fun R hR => ?_) (fun _ H3 _ R hR => ?_)
        · walk_at "go"
          exact hR _ (Same.refl _)
        · walk_at "go"
          exact hR _ (Same.refl _)
    · rw [List.length_map, List.take_of_length_le (Nat.le_refl _)] at hL
      refine c_tup (a := t) (xs := ss.map V.int) (fun k => ((ss.take k).filter fun s => decide (s ≤ m)).map V.int) rfl (fun k _ => hz _ k) (same_t s1 ht) (fun _ => rfl) (fun k x H2 hx s2 => ?_) (fun r2 H2 hr2 s2 hL2 => ?_) (fun R k => ?_)
      · rw [List.getElem?_map] at hx
        cases e : ss[k]? with
        | none => rw [e] at hx; cases hx
        | some z =>
          rw [e] at hx
          cases hx
          show Turn1 _ _ _ _ (((ss.take k).filter fun s => decide (s ≤ m)).map V.int) (((ss.take (k + 1)).filter fun s => decide (s ≤ m)).map V.int)
          rw [filt_step e]
          refine turn1_filter (fun R hR => ?_) (fun _ H3 _ R hR => ?_)
          · walk_at "go"
            exact hR _ (Same.refl _)
          · walk_at "go"
            exact hR _ (Same.refl _)
      · rw [List.length_map, List.take_of_length_le (Nat.le_refl _)] at hL2
        have l1 := List.length_filter_le (fun s => decide (m < s)) ss
        have l2 := List.length_filter_le (fun s => decide (s ≤ m)) ss
        refine s_cat (s2 _ _ hL) hL2 (by rw [List.length_map, List.length_map]; exact sz5 (by omega)) fun p hp => ?_
        refine q p _ (s1.free (s2.free hp)) ((s1.trans s2).trans (same_new hp)) ?_
        rw [upd_same, ← List.map_append]
        rfl
      · walk_at "go"
        exact k
    · walk_at "go"
      exact k
def spNoShares (C : Addr) : Sp := fun vs H Q _ => ∃ n : Nat, vs = [.int n] ∧ n ≤ 1000 ∧ ∀ r H', H r = none → Same H H' → ShAt C H' r (List.replicate n 0) → Q (.ref r) H'
theorem ok_no_shares (T : Facts K mg a) : FnR P w K mg base (L2.CX P w) 3 a.f_no_shares (spNoShares a.c_Shares) := by
  obtain ⟨fd, F⟩ := T.u_no_shares
  have GI : FnR P w K mg base (L2.CX P w) 1 a.f_Shares__init_ (InitSp a.c_Shares) := ok_sh_init T
  refine fnr_ok F sc_no_shares (F.binds fun _ _ _ _ _ _ us hl => match us, hl with | [_], _ => rfl) (fun vs H Q E h => ?_) (fun cdv A outer s H vs Q E hr h => ?_)
  · obtain ⟨n, rfl, _⟩ := h
    rfl
  · obtain ⟨n, rfl, hn, q⟩ := h
    refine ⟨_, (pss_cons (ps_set (i := 1) sc_no_shares.nd rfl (Or.inl rfl) (pe_opA Like.refl pas_main (pe_lst (pa_cons (pe_int) pa_nil)) (pv 0)))
    (pss_one (ps_ret (pe_glS Like.refl pas_main (by rfl) (pv 1))))), ?_⟩
    walk_at "go"
    refine ⟨by show 1 ≤ sizeLine; decide, fun c hc => ?_⟩
    walk_at "go"
    refine s_rep upd_same (by omega) (by omega) (sz5 (by simp; omega)) fun d hd => ?_
    walk_at "go"
    refine ⟨d, (List.replicate n 0).map V.int, rfl, .inr (SqL.of (by rw [upd_same, flat1, List.map_replicate, Int.toNat_natCast])), ?_⟩
    have s1 := same_new (o := .lst [.int 0]) hc
    have s2 := same_new (o := .lst (List.replicate (n : Int).toNat [V.int 0]).flatten) hd
    exact s_shares T GI hr (by rw [List.length_replicate]; omega) fun p' H2 hp' s3 sh => q p' H2 (s1.free (s2.free hp')) ((s1.trans s2).trans s3) sh
end

/-! ### splitting a bill, an evening -/
section
variable {P : Program} {w : World} {K : PySem.W.Frag} {mg : Str → Option Value} {base : Heap} {a : Ad}
/-- q for each seat of ss, 0 for others -/
def baseC (n : Nat) (q : Int) (ss : List Int) : List Int := ss.foldl (fun c s => c.set s.toNat q) (List.replicate n 0)
/-- one more for each of ps -/
def bumps (c ps : List Int) : List Int := ps.foldl (fun c s => c.set s.toNat (c.getD s.toNat 0 + 1)) c
theorem foldl_len {α β : Type} {f : List α → β → List α} (h : ∀ c s, (f c s).length = c.length) : ∀ (l : List β) (c : List α), (l.foldl f c).length = c.length
  | [], _ => rfl
  | s :: l, c => by rw [List.foldl_cons, foldl_len h l, h]
theorem baseC_len (n : Nat) (q : Int) (ss : List Int) : (baseC n q ss).length = n := by
  unfold baseC
  rw [foldl_len (fun c s => List.length_set), List.length_replicate]
theorem bumps_len (c ps : List Int) : (bumps c ps).length = c.length := foldl_len (fun c s => List.length_set) ps c
theorem baseC_snoc (n : Nat) (q : Int) (l : List Int) (z : Int) : baseC n q (l ++ [z]) = (baseC n q l).set z.toNat q := by
  unfold baseC
  rw [List.foldl_append, List.foldl_cons, List.foldl_nil]
theorem bumps_snoc (c l : List Int) (z : Int) : bumps c (l ++ [z]) = (bumps c l).set z.toNat ((bumps c l).getD z.toNat 0 + 1) := by
  unfold bumps
  rw [List.foldl_append, List.foldl_cons, List.foldl_nil]
/-- who pays the odd cents -/
def payers (m : Int) (b : Int × List Int) : List Int := (behind m b.2).take (b.1 % (b.2.length : Nat)).toNat
def splitC (n : Nat) (m : Int) (b : Int × List Int) : List Int := bumps (baseC n (b.1 / (b.2.length : Nat)) b.2) (payers m b)
def splitM (m : Int) (b : Int × List Int) : Int := (payers m b).getLastD m
theorem splitC_len (n : Nat) (m : Int) (b : Int × List Int) : (splitC n m b).length = n := by
  unfold splitC
  rw [bumps_len, baseC_len]
theorem cutV_to (xs : List V) {i : Int} (h : 0 ≤ i) : cutV xs none (some i) = xs.take i.toNat := by
  have e : HT.sIx xs.length xs.length (some i) = min i.toNat xs.length := by
    show (if i < 0 then _ else _) = _
    rw [if_neg (by omega)]
  unfold cutV
  rw [e]
  show (xs.drop 0).take (min i.toNat xs.length - 0) = _
  rw [List.drop_zero, Nat.sub_zero, ← List.take_eq_take_min]
theorem s_iadd {X0 : Cx} {E : XK} {H : Hp} {Q : VK} {i j : Int} (q : Q (.int (i + j)) H) : ∃ r, OpD X0 E (inplaceOp .Add) r ∧ r (.int i) (.int j) H Q :=
  ⟨_, fun X _ _ pins s σ H x y v u Q I rx ry h => ip_add pins s σ H x y v u Q I rx ry h, i, j, rfl, rfl, q⟩
theorem w_slt {r : V → Option Int → Option Int → Hp → VK → Prop} {te tu : TE} {σ : L2.St} {H : Hp} {Q : VK} (h : te σ H fun x H1 => tu σ H1 fun y H2 => ∃ i, y = .int i ∧ r x none (some i) H2 Q) : tSl r te tNoPart (tPart tu) σ H Q := h
def spSplit (CB CS : Addr) : Sp := fun vs H Q _ => ∃ (p : Addr) (m : Int) (n : Nat) (b : Int × List Int), vs = [.ref p, .int m, .int n] ∧ BiAt CB H p b ∧ OkBill b ∧ n ≤ 8 ∧ (∀ s ∈ b.2, s < (n : Int)) ∧
  ∀ T r H', H T = none → Same H H' → H' T = some (.tup [.ref r, .int (splitM m b)]) → ShAt CS H' r (splitC n m b) → Q (.ref T) H'
theorem asc_ge : ∀ {ss : List Int} {lo : Int}, asc lo ss = true → ∀ s ∈ ss, lo ≤ s ∧ s ≤ 7
  | [], _, _, s, h => by simp at h
  | x :: ss, lo, h, s, hs => by
    simp only [asc, Bool.and_eq_true, decide_eq_true_eq] at h
    rcases List.mem_cons.1 hs with e | e
    · rw [e]; exact ⟨h.1.1, h.1.2⟩
    · have := asc_ge h.2 s e
      omega
theorem ixN_of {n : Nat} {i : Int} (h0 : 0 ≤ i) (h1 : i < (n : Int)) : ixN n i = some i.toNat := by
  unfold ixN
  rw [if_pos h0, if_pos h1]
theorem asc_len : ∀ {ss : List Int} {lo : Int}, asc lo ss = true → 0 ≤ lo → (ss.length : Int) ≤ 8 - lo ∨ ss = []
  | [], _, _, _ => .inr rfl
  | x :: ss, lo, h, h0 => by
    simp only [asc, Bool.and_eq_true, decide_eq_true_eq] at h
    refine .inl ?_
    rcases asc_len h.2 (by omega) with e | e
    · rw [List.length_cons]; omega
    · subst e; show (((0 : Nat) + 1 : Nat) : Int) ≤ _; omega
theorem ok_len {b : Int × List Int} (h : OkBill b) : b.2.length ≤ 8 := by
  rcases asc_len h.2.2.1 (Int.le_refl _) with e | e
  · omega
  · rw [e]; exact Nat.zero_le _
theorem ok_split (T : Facts K mg a) : FnR P w K mg base (L2.CX P w) 3 a.f_split_bill (spSplit a.c_Bill a.c_Shares) := by
  obtain ⟨fd, F⟩ := T.u_split_bill
  have GI : FnR P w K mg base (L2.CX P w) 1 a.f_Shares__init_ (InitSp a.c_Shares) := ok_sh_init T
  have GS : FnR P w K mg base (L2.CX P w) 1 a.f_Bill_seats (spBiSeats a.c_Bill) := ok_bi_seats T
  have GA : FnR P w K mg base (L2.CX P w) 1 a.f_Bill_amount (spBiAmount a.c_Bill) := ok_bi_amount T
  have GO : FnR P w K mg base (L2.CX P w) 1 a.f_Bill_odd_cents (spBiOdd a.c_Bill) := ok_bi_odd T
  have GB : FnR P w K mg base (L2.CX P w) 1 a.f_seats_behind (spBehind K) := ok_seats_behind T
  refine fnr_ok F sc_split_bill (F.binds fun _ _ _ _ _ _ us hl => match us, hl with | [_, _, _], _ => rfl) (fun vs H Q E h => ?_) (fun cdv A outer s H vs Q E hr h => ?_)
  · obtain ⟨p, m, n, b, rfl, _⟩ := h
    rfl
  · obtain ⟨p, m, n, b, rfl, hb, ok, hn, hs, q⟩ := h
    obtain ⟨dx, t, h1, h2⟩ := id hb
    have hl := ok_len ok
    have hpos := List.length_pos_iff.2 ok.2.2.2
    have hseat : ∀ s ∈ b.2, 0 ≤ s ∧ s < (n : Int) := fun s hm => ⟨(asc_ge ok.2.2.1 s hm).1, hs s hm⟩
    refine ⟨_, (pss_cons (ps_set (i := 3) sc_split_bill.nd rfl (Or.inl rfl) (pe_opA Like.refl pas_main (pe_lst (pa_cons (pe_int) pa_nil)) (pv 2)))
    (pss_cons (ps_for own_main rfl (pi_seqA Like.refl (pe_atA Like.refl pas_main (pv 0))) (pg_name (i := 4) sc_split_bill.nd rfl (Or.inl rfl)) (pss_one (ps_asg (pe_opA Like.refl pas_main (pe_atA Like.refl pas_main (pv 0)) (pe_biA (id := "len") Like.refl pas_main (by rfl) (by decide +kernel) (pa_cons (pe_atA Like.refl pas_main (pv 0)) pa_nil))) (pg_sub (pv 3) (pv 4) set_list))))
    (pss_cons (ps_for own_main rfl (pi_seqA Like.refl (pe_slice sl_list (pe_glA Like.refl pas_main (by rfl) (pa_cons (pv 1) (pa_cons (pe_atA Like.refl pas_main (pv 0)) pa_nil))) po_none (po_some (pe_atA Like.refl pas_main (pv 0))))) (pg_name (i := 4) sc_split_bill.nd rfl (Or.inl rfl)) (pss_cons (ps_agS Like.refl pas_main (pv 3) (pv 4) (pe_int))
    (pss_one (ps_set (i := 1) sc_split_bill.nd rfl (Or.inl rfl) (pv 4)))))
    (pss_one (ps_ret (pe_tup (pa_cons (pe_glS Like.refl pas_main (by rfl) (pv 3)) (pa_cons (pv 1) pa_nil)))))))), ?_⟩
    walk_at "go"
    refine ⟨by show 1 ≤ sizeLine; decide, fun c0 hc0 => ?_⟩
    walk_at "go"
    refine s_rep upd_same (by omega) (by omega) (sz5 (by simp; omega)) fun c hc => ?_
    rw [flat1, Int.toNat_natCast]
    have s1 := same_new (o := .lst [.int 0]) hc0
    have s2 := same_new (o := .lst (List.replicate n (V.int 0))) hc
    have hcH : H c = none := s1.free hc
    walk_at "go"
    refine f_tup (a := t) (xs := b.2.map V.int) (fun k σ H' => Same H H' ∧ H' c = some (.lst ((baseC n (b.1 / (b.2.length : Nat)) (b.2.take k)).map V.int)) ∧ ∃ x, σ = [some (.ref p), some (.int m), some (.int n), some (.ref c), x]) (fun R k => ?_)
      ⟨s1.trans s2, by rw [upd_same, List.take_zero]; show _ = some (HO.lst ((List.replicate n 0).map V.int)); rw [List.map_replicate], none, rfl⟩ (fun k σ H' _ p => same_t p.1 (SqT.of h2)) (fun k x σ H' hx pv => ?_) (fun σ H' pv => ?_)
    · walk_at "go"
      exact s_prop T.cl_Bill T.pr_Bill_seats GS (hr.mono (by decide)) ((s1.trans s2) _ _ h1) ⟨p, dx, t, _, rfl, (s1.trans s2) _ _ h1, k⟩
    · obtain ⟨s3, hcc, u, rfl⟩ := pv
      rw [List.getElem?_map] at hx
      cases e : b.2[k]? with
      | none => rw [e] at hx; cases hx
      | some z =>
        rw [e] at hx
        cases hx
        have hz := hseat z (List.mem_of_getElem? e)
        refine w_name ?_
        walk_at "go"
        refine s_prop T.cl_Bill T.pr_Bill_amount GA (hr.mono (by decide)) (s3 _ _ h1) ⟨p, dx, t, _, rfl, s3 _ _ h1, ?_⟩
        walk_at "go"
        refine s_prop T.cl_Bill T.pr_Bill_seats GS (hr.mono (by decide)) (s3 _ _ h1) ⟨p, dx, t, _, rfl, s3 _ _ h1, ?_⟩
        walk_at "go"
        refine s_lenT (SqT.of (s3 _ _ h2)) ?_
        rw [List.length_map]
        refine s_fdivW (wide_div (b := 40) (by omega) (by omega) (by decide) (by decide)) ?_
        refine w_gsub ?_
        walk_at "go"
        refine s_setL hcc (ixN_of hz.1 (by rw [List.length_map, baseC_len]; exact hz.2)) ?_
        walk_at "go"
        refine ⟨same_mut s3 hcH, ?_, _, rfl⟩
        rw [upd_same, List.take_add_one, e]
        show _ = some (HO.lst ((baseC n (b.1 / (b.2.length : Nat)) (b.2.take k ++ [z])).map V.int))
        rw [baseC_snoc, List.map_set]
    · obtain ⟨s3, hcc, u, rfl⟩ := pv
      rw [List.length_map, List.take_of_length_le (Nat.le_refl _)] at hcc
      walk_at "go"
      refine w_for (w_isq (w_slt ?_))
      walk_at "go"
      refine s_prop T.cl_Bill T.pr_Bill_seats GS (hr.mono (by decide)) (s3 _ _ h1) ⟨p, dx, t, _, rfl, s3 _ _ h1, ?_⟩
      walk_at "go"
      refine s_fn GB (hr.mono (by decide)) ⟨m, t, b.2, rfl, SqT.of (s3 _ _ h2), by omega, fun l H4 hl0 s4 hL => ?_⟩
      walk_at "go"
      refine s_prop T.cl_Bill T.pr_Bill_odd_cents GO (hr.mono (by decide)) ((s3.trans s4) _ _ h1) ⟨p, b, rfl, hb.same (s3.trans s4), ok.2.2.2, ?_⟩
      have hodd : 0 ≤ b.1 % (b.2.length : Nat) := Int.emod_nonneg _ (by omega)
      refine ⟨_, rfl, l, _, rfl, SqL.of hL, fun l2 hl2 => ?_⟩
      rw [cutV_to _ hodd, ← List.map_take]
      have s5 := same_new (o := .lst (((behind m b.2).take (b.1 % (b.2.length : Nat)).toNat).map V.int)) hl2
      have hl2c : l2 ≠ c := fun z => by
        rw [z, s4 _ _ hcc] at hl2
        cases hl2
      have hpay : ∀ s ∈ payers m b, 0 ≤ s ∧ s < (n : Int) := fun s hm => by
        have h3 := List.mem_of_mem_take hm
        rcases List.mem_append.1 h3 with h4 | h4
        · exact hseat s (List.mem_filter.1 h4).1
        · exact hseat s (List.mem_filter.1 h4).1
      refine ⟨l2, rfl, .inl ⟨⟨_, SqL.of upd_same⟩, for_list (xs := (payers m b).map V.int) (fun k σ H' => Same H H' ∧ H' l2 = some (.lst ((payers m b).map V.int)) ∧ H' c = some (.lst ((bumps (baseC n (b.1 / (b.2.length : Nat)) b.2) ((payers m b).take k)).map V.int)) ∧
        ∃ x, σ = [some (.ref p), some (.int (((payers m b).take k).getLastD m)), some (.int n), some (.ref c), x]) ⟨(s3.trans s4).trans s5, upd_same, by rw [upd_ne hl2c.symm]; exact s4 _ _ hcc, _, rfl⟩ (fun k σ H' _ pv => SqL.of pv.2.1) (fun k x σ H' hx pv => ?_) (fun σ H' pv => ?_)⟩⟩
      · obtain ⟨s6, hl6, hc6, v, rfl⟩ := pv
        rw [List.getElem?_map] at hx
        cases e : (payers m b)[k]? with
        | none => rw [e] at hx; cases hx
        | some z =>
          rw [e] at hx
          cases hx
          have hz := hpay z (List.mem_of_getElem? e)
          have hlen : (bumps (baseC n (b.1 / (b.2.length : Nat)) b.2) ((payers m b).take k)).length = n := by rw [bumps_len, baseC_len]
          have hz2 : z.toNat < (bumps (baseC n (b.1 / (b.2.length : Nat)) b.2) ((payers m b).take k)).length := by omega
          refine w_name ?_
          walk_at "go"
          refine w_agS (K := K) ?_
          walk_at "go"
          refine s_getL (SqL.of hc6) hz.1 (v := .int ((bumps (baseC n (b.1 / (b.2.length : Nat)) b.2) ((payers m b).take k)).getD z.toNat 0)) (by rw [List.getElem?_map, List.getD_eq_getElem?_getD, List.getElem?_eq_getElem hz2] <;> rfl) ?_
          walk_at "go"
          refine s_iadd ?_
          refine s_setL hc6 (ixN_of hz.1 (by rw [List.length_map, hlen]; exact hz.2)) ?_
          walk_at "go"
          refine ⟨same_mut s6 hcH, by rw [upd_ne hl2c]; exact hl6, ?_, some (.int z), ?_⟩
          · rw [upd_same, List.take_add_one, e]
            show _ = some (HO.lst ((bumps (baseC n (b.1 / (b.2.length : Nat)) b.2) ((payers m b).take k ++ [z])).map V.int))
            rw [bumps_snoc, List.map_set]
          · rw [List.take_add_one, e]
            show _ = [some (V.ref p), some (V.int (((payers m b).take k ++ [z]).getLastD m)), some (V.int (n : Nat)), some (V.ref c), some (V.int z)]
            rw [List.getLastD_concat]
            rfl
      · obtain ⟨s6, hl6, hc6, v, rfl⟩ := pv
        rw [List.length_map, List.take_of_length_le (Nat.le_refl _)] at hc6
        rw [List.length_map, List.take_of_length_le (Nat.le_refl _)]
        walk_at "go"
        refine ⟨c, (splitC n m b).map V.int, rfl, .inr (SqL.of hc6), ?_⟩
        refine s_shares T GI (hr.mono (by decide)) (by rw [splitC_len]; omega) fun r H7 hr7 s7 sh => ?_
        walk_at "go"
        refine ⟨by show 2 ≤ sizeLine; decide, fun T2 hT2 => ?_⟩
        exact q T2 r _ (s6.free (s7.free hT2)) ((s6.trans s7).trans (same_new hT2)) upd_same (sh.same (same_new hT2))
/-- an evening's cents and the mark afterwards -/
def evRun (n : Nat) (m : Int) (bs : List (Int × List Int)) : List Int × Int := bs.foldl (fun x b => (List.zipWith (· + ·) x.1 (splitC n x.2 b), splitM x.2 b)) (List.replicate n 0, m)
theorem evRun_snoc (n : Nat) (m : Int) (bs : List (Int × List Int)) (b : Int × List Int) : evRun n m (bs ++ [b]) = (List.zipWith (· + ·) (evRun n m bs).1 (splitC n (evRun n m bs).2 b), splitM (evRun n m bs).2 b) := by
  unfold evRun
  rw [List.foldl_append, List.foldl_cons, List.foldl_nil]
theorem evRun_len (n : Nat) (m : Int) (bs : List (Int × List Int)) : (evRun n m bs).1.length = n := by
  have h : ∀ (bs : List (Int × List Int)) (x : List Int × Int), x.1.length = n → (bs.foldl (fun x b => (List.zipWith (· + ·) x.1 (splitC n x.2 b), splitM x.2 b)) x).1.length = n := fun bs => by
    induction bs with
    | nil => exact fun x h => h
    | cons b bs ih => exact fun x h => ih _ (by rw [List.length_zipWith, splitC_len, h, Nat.min_self])
  exact h bs _ List.length_replicate
def spEvCall (CE CB CS : Addr) : Sp := fun vs H Q _ => ∃ (p : Addr) (m : Int) (n : Nat) (bs : List (Int × List Int)), vs = [.ref p, .int m] ∧ EvAt CE CB H p n bs ∧ OkEv n bs ∧ 0 ≤ m ∧ m < (n : Int) ∧
  ∀ T r H', H T = none → Same H H' → H' T = some (.tup [.ref r, .int (evRun n m bs).2]) → ShAt CS H' r (evRun n m bs).1 → Q (.ref T) H'
theorem ok_ev_call (T : Facts K mg a) : FnR P w K mg base (L2.CX P w) 4 a.f_Evening__call_ (spEvCall a.c_Evening a.c_Bill a.c_Shares) := by
  obtain ⟨fd, F⟩ := T.u_Evening__call_
  have GM : FnR P w K mg base (L2.CX P w) 2 a.f_check_mark spCkMark := ok_check_mark T
  have GN : FnR P w K mg base (L2.CX P w) 3 a.f_no_shares (spNoShares a.c_Shares) := ok_no_shares T
  have GS : FnR P w K mg base (L2.CX P w) 3 a.f_split_bill (spSplit a.c_Bill a.c_Shares) := ok_split T
  have GA : FnR P w K mg base (L2.CX P w) 3 a.f_Shares__add_ (spShAdd a.c_Shares a.c_OtherTable) := ok_sh_add T
  refine fnr_ok F sc_Evening__call_ (F.binds fun _ _ _ _ _ _ us hl => match us, hl with | [_, _], _ => rfl) (fun vs H Q E h => ?_) (fun cdv A outer s H vs Q E hr h => ?_)
  · obtain ⟨p, m, n, bs, rfl, _⟩ := h
    rfl
  · obtain ⟨p, m, n, bs, rfl, he, ok, h0, h1, q⟩ := h
    obtain ⟨dx, t, ps, e1, e2, e3⟩ := id he
    have hn : n ≤ 8 := ok.2.1
    refine ⟨_, (pss_cons (ps_expr (pe_glA Like.refl pas_main (by rfl) (pa_cons (pv 1) (pa_cons (pe_atA Like.refl pas_main (pv 0)) pa_nil))))
    (pss_cons (ps_set (i := 2) sc_Evening__call_.nd rfl (Or.inl rfl) (pe_glA Like.refl pas_main (by rfl) (pa_cons (pe_atA Like.refl pas_main (pv 0)) pa_nil)))
    (pss_cons (ps_for own_main rfl (pi_seqA Like.refl (pe_atA Like.refl pas_main (pv 0))) (pg_name (i := 3) sc_Evening__call_.nd rfl (Or.inl rfl)) (pss_cons (ps_asg (pe_glA Like.refl pas_main (by rfl) (pa_cons (pv 3) (pa_cons (pv 1) (pa_cons (pe_atA Like.refl pas_main (pv 0)) pa_nil)))) (pg_tup rfl (pgs_cons (pg_name (i := 4) sc_Evening__call_.nd rfl (Or.inl rfl)) (pgs_cons (pg_name (i := 1) sc_Evening__call_.nd rfl (Or.inl rfl)) pgs_nil))))
    (pss_one (ps_set (i := 2) sc_Evening__call_.nd rfl (Or.inl rfl) (pe_opA Like.refl pas_main (pv 2) (pv 4))))))
    (pss_one (ps_ret (pe_tup (pa_cons (pv 2) (pa_cons (pv 1) pa_nil)))))))), ?_⟩
    walk_at "go"
    refine s_fld e1 T.cl_Evening T.na_Evening_seat_count look_count ?_
    walk_at "go"
    refine s_fn GM (hr.mono (by decide)) ⟨m, n, rfl, h0, h1, ?_⟩
    walk_at "go"
    refine s_fld e1 T.cl_Evening T.na_Evening_seat_count look_count ?_
    walk_at "go"
    refine s_fn GN (hr.mono (by decide)) ⟨n, rfl, by omega, fun r H1 hr1 s1 sh1 => ?_⟩
    walk_at "go"
    refine f_tup (a := t) (xs := ps.map V.ref) (fun k σ H' => Same H H' ∧ ∃ r x y, ShAt a.c_Shares H' r (evRun n m (bs.take k)).1 ∧ σ = [some (.ref p), some (.int (evRun n m (bs.take k)).2), some (.ref r), x, y]) (fun R k => ?_)
      ⟨s1, r, none, none, by rw [List.take_zero]; exact sh1, by rw [List.take_zero] <;> rfl⟩ (fun k σ H' _ pv => same_t pv.1 (SqT.of e2)) (fun k x σ H' hx pv => ?_) (fun σ H' pv => ?_)
    · walk_at "go"
      exact s_fld (s1 _ _ e1) T.cl_Evening T.na_Evening_bills look_bills k
    · obtain ⟨s2, r2, x1, x2, sh2, rfl⟩ := pv
      rw [List.getElem?_map] at hx
      cases e : ps[k]? with
      | none => rw [e] at hx; cases hx
      | some z =>
        rw [e] at hx
        cases hx
        obtain ⟨hk, ez⟩ := List.getElem?_eq_some_iff.1 e
        have hk2 : k < bs.length := by rw [← e3.1]; exact hk
        have eb := List.getElem?_eq_getElem hk2
        obtain ⟨ob, os⟩ := ok.2.2.2 _ (List.getElem_mem hk2)
        refine w_name ?_
        walk_at "go"
        refine s_fld (s2 _ _ e1) T.cl_Evening T.na_Evening_seat_count look_count ?_
        walk_at "go"
        refine s_fn GS (hr.mono (by decide)) ⟨z, _, n, bs[k], rfl, (e3.2 k z _ e eb).same s2, ob, hn, os, fun T2 r3 H3 hT2 s3 hT3 sh3 => ?_⟩
        refine g_pair (SqT.of hT3) ?_
        walk_at "go"
        obtain ⟨d1, t1, i1, i2⟩ := id sh2
        obtain ⟨d2, t2, j1, j2⟩ := id sh3
        have hl1 : (evRun n m (bs.take k)).1.length = n := evRun_len ..
        refine s_opSame T.sf_Shares T.m_Shares__add_ (by decide +kernel) GA (hr.mono (by decide)) (s3 _ _ i1) j1 ⟨r2, r3, _, _, rfl, sh2.same s3, sh3, by rw [hl1]; omega, fun hh r4 H4 hr4 s4 sh4 => ?_, fun hh => ?_⟩
        · walk_at "go"
          refine ⟨(s2.trans s3).trans s4, r4, some (.ref z), some (.ref r3), ?_, ?_⟩
          · rw [List.take_add_one, eb]
            show ShAt _ _ _ (evRun n m (bs.take k ++ [bs[k]])).1
            rw [evRun_snoc]
            exact sh4
          · rw [List.take_add_one, eb]
            show _ = [some (V.ref p), some (V.int (evRun n m (bs.take k ++ [bs[k]])).2), _, _, _]
            rw [evRun_snoc]
            rfl
        · rw [splitC_len] at hh
          exact absurd hl1 hh
    · obtain ⟨s2, r2, x1, x2, sh2, rfl⟩ := pv
      rw [List.length_map, e3.1, List.take_of_length_le (Nat.le_refl _)] at sh2
      rw [List.length_map, e3.1, List.take_of_length_le (Nat.le_refl _)]
      walk_at "go"
      refine ⟨by show 2 ≤ sizeLine; decide, fun T2 hT2 => ?_⟩
      exact q T2 r2 _ (s2.free hT2) (s2.trans (same_new hT2)) upd_same (sh2.same (same_new hT2))
theorem BisAt.app {C : Addr} {H : Hp} {ps qs : List Addr} {bs cs : List (Int × List Int)} (h : BisAt C H ps bs) (h' : BisAt C H qs cs) : BisAt C H (ps ++ qs) (bs ++ cs) := by
  refine ⟨by rw [List.length_append, List.length_append, h.1, h'.1], fun i p b e1 e2 => ?_⟩
  by_cases hi : i < ps.length
  · rw [List.getElem?_append_left hi] at e1
    rw [List.getElem?_append_left (by rw [← h.1]; exact hi)] at e2
    exact h.2 i p b e1 e2
  · rw [List.getElem?_append_right (by omega)] at e1
    rw [List.getElem?_append_right (by rw [← h.1]; omega), ← h.1] at e2
    exact h'.2 _ p b e1 e2
def spEvAdd (CE CB : Addr) : Sp := fun vs H Q _ => ∃ (p q : Addr) (n : Nat) (bs cs : List (Int × List Int)), vs = [.ref p, .ref q] ∧ EvAt CE CB H p n bs ∧ EvAt CE CB H q n cs ∧ OkEv n (bs ++ cs) ∧
  ∀ r H', H r = none → Same H H' → EvAt CE CB H' r n (bs ++ cs) → Q (.ref r) H'
theorem ok_ev_add (T : Facts K mg a) : FnR P w K mg base (L2.CX P w) 6 a.f_Evening__add_ (spEvAdd a.c_Evening a.c_Bill) := by
  obtain ⟨fd, F⟩ := T.u_Evening__add_
  have GI : FnR P w K mg base (L2.CX P w) 4 a.f_Evening__init_ (InitE a.c_Evening a.c_Bill) := ok_ev_init T
  refine fnr_ok F sc_Evening__add_ (F.binds fun _ _ _ _ _ _ us hl => match us, hl with | [_, _], _ => rfl) (fun vs H Q E h => ?_) (fun cdv A outer s H vs Q E hr h => ?_)
  · obtain ⟨p, q, n, bs, cs, rfl, _⟩ := h
    rfl
  · obtain ⟨p, q, n, bs, cs, rfl, hp, hq, ok, k⟩ := h
    obtain ⟨dx, t, ps, e1, e2, e3⟩ := id hp
    obtain ⟨dy, u, qs, f1, f2, f3⟩ := id hq
    have hl := ok.2.2.1
    rw [List.length_append] at hl
    have l1 := e3.1
    have l2 := f3.1
    refine ⟨_, (pss_cons (ps_if (pt_cmpA Like.refl pas_main (pe_atA Like.refl pas_main (pv 0)) (pe_atA Like.refl pas_main (pv 1)) (nomark _)) (pss_one (ps_raA rfl tk_main (by rfl))) pss_nil)
    (pss_cons (ps_set (i := 2) sc_Evening__add_.nd rfl (Or.inl rfl) (pe_opA Like.refl pas_main (pe_atA Like.refl pas_main (pv 0)) (pe_atA Like.refl pas_main (pv 1))))
    (pss_one (ps_ret (pe_glS2 Like.refl pas_main (by rfl) (pa_cons (pe_atA Like.refl pas_main (pv 0)) (pa_starA Like.refl (pv 2) pa_nil))))))), ?_⟩
    walk_at "go"
    refine s_fld e1 T.cl_Evening T.na_Evening_seat_count look_count ?_
    walk_at "go"
    refine s_fld f1 T.cl_Evening T.na_Evening_seat_count look_count ?_
    walk_at "go"
    rw [decide_eq_true rfl]
    walk_at "go"
    refine s_fld e1 T.cl_Evening T.na_Evening_bills look_bills ?_
    walk_at "go"
    refine s_fld f1 T.cl_Evening T.na_Evening_bills look_bills ?_
    have fin : ∀ (b : Addr) (H1 : Hp), Same H H1 → SqT K H1 b ((ps ++ qs).map V.ref) → (tRet (tGlA (cxOf (L2.CX P w) P w K mg base N_Evening__add_ "Evening.__add__" (defScope s_Evening__add_) a.f_Evening__add_ cdv A outer s H E) E "Evening" (tCons (tAtA (cxOf (L2.CX P w) P w K mg base N_Evening__add_ "Evening.__add__" (defScope s_Evening__add_) a.f_Evening__add_ cdv A outer s H E) E "_seat_count" (tVar 0)) (StX.tStar K (tVar 2) tNil)))) { nx := fun _ H' => Q .non H', rt := Q } [some (.ref p), some (.ref q), some (.ref b)] H1 := fun b H1 s1 hb => by
      walk_at "go"
      refine s_fld (s1 _ _ e1) T.cl_Evening T.na_Evening_seat_count look_count ?_
      refine ⟨.ref b, rfl, b, _, rfl, .inl hb, ?_⟩
      walk_at "go"
      show ∃ r, CaD _ E (.ref a.c_Evening) r ∧ r (.int (n : Nat) :: ((ps ++ qs).map V.ref ++ [])) _ _
      rw [List.append_nil]
      exact s_evening T GI (hr.mono (by decide)) ((e3.same s1).app (f3.same s1)) ok fun r H2 hr2 s2 ev => k r H2 (s1.free hr2) (s1.trans s2) ev
    refine s_catT (SqT.of e2) (SqT.of f2) (by rw [List.length_map, List.length_map]; exact sz5 (by omega)) (fun z => ?_) (fun _ z => ?_) (fun _ _ r hr0 => ?_)
    · with_reducible refine' w_name ?_
      exact fin u H (Same.refl _) (by rw [List.map_append, z, List.nil_append]; exact SqT.of f2)
    · with_reducible refine' w_name ?_
      exact fin t H (Same.refl _) (by rw [List.map_append, z, List.append_nil]; exact SqT.of e2)
    · with_reducible refine' w_name ?_
      exact fin r _ (same_new hr0) (by rw [List.map_append]; exact SqT.of upd_same)
/-- the bills of all for amounts -/
def allB (n : Nat) (as : List Int) : List (Int × List Int) := as.map fun x => (x, (List.range n).map fun i : Nat => (i : Int))
def spEvTog (CE CB : Addr) : Sp := fun vs H Q _ => ∃ (n : Nat) (t : Addr) (as : List Int), vs = [.ref CE, .int n, .ref t] ∧ H t = some (.tup (as.map V.int)) ∧ OkEv n (allB n as) ∧
  ∀ r H', H r = none → Same H H' → EvAt CE CB H' r n (allB n as) → Q (.ref r) H'
theorem allB_len (n : Nat) (as : List Int) : (allB n as).length = as.length := List.length_map _
theorem rgV_nat (n : Nat) : rgV 0 (n : Int) = ((List.range n).map fun i : Nat => (i : Int)).map V.int := by
  unfold rgV
  rw [List.map_map, show ((n : Int) - 0).toNat = n by omega]
  refine List.map_congr_left fun i _ => ?_
  show V.int (0 + (i : Int)) = V.int (i : Int)
  rw [Int.zero_add]
abbrev InitT (CE CB : Addr) : Sp := fun vs H Q E => ∃ ws rest, vs = ws ++ rest ∧ ws.length = ["cls", "seat_count"].length ∧ rest.length ≤ sizeLine ∧ ∀ p, H p = Option.none → spEvTog CE CB (ws ++ [V.ref p]) (upd H p (.tup rest)) Q E
end

end Odd

namespace Odd
open PySem PySem.Spec PyProof.Rows L2
/-! tactics of this text: st one step, go as many as go -/
local macro_rules | `(tactic| walk_at "ar") => `(tactic| first | assumption | omega | (show (_ : Int) < _; omega) | decide)
local macro_rules | `(tactic| walk_at "st") => `(tactic| first
  | with_reducible refine' w_seq ?_
  | with_reducible refine' w_asg ?_
  | with_reducible refine' w_name ?_
  | with_reducible refine' w_c ?_
  | with_reducible refine' w_op ?_
  | with_reducible refine' w_ix ?_
  | with_reducible refine' w_at ?_
  | with_reducible refine' w_cons ?_
  | with_reducible refine' w_nil ?_
  | with_reducible refine' w_ret ?_
  | with_reducible refine' w_if ?_
  | with_reducible refine' w_test ?_
  | with_reducible refine' w_tr ?_
  | with_reducible refine' w_un ?_
  | with_reducible refine' w_andV ?_
  | with_reducible refine' w_orV ?_
  | with_reducible refine' w_notA ?_
  | with_reducible refine' w_ch ?_
  | with_reducible refine' w_and ?_
  | with_reducible refine' w_or ?_
  | with_reducible refine' w_not ?_
  | with_reducible refine' w_ifx ?_
  | with_reducible refine' w_tup ?_
  | with_reducible refine' w_lst ?_
  | with_reducible refine' w_next ?_
  | with_reducible refine' w_drop ?_
  | with_reducible refine' w_retN ?_
  | ((with_reducible refine' w_var ?h ?_); (case h => exact rfl))
  | ((with_reducible refine' w_bi ?h ?_); (case h => walk_at "mg"))
  | ((with_reducible refine' w_bv ?h ?_); (case h => walk_at "mg"))
  | ((with_reducible refine' w_gv ?h ?_); (case h => walk_at "mg"))
  | ((with_reducible refine' w_gl ?h ?k ?_); (case h => walk_at "mg"); (case k => walk_at "kp"))
  | ((with_reducible refine' w_glS ?h ?k ?_); (case h => walk_at "mg"); (case k => walk_at "kp"))
  | with_reducible refine' bl_ex ?_
  | with_reducible refine' iteT ?_
  | with_reducible refine' iteF ?_
  | with_reducible refine' ite_nf ?_
  | with_reducible refine' ite_nt ?_
  | with_reducible refine' s_add ?_
  | with_reducible refine' s_sub ?_
  | with_reducible refine' s_lt ?_
  | with_reducible refine' s_le ?_
  | with_reducible refine' s_gt ?_
  | with_reducible refine' s_ge ?_
  | with_reducible refine' s_eqI ?_
  | with_reducible refine' s_neI ?_
  | with_reducible refine' s_eqB ?_
  | with_reducible refine' s_neB ?_
  | with_reducible refine' s_truB ?_
  | with_reducible refine' s_truI ?_
  | with_reducible refine' s_neg ?_
  | ((with_reducible refine' s_mod ?h ?_); (case h => walk_at "ar")))
local macro_rules | `(tactic| walk_at "go") => `(tactic| repeat walk_at "st")

local macro_rules | `(tactic| walk_at "mg") => `(tactic| first | assumption | exact Facts.z_TypeError (by assumption) | exact Facts.z_bool (by assumption) | exact Facts.z_classmethod (by assumption) | exact Facts.z_dict (by assumption) | exact Facts.z_divmod (by assumption) | exact Facts.z_enumerate (by assumption) | exact Facts.z_int (by assumption) | exact Facts.z_isinstance (by assumption) | exact Facts.z_len (by assumption) | exact Facts.z_list (by assumption) | exact Facts.z_max (by assumption) | exact Facts.z_min (by assumption) | exact Facts.z_property (by assumption) | exact Facts.z_range (by assumption) | exact Facts.z_sorted (by assumption) | exact Facts.z_str (by assumption) | exact Facts.z_sum (by assumption) | exact Facts.z_super (by assumption) | exact Facts.z_tuple (by assumption) | exact Facts.z_zip (by assumption) | exact Facts.g__wall (by assumption) | exact Facts.g_is_between (by assumption) | exact Facts.g_is_digits (by assumption) | exact Facts.g_seats_of (by assumption) | exact Facts.g_check_amount (by assumption) | exact Facts.g_check_seats (by assumption) | exact Facts.g_check_seat_count (by assumption) | exact Facts.g_check_bills (by assumption) | exact Facts.g_check_mark (by assumption) | exact Facts.g_no_shares (by assumption) | exact Facts.g_seats_behind (by assumption) | exact Facts.g_split_bill (by assumption) | exact Facts.g_title_line (by assumption) | exact Facts.g_line_of (by assumption) | exact Facts.g_seat_line (by assumption) | exact Facts.g_receipt (by assumption) | exact Facts.g_cents_of_line (by assumption) | exact Facts.g_mark_of_line (by assumption) | exact Facts.g_parse_receipt (by assumption) | exact Facts.g_amount_bytes (by assumption) | exact Facts.g_checksum (by assumption) | exact Facts.g_encode_evening (by assumption) | exact Facts.g_byte_at (by assumption) | exact Facts.g_amount_at (by assumption) | exact Facts.g_decode_evening (by assumption) | exact Facts.g_row_of (by assumption) | exact Facts.g_format_evening (by assumption) | exact Facts.g_is_number (by assumption) | exact Facts.g_check_row (by assumption) | exact Facts.g_numbers_of_row (by assumption) | exact Facts.g_parse_evening (by assumption) | exact Facts.g__law_mix (by assumption) | exact Facts.g__law_next (by assumption) | exact Facts.g__law_alike (by assumption) | exact Facts.g__law_bill (by assumption) | exact Facts.g__law_bills (by assumption) | exact Facts.g__law_text (by assumption) | exact Facts.g__law_pay (by assumption) | exact Facts.g__law_paid (by assumption) | exact Facts.g__law_money (by assumption) | exact Facts.g__law_lines (by assumption) | exact Facts.g_law (by assumption) | exact Facts.g_Shares (by assumption) | exact Facts.g_Bill (by assumption) | exact Facts.g_Evening (by assumption))
local macro_rules | `(tactic| walk_at "kp") => `(tactic| first | assumption | exact (Facts.mk_Shares (by assumption)).kp | exact (Facts.mk_Bill (by assumption)).kp | exact (Facts.mk_Evening (by assumption)).kp | exact Fun.kp (Facts.u__wall (by assumption)).choose_spec | exact Fun.kp (Facts.u_is_between (by assumption)).choose_spec | exact Fun.kp (Facts.u_is_digits (by assumption)).choose_spec | exact Fun.kp (Facts.u_seats_of (by assumption)).choose_spec | exact Fun.kp (Facts.u_check_amount (by assumption)).choose_spec | exact Fun.kp (Facts.u_check_seats (by assumption)).choose_spec | exact Fun.kp (Facts.u_check_seat_count (by assumption)).choose_spec | exact Fun.kp (Facts.u_check_bills (by assumption)).choose_spec | exact Fun.kp (Facts.u_check_mark (by assumption)).choose_spec | exact Fun.kp (Facts.u_no_shares (by assumption)).choose_spec | exact Fun.kp (Facts.u_seats_behind (by assumption)).choose_spec | exact Fun.kp (Facts.u_split_bill (by assumption)).choose_spec | exact Fun.kp (Facts.u_title_line (by assumption)).choose_spec | exact Fun.kp (Facts.u_line_of (by assumption)).choose_spec | exact Fun.kp (Facts.u_seat_line (by assumption)).choose_spec | exact Fun.kp (Facts.u_receipt (by assumption)).choose_spec | exact Fun.kp (Facts.u_cents_of_line (by assumption)).choose_spec | exact Fun.kp (Facts.u_mark_of_line (by assumption)).choose_spec | exact Fun.kp (Facts.u_parse_receipt (by assumption)).choose_spec | exact Fun.kp (Facts.u_amount_bytes (by assumption)).choose_spec | exact Fun.kp (Facts.u_checksum (by assumption)).choose_spec | exact Fun.kp (Facts.u_encode_evening (by assumption)).choose_spec | exact Fun.kp (Facts.u_byte_at (by assumption)).choose_spec | exact Fun.kp (Facts.u_amount_at (by assumption)).choose_spec | exact Fun.kp (Facts.u_decode_evening (by assumption)).choose_spec | exact Fun.kp (Facts.u_row_of (by assumption)).choose_spec | exact Fun.kp (Facts.u_format_evening (by assumption)).choose_spec | exact Fun.kp (Facts.u_is_number (by assumption)).choose_spec | exact Fun.kp (Facts.u_check_row (by assumption)).choose_spec | exact Fun.kp (Facts.u_numbers_of_row (by assumption)).choose_spec | exact Fun.kp (Facts.u_parse_evening (by assumption)).choose_spec | exact Fun.kp (Facts.u__law_mix (by assumption)).choose_spec | exact Fun.kp (Facts.u__law_next (by assumption)).choose_spec | exact Fun.kp (Facts.u__law_alike (by assumption)).choose_spec | exact Fun.kp (Facts.u__law_bill (by assumption)).choose_spec | exact Fun.kp (Facts.u__law_bills (by assumption)).choose_spec | exact Fun.kp (Facts.u__law_text (by assumption)).choose_spec | exact Fun.kp (Facts.u__law_pay (by assumption)).choose_spec | exact Fun.kp (Facts.u__law_paid (by assumption)).choose_spec | exact Fun.kp (Facts.u__law_money (by assumption)).choose_spec | exact Fun.kp (Facts.u__law_lines (by assumption)).choose_spec | exact Fun.kp (Facts.u_law (by assumption)).choose_spec)
/-! ### the law's rows -/
section
variable {P : Program} {w : World} {K : PySem.W.Frag} {mg : Str → Option Value} {base : Heap} {a : Ad}
theorem w_forR {ta : TA} {g : TG} {tb : TS} {D : Ends} {σ : L2.St} {H : Hp} (h : ta σ H fun vs H1 => tFor (iRng1 fun _ H R => R vs H) g tb D σ H1) : tFor (iRng1 ta) g tb D σ H := h
theorem w_forQ {K : PySem.W.Frag} {tl : TE} {g : TG} {tb : TS} {D : Ends} {σ : L2.St} {H : Hp} (h : tl σ H fun x H1 => tFor (iSeq K fun _ H R => R x H) g tb D σ H1) : tFor (iSeq K tl) g tb D σ H := h
theorem w_bm {K : PySem.W.Frag} {T : String} {r : V → List V → Hp → VK → Prop} {to : TE} {t : TA} {σ : L2.St} {H : Hp} {Q : VK} (h : to σ H fun x H1 => tyV K T x H1 ∧ t σ H1 fun xs H2 => r x xs H2 Q) : tBM K T r to t σ H Q := h
/-- a row (amount, seats) stands at r -/
def RowAt (H : Hp) (r : Addr) (b : Int × List Int) : Prop := ∃ t, H r = some (.tup [.int b.1, .ref t]) ∧ H t = some (.tup (b.2.map V.int))
def RowsAt (H : Hp) (rs : List Addr) (bs : List (Int × List Int)) : Prop := rs.length = bs.length ∧ ∀ (i : Nat) r b, rs[i]? = some r → bs[i]? = some b → RowAt H r b
/-- what stays while lists change -/
theorem RowAt.keep {H H' : Hp} {r : Addr} {b : Int × List Int} (h : RowAt H r b) (k : ∀ p xs, H p = some (.tup xs) → H' p = some (.tup xs)) : RowAt H' r b := by
  obtain ⟨t, h1, h2⟩ := h
  exact ⟨t, k _ _ h1, k _ _ h2⟩
theorem RowsAt.keep {H H' : Hp} {rs : List Addr} {bs : List (Int × List Int)} (h : RowsAt H rs bs) (k : ∀ p xs, H p = some (.tup xs) → H' p = some (.tup xs)) : RowsAt H' rs bs := ⟨h.1, fun i r b h1 h2 => (h.2 i r b h1 h2).keep k⟩
theorem RowsAt.snoc {H : Hp} {rs : List Addr} {bs : List (Int × List Int)} {r : Addr} {b : Int × List Int} (h : RowsAt H rs bs) (h' : RowAt H r b) : RowsAt H (rs ++ [r]) (bs ++ [b]) := by
  refine ⟨by simp [h.1], fun i p c e1 e2 => ?_⟩
  by_cases hi : i < rs.length
  · rw [List.getElem?_append_left hi] at e1
    rw [List.getElem?_append_left (by rw [← h.1]; exact hi)] at e2
    exact h.2 i p c e1 e2
  · rw [List.getElem?_append_right (by omega)] at e1
    rw [List.getElem?_append_right (by rw [← h.1]; omega), ← h.1] at e2
    cases z : i - rs.length with
    | zero => rw [z] at e1 e2; cases e1; cases e2; exact h'
    | succ j => rw [z] at e1; simp at e1
theorem asc_snoc : ∀ {ss : List Int} {lo i : Int}, asc lo ss = true → (∀ s ∈ ss, s < i) → lo ≤ i → i ≤ 7 → asc lo (ss ++ [i]) = true
  | [], lo, i, _, _, h1, h2 => by simp [asc, h1, h2]
  | s :: ss, lo, i, h, hs, h1, h2 => by
    simp only [asc, Bool.and_eq_true, decide_eq_true_eq] at h
    have := hs s (List.mem_cons_self ..)
    show (decide (lo ≤ s) && decide (s ≤ 7) && asc (s + 1) (ss ++ [i])) = true
    rw [asc_snoc h.2 (fun x hx => hs x (List.mem_cons_of_mem _ hx)) (by omega) h2]
    simp [h.1.1, h.1.2]
end

/-! ### the whole laws' draws -/
section
variable {P : Program} {w : World} {K : PySem.W.Frag} {mg : Str → Option Value} {base : Heap} {a : Ad}
/-- a state of draws at st, its cells at L -/
def WSt (st L : Addr) (H : Hp) : Prop := ∃ (m pos : Int) (cs : List Int), H st = some (.lst [.int m, .ref L, .int pos]) ∧ H L = some (.lst (cs.map V.int)) ∧ cs.length ≤ 63
abbrev S2 (st L : Addr) : Addr → Prop := fun b => b = st ∨ b = L
theorem WSt.ne {st L : Addr} {H : Hp} (h : WSt st L H) : st ≠ L := fun e => by
  obtain ⟨m, pos, cs, h1, h2, _⟩ := h
  rw [e, h2] at h1
  have h3 := HO.lst.inj (Option.some.inj h1)
  cases cs with
  | nil => cases h3
  | cons c cs =>
    cases cs with
    | nil => simp at h3
    | cons d cs => simp at h3
theorem WSt.same {st L : Addr} {H H' : Hp} (h : WSt st L H) (s : Same H H') : WSt st L H' := let ⟨a, b, c, h1, h2, h3⟩ := h; ⟨a, b, c, s _ _ h1, s _ _ h2, h3⟩
theorem WSt.lst {st L : Addr} {H : Hp} (h : WSt st L H) : ∀ b, S2 st L b → ∃ l, H b = some (.lst l) := fun b e => by
  obtain ⟨m, pos, cs, h1, h2, _⟩ := h
  rcases e with e | e
  · exact ⟨_, e ▸ h1⟩
  · exact ⟨_, e ▸ h2⟩
theorem WSt.ok {st L : Addr} {H : Hp} (h : WSt st L H) : ∀ b, S2 st L b → H b ≠ none := fun b e z => by
  obtain ⟨l, hl⟩ := h.lst b e
  rw [hl] at z
  cases z
theorem WSt.out {st L p : Addr} {H : Hp} (h : WSt st L H) (e : H p = none) : ¬ S2 st L p := fun z => h.ok p z e
theorem WSt.upd {st L p : Addr} {H : Hp} {o : HO} (h : WSt st L H) (n : ¬ S2 st L p) : WSt st L (upd H p o) := by
  obtain ⟨m, pos, cs, h1, h2, h3⟩ := h
  exact ⟨m, pos, cs, by rw [upd_ne (fun z => n (.inl z.symm))]; exact h1, by rw [upd_ne (fun z => n (.inr z.symm))]; exact h2, h3⟩
/-- what stands outside of the draws, whatever it is made of -/
theorem WSt.keepT {st L q : Addr} {H H' : Hp} {xs : List V} (h : WSt st L H) (s : SameB (S2 st L) H H') (e : H q = some (.tup xs)) : H' q = some (.tup xs) := s _ _ (fun z => by obtain ⟨l, hl⟩ := h.lst _ z; rw [hl] at e; cases e) e
theorem WSt.keepI {st L q C dx : Addr} {H H' : Hp} {fs : List (Str × V)} (h : WSt st L H) (s : SameB (S2 st L) H H') (e : H q = some (.ins C dx fs)) : H' q = some (.ins C dx fs) := s _ _ (fun z => by obtain ⟨l, hl⟩ := h.lst _ z; rw [hl] at e; cases e) e
def spMix (K : PySem.W.Frag) : Sp := fun vs H Q _ => ∃ (sc : Addr) (ns : List Int) (i : Int), vs = [.ref sc, .int i] ∧ SqL K H sc (ns.map V.int) ∧ ns.length ≤ 63 ∧ ∀ p L H', H p = none → H L = none → Same H H' → WSt p L H' → Q (.ref p) H'
theorem ok_mix (T : Facts K mg a) : FnR P w K mg base (L2.CX P w) 1 a.f__law_mix (spMix K) := by
  obtain ⟨fd, F⟩ := T.u__law_mix
  refine fnr_ok F sc__law_mix (F.binds fun _ _ _ _ _ _ us hl => match us, hl with | [_, _], _ => rfl) (fun vs H Q E h => ?_) (fun cdv A outer s H vs Q E hr h => ?_)
  · obtain ⟨sc, ns, i, rfl, _⟩ := h
    rfl
  · obtain ⟨sc, ns, i0, rfl, hs, hl, q⟩ := h
    refine ⟨_, (pss_cons (ps_set (i := 2) sc__law_mix.nd rfl (Or.inl rfl) (pv 1))
    (pss_cons (ps_for own_main rfl (pi_seqA Like.refl (pv 0)) (pg_name (i := 3) sc__law_mix.nd rfl (Or.inl rfl)) (pss_one (ps_set (i := 2) sc__law_mix.nd rfl (Or.inl rfl) (pe_opA Like.refl pas_main (pe_tyA (T := "int") Like.refl pas_main (by rfl) (by decide +kernel) (pa_cons (pe_opA Like.refl pas_main (pe_opA Like.refl pas_main (pe_opA Like.refl pas_main (pv 2) (pe_int)) (pe_opA Like.refl pas_main (pe_tyA (T := "int") Like.refl pas_main (by rfl) (by decide +kernel) (pa_cons (pv 3) pa_nil)) (pe_int))) (pe_int)) pa_nil)) (pe_int)))))
    (pss_one (ps_ret (pe_lst (pa_cons (pv 2) (pa_cons (pe_tyA (T := "list") Like.refl pas_main (by rfl) (by decide +kernel) (pa_cons (pv 0) pa_nil)) (pa_cons (pe_int) pa_nil)))))))), ?_⟩
    walk_at "go"
    refine f_lst (xs := ns.map V.int) (a := sc) (fun i σ H' => H' = H ∧ ∃ (m : Int) (v : Option V), σ = [some (.ref sc), some (.int i0), some (.int m), v]) (fun R k => by walk_at "go"; exact k) ⟨rfl, i0, none, rfl⟩ (fun i σ H' _ ⟨e, _⟩ => by rw [e]; exact hs) ?_ ?_
    · rintro i x σ H' hx ⟨rfl, m, v, rfl⟩
      rw [List.getElem?_map] at hx
      cases e : ns[i]? with
      | none => rw [e] at hx; cases hx
      | some c =>
        rw [e] at hx
        cases hx
        refine w_name ?_
        walk_at "go"
        refine s_mul (.inr ⟨by decide, by decide⟩) ?_
        walk_at "go"
        refine s_intI ?_
        walk_at "go"
        refine s_intI ?_
        walk_at "go"
        exact ⟨rfl, _, _, rfl⟩
    · rintro σ H' ⟨rfl, m, v, rfl⟩
      walk_at "go"
      refine s_listOf (.inl hs) fun L hL => ?_
      walk_at "go"
      refine ⟨(by show 3 ≤ sizeLine; decide), fun p hp => ?_⟩
      have hpL : L ≠ p := fun z => by rw [← z, upd_same] at hp; cases hp
      have hp' : H' p = none := by rwa [upd_ne hpL.symm] at hp
      exact q p L _ hp' hL ((same_new hL).trans (same_new hp)) ⟨m, 0, ns, upd_same, by rw [upd_ne hpL, upd_same], hl⟩
def spNext : Sp := fun vs H Q _ => ∃ (st L : Addr) (n : Int), vs = [.ref st, .int n] ∧ WSt st L H ∧ 0 < n ∧ n < 2 ^ 80 ∧ ∀ (v : Int) H', 0 ≤ v → v < n → SameB (S2 st L) H H' → WSt st L H' → Q (.int v) H'
theorem ok_next (T : Facts K mg a) : FnR P w K mg base (L2.CX P w) 1 a.f__law_next spNext := by
  obtain ⟨fd, F⟩ := T.u__law_next
  refine fnr_ok F sc__law_next (F.binds fun _ _ _ _ _ _ us hl => match us, hl with | [_, _], _ => rfl) (fun vs H Q E h => ?_) (fun cdv A outer s H vs Q E hr h => ?_)
  · obtain ⟨st, L, n, rfl, _⟩ := h
    rfl
  · obtain ⟨st, L, n, rfl, W, hn, hn2, q⟩ := h
    have hne := W.ne
    obtain ⟨m, pos, cs, h1, h2, h3⟩ := id W
    have hW : ∀ i : Int, CDivW i n := fun i => wide_div (b := 80) hn (by omega) (by decide) (by decide)
    have hs1 : ∀ o, SameB (S2 st L) H (upd H st o) := fun o b u nb e => by rw [upd_ne (fun z => nb (.inl z))]; exact e
    have hs2 : ∀ o, SameB (S2 st L) H (upd H L o) := fun o b u nb e => by rw [upd_ne (fun z => nb (.inr z))]; exact e
    refine ⟨_, (pss_cons (ps_set (i := 2) sc__law_next.nd rfl (Or.inl rfl) (pe_ixA Like.refl pas_main (pe_opA Like.refl pas_main (pe_ixA Like.refl pas_main (pv 0) (pe_int)) (pe_lst (pa_cons (pe_int) pa_nil))) (pe_opA Like.refl pas_main (pe_tyA (T := "int") Like.refl pas_main (by rfl) (by decide +kernel) (pa_cons (pe_ixA Like.refl pas_main (pv 0) (pe_int)) pa_nil)) (pe_biA (id := "max") Like.refl pas_main (by rfl) (by decide +kernel) (pa_cons (pe_int) (pa_cons (pe_biA (id := "len") Like.refl pas_main (by rfl) (by decide +kernel) (pa_cons (pe_ixA Like.refl pas_main (pv 0) (pe_int)) pa_nil)) pa_nil))))))
    (pss_cons (ps_if (pt_cmpA Like.refl pas_main (pv 2) (pe_opA Like.refl pas_main (pe_int) (pe_int)) (nomark _)) (pss_cons (ps_asg (pe_opA Like.refl pas_main (pv 2) (pv 1)) (pg_sub (pe_ixA Like.refl pas_main (pv 0) (pe_int)) (pe_opA Like.refl pas_main (pe_tyA (T := "int") Like.refl pas_main (by rfl) (by decide +kernel) (pa_cons (pe_ixA Like.refl pas_main (pv 0) (pe_int)) pa_nil)) (pe_biA (id := "len") Like.refl pas_main (by rfl) (by decide +kernel) (pa_cons (pe_ixA Like.refl pas_main (pv 0) (pe_int)) pa_nil))) set_list))
    (pss_one (ps_ret (pe_opA Like.refl pas_main (pe_tyA (T := "int") Like.refl pas_main (by rfl) (by decide +kernel) (pa_cons (pv 2) pa_nil)) (pv 1))))) pss_nil)
    (pss_cons (ps_asg (pe_opA Like.refl pas_main (pe_tyA (T := "int") Like.refl pas_main (by rfl) (by decide +kernel) (pa_cons (pe_opA Like.refl pas_main (pe_opA Like.refl pas_main (pe_opA Like.refl pas_main (pe_ixA Like.refl pas_main (pv 0) (pe_int)) (pe_int)) (pe_opA Like.refl pas_main (pv 2) (pe_int))) (pe_int)) pa_nil)) (pe_int)) (pg_sub (pv 0) (pe_int) set_list))
    (pss_cons (ps_asg (pe_opA Like.refl pas_main (pe_ixA Like.refl pas_main (pv 0) (pe_int)) (pe_int)) (pg_sub (pv 0) (pe_int) set_list))
    (pss_one (ps_ret (pe_opA Like.refl pas_main (pe_tyA (T := "int") Like.refl pas_main (by rfl) (by decide +kernel) (pa_cons (pe_opA Like.refl pas_main (pe_ixA Like.refl pas_main (pv 0) (pe_int)) (pe_int)) pa_nil)) (pv 1)))))))), ?_⟩
    walk_at "go"
    refine s_ixL (SqL.of h1) (v := .ref L) rfl ?_
    walk_at "go"
    refine ⟨by show 1 ≤ sizeLine; decide, fun z hz => ?_⟩
    walk_at "go"
    have s0 := same_new (o := .lst [.int 0]) hz
    refine s_cat (s0 _ _ h2) upd_same (by rw [List.length_map]; show cs.length + 1 ≤ sizeLine; exact Nat.le_trans (show cs.length + 1 ≤ 64 by omega) (by decide)) fun c hc => ?_
    have s1 := s0.trans (same_new (o := .lst (cs.map V.int ++ [.int 0])) hc)
    generalize hH1 : upd (upd H z (.lst [.int 0])) c (.lst (cs.map V.int ++ [.int 0])) = H1 at *
    have hc1 : H1 c = some (.lst ((cs ++ [0]).map V.int)) := by rw [← hH1, upd_same, List.map_append]; rfl
    walk_at "go"
    refine s_ixL (SqL.of (s1 _ _ h1)) (v := .int pos) rfl ?_
    walk_at "go"
    refine s_intI ?_
    walk_at "go"
    refine s_ixL (SqL.of (s1 _ _ h1)) (v := .ref L) rfl ?_
    walk_at "go"
    refine s_lenL (SqL.of (s1 _ _ h2)) ?_
    rw [List.length_map]
    walk_at "go"
    refine s_max2 rfl ?_
    have hM : (if (cs.length : Int) > 1 then (cs.length : Int) else 1) = ((max 1 cs.length : Nat) : Int) := by split <;> omega
    rw [hM]
    refine s_mod (by omega) ?_
    obtain ⟨j, hj⟩ : ∃ j : Nat, pos % ((max 1 cs.length : Nat) : Int) = (j : Int) := Int.eq_ofNat_of_zero_le (Int.emod_nonneg _ (by omega))
    have hj2 : j < max 1 cs.length := by have := Int.emod_lt_of_pos pos (show 0 < ((max 1 cs.length : Nat) : Int) by omega); omega
    have hjl : j < (cs ++ [0]).length := by rw [List.length_append]; show j < cs.length + 1; omega
    rw [hj]
    obtain ⟨x, hx⟩ : ∃ x, (cs ++ [0])[j]? = some x := ⟨_, List.getElem?_eq_getElem hjl⟩
    refine s_ixL (SqL.of hc1) (v := .int x) (at_of (j := j) (by omega) (by rw [List.getElem?_map, hx]; rfl)) ?_
    walk_at "go"
    refine s_pow ⟨by decide, by decide, by decide⟩ ?_
    walk_at "go"
    refine ite_d (fun hbig => ?_) (fun _ => ?_)
    · have hjc : j < cs.length := by
        rcases Nat.lt_or_ge j cs.length with h | h
        · exact h
        · rw [List.getElem?_append_right h] at hx
          have : j - cs.length = 0 := by rw [List.length_append] at hjl; simp at hjl; omega
          rw [this] at hx
          cases hx
          exact absurd hbig (by decide)
      walk_at "go"
      refine s_fdivW (hW _) ?_
      refine w_gsub ?_
      walk_at "go"
      refine s_ixL (SqL.of (s1 _ _ h1)) (v := .ref L) rfl ?_
      walk_at "go"
      refine s_ixL (SqL.of (s1 _ _ h1)) (v := .int pos) rfl ?_
      walk_at "go"
      refine s_intI ?_
      walk_at "go"
      refine s_ixL (SqL.of (s1 _ _ h1)) (v := .ref L) rfl ?_
      walk_at "go"
      refine s_lenL (SqL.of (s1 _ _ h2)) ?_
      rw [List.length_map]
      walk_at "go"
      have hM2 : ((max 1 cs.length : Nat) : Int) = (cs.length : Int) := by omega
      rw [hM2] at hj
      rw [hj]
      refine s_setL (s1 _ _ h2) (j := j) (by rw [ixN_of (by omega) (by rw [List.length_map]; omega), Int.toNat_natCast]) ?_
      walk_at "go"
      refine s_intI ?_
      walk_at "go"
      refine q _ _ (Int.emod_nonneg _ (by omega)) (Int.emod_lt_of_pos _ hn) ?_ ⟨m, pos, cs.set j (x / n), ?_, ?_, by rw [List.length_set]; exact h3⟩
      · intro b u nb e
        rw [upd_ne (fun z => nb (.inr z))]
        exact s1 _ _ e
      · rw [upd_ne hne]; exact s1 _ _ h1
      · rw [upd_same, List.map_set]
    · walk_at "go"
      refine s_ixL (SqL.of (s1 _ _ h1)) (v := .int m) rfl ?_
      walk_at "go"
      refine s_mul (.inr ⟨by decide, by decide⟩) ?_
      walk_at "go"
      refine s_mul (.inr ⟨by decide, by decide⟩) ?_
      walk_at "go"
      refine s_intI ?_
      walk_at "go"
      refine w_gsub ?_
      walk_at "go"
      refine s_setL (s1 _ _ h1) (j := 0) rfl ?_
      walk_at "go"
      refine s_ixL (SqL.of upd_same) (v := .int pos) rfl ?_
      walk_at "go"
      refine w_gsub ?_
      walk_at "go"
      refine s_setL upd_same (j := 2) rfl ?_
      walk_at "go"
      refine s_ixL (SqL.of upd_same) (v := .int ((m * 48271 + x * 69621 + 11) % 2147483647)) rfl ?_
      walk_at "go"
      refine s_fdiv ⟨by decide, by decide⟩ ?_
      walk_at "go"
      refine s_intI ?_
      walk_at "go"
      refine q _ _ (Int.emod_nonneg _ (by omega)) (Int.emod_lt_of_pos _ hn) ?_ ⟨_, _, cs, upd_same, ?_, h3⟩
      · intro b u nb e
        rw [upd_ne (fun z => nb (.inl z)), upd_ne (fun z => nb (.inl z))]
        exact s1 _ _ e
      · rw [upd_ne hne.symm, upd_ne hne.symm]; exact s1 _ _ h2
end

/-! ### the whole laws' bills -/
section
variable {P : Program} {w : World} {K : PySem.W.Frag} {mg : Str → Option Value} {base : Heap} {a : Ad}
abbrev RowOk (n : Nat) (b : Int × List Int) : Prop := OkBill b ∧ ∀ s ∈ b.2, s < (n : Int)
def spWBill : Sp := fun vs H Q _ => ∃ (st L : Addr) (n : Nat), vs = [.ref st, .int n] ∧ WSt st L H ∧ 2 ≤ n ∧ n ≤ 8 ∧
  ∀ r b H', H r = none → SameB (S2 st L) H H' → WSt st L H' → RowAt H' r b → RowOk n b → Q (.ref r) H'
theorem ok_wbill (T : Facts K mg a) : FnR P w K mg base (L2.CX P w) 2 a.f__law_bill spWBill := by
  obtain ⟨fd, F⟩ := T.u__law_bill
  have GD : FnR P w K mg base (L2.CX P w) 1 a.f__law_next spNext := ok_next T
  refine fnr_ok F sc__law_bill (F.binds fun _ _ _ _ _ _ us hl => match us, hl with | [_, _], _ => rfl) (fun vs H Q E h => ?_) (fun cdv A outer s H vs Q E hr h => ?_)
  · obtain ⟨st, L, n, rfl, _⟩ := h
    rfl
  · obtain ⟨st, L, n, rfl, W, hn2, hn8, q⟩ := h
    have hr' := hr.units
    refine ⟨_, (pss_cons (ps_setLc (i := 2) (own := [("_law_seat", 3)]) (g := gName 3) (tt := _) rfl sc__law_bill.nd rfl rfl (sw_true rfl rfl rfl (by decide +kernel)) (pi_range1 (by rfl) T.z_range (pa_cons (pv 1) pa_nil)) (blkOk_by (own := [("_law_seat", 3)]) (N := N__law_bill) (sc := defScope s__law_bill) (by decide +kernel)) (fun _ _ _ _ _ => (pg_name (i := 3) sc__law_bill.nd rfl (by first | exact Or.inl rfl | exact Or.inr rfl))) (fun _ _ _ _ _ => pts_one (pt_cmpA ⟨rfl, rfl, rfl, rfl, rfl, rfl, rfl⟩ passL (pe_glA ⟨rfl, rfl, rfl, rfl, rfl, rfl, rfl⟩ passL (by rfl) (pa_cons (pv 0) (pa_cons (pe_int) pa_nil))) (pe_int) (nomark _))) (fun _ _ _ _ _ => (pv 3)))
    (pss_cons (ps_set (i := 2) sc__law_bill.nd rfl (Or.inl rfl) (pe_ifExp (pt_cmpA Like.refl pas_main (pv 2) (pe_lst pa_nil) (nomark _)) (pv 2) (pe_lst (pa_cons (pe_glA Like.refl pas_main (by rfl) (pa_cons (pv 0) (pa_cons (pv 1) pa_nil))) pa_nil))))
    (pss_one (ps_ret (pe_tup (pa_cons (pe_ixA Like.refl pas_main (pe_lst (pa_cons (pe_glA Like.refl pas_main (by rfl) (pa_cons (pv 0) (pa_cons (pe_int) pa_nil))) (pa_cons (pe_glA Like.refl pas_main (by rfl) (pa_cons (pv 0) (pa_cons (pe_opA Like.refl pas_main (pe_int) (pe_int)) pa_nil))) (pa_cons (pe_opA Like.refl pas_main (pe_opA Like.refl pas_main (pe_int) (pe_int)) (pe_glA Like.refl pas_main (by rfl) (pa_cons (pv 0) (pa_cons (pe_int) pa_nil)))) pa_nil)))) (pe_glA Like.refl pas_main (by rfl) (pa_cons (pv 0) (pa_cons (pe_int) pa_nil)))) (pa_cons (pe_tyA (T := "tuple") Like.refl pas_main (by rfl) (by decide +kernel) (pa_cons (pv 2) pa_nil)) pa_nil))))))), ?_⟩
    walk_at "go"
    refine c_rngI (n := n) (S2 st L) (fun i o H2 => WSt st L H2 ∧ ∃ ss : List Int, o = ss.map V.int ∧ asc 0 ss = true ∧ (∀ s ∈ ss, s < (i : Int)) ∧ ss.length ≤ i) (by omega) W.ok (fun D hD => ⟨W.upd (W.out hD), [], rfl, rfl, by simp, Nat.zero_le _⟩) (fun i o H2 hi pv => ?_)
      (fun i o H2 D l l' hD hd pv => ⟨pv.1.upd (W.out hD), pv.2⟩) (fun _ => rfl) (fun i H2 o hi s2 pv => ?_) (fun p2 o H2 hp2 s2 pv hL => ?_) (fun R k => ?_)
    · obtain ⟨_, ss, rfl, _, _, hl⟩ := pv
      rw [List.length_map]
      omega
    · obtain ⟨W2, ss, rfl, ha, hlt, hl⟩ := pv
      intro K1 K0 k1 k0
      walk_at "go"
      refine s_fn GD hr ⟨st, L, 3, rfl, W2, by decide, by decide, fun v H3 v0 v1 sb3 W3 => ?_⟩
      walk_at "go"
      refine ite_d (fun _ => ?_) (fun _ => ?_)
      · walk_at "go"
        exact k1 _ H3 sb3 ⟨W3, ss ++ [(i : Int)], by rw [List.map_append]; rfl, asc_snoc ha hlt (by omega) (by omega), fun s hs => by
          rcases List.mem_append.1 hs with hs | hs
          · have := hlt s hs; omega
          · rw [List.mem_singleton.1 hs]; omega, by rw [List.length_append]; simp; exact hl⟩
      · exact k0 H3 sb3 ⟨W3, ss, rfl, ha, fun s hs => by have := hlt s hs; omega, by omega⟩
    · obtain ⟨W2, ss, rfl, ha, hlt, hl⟩ := pv
      have hp2n : ¬ S2 st L p2 := W.out hp2
      with_reducible refine' w_name ?_
      dsimp only [List.set]
      with_reducible refine' w_seq ?_
      with_reducible refine' w_asg ?_
      refine w_ifJ (fun v H' => ∃ (p : Addr) (ss2 : List Int), v = .ref p ∧ SameB (S2 st L) H H' ∧ WSt st L H' ∧ H' p = some (.lst (ss2.map V.int)) ∧ ¬ S2 st L p ∧ asc 0 ss2 = true ∧ (∀ s ∈ ss2, s < (n : Int)) ∧ ss2 ≠ []) (fun R hR => ?_) (fun v H5 ⟨p, ss2, ev, sb5, W5, hp5, hpn, ha2, hlt2, hne2⟩ => ?_)
      · walk_at "go"
        refine ⟨by show 0 ≤ sizeLine; decide, fun t0 ht0 => ?_⟩
        walk_at "go"
        have sq0 := same_new (o := .lst []) ht0
        refine s_neLsts hr' (ds := []) (SqL.of (sq0 _ _ hL)) (SqL.of upd_same) ?_
        have sb4 : SameB (S2 st L) H (upd H2 t0 (.lst [])) := s2.trans (Same.b sq0)
        have W4 := W2.same sq0
        have hp4 := sq0 _ _ hL
        generalize upd H2 t0 (.lst []) = H4 at *
        walk_at "go"
        refine ite_n (fun hne => ?_) (fun _ => ?_)
        · walk_at "go"
          exact hR _ _ ⟨p2, ss, rfl, sb4, W4, hp4, hp2n, ha, hlt, hne⟩
        · walk_at "go"
          refine s_fn GD hr ⟨st, L, n, rfl, W4, by omega, by omega, fun v5 H5 v50 v51 sb5 W5 => ?_⟩
          walk_at "go"
          refine ⟨by show 1 ≤ sizeLine; decide, fun t1 ht1 => ?_⟩
          have sq1 := same_new (o := .lst [.int v5]) ht1
          exact hR _ _ ⟨t1, [v5], rfl, (sb4.trans sb5).trans (Same.b sq1), W5.same sq1, upd_same, W5.out ht1, by simp [asc]; omega, fun s hs => by rw [List.mem_singleton.1 hs]; omega, by simp⟩
      · subst ev
        walk_at "go"
        refine s_fn GD hr ⟨st, L, 30, rfl, W5, by decide, by decide, fun v6 H6 v60 v61 sb6 W6 => ?_⟩
        walk_at "go"
        refine s_pow ⟨by decide, by decide, by decide⟩ ?_
        refine s_fn GD hr ⟨st, L, _, rfl, W6, by decide, by decide, fun v7 H7 v70 v71 sb7 W7 => ?_⟩
        walk_at "go"
        refine s_pow ⟨by decide, by decide, by decide⟩ ?_
        walk_at "go"
        refine s_fn GD hr ⟨st, L, 30, rfl, W7, by decide, by decide, fun v8 H8 v80 v81 sb8 W8 => ?_⟩
        walk_at "go"
        refine ⟨by show 3 ≤ sizeLine; decide, fun l3 hl3 => ?_⟩
        have sq3 := same_new (o := .lst [.int v6, .int v7, .int (10 ^ (12 : Int).toNat - v8)]) hl3
        have W9 := W8.same sq3
        walk_at "go"
        refine s_fn GD hr ⟨st, L, 3, rfl, W9, by decide, by decide, fun v9 HA v90 v91 sbA WA => ?_⟩
        have hl3n : ¬ S2 st L l3 := W8.out hl3
        obtain ⟨am, ham, hm0, hm1⟩ : ∃ am : Int, atI [V.int v6, V.int v7, V.int (10 ^ (12 : Int).toNat - v8)] v9 = some (.int am) ∧ 0 ≤ am ∧ am ≤ 10 ^ 12 := by
          have : v9 = 0 ∨ v9 = 1 ∨ v9 = 2 := by omega
          have e12 : (10 : Int) ^ (12 : Int).toNat = 1000000000000 := by decide
          have e6 : (10 : Int) ^ (6 : Int).toNat = 1000000 := by decide
          have e12' : (10 : Int) ^ 12 = 1000000000000 := by decide
          rcases this with e | e | e
          · rw [e]; exact ⟨v6, rfl, v60, by omega⟩
          · rw [e]; exact ⟨v7, rfl, v70, by omega⟩
          · rw [e]; exact ⟨_, rfl, by omega, by omega⟩
        refine s_ixL (SqL.of (sbA _ _ hl3n upd_same)) ham ?_
        walk_at "go"
        have sbAll : SameB (S2 st L) H5 HA := (((sb6.trans sb7).trans sb8).trans (Same.b sq3)).trans sbA
        refine s_tupleL (SqL.of (sbAll _ _ hpn hp5)) fun t ht => ?_
        have sqt := same_new (o := .tup (ss2.map V.int)) ht
        walk_at "go"
        refine ⟨by show 2 ≤ sizeLine; decide, fun r hr0 => ?_⟩
        have sqr := same_new (o := .tup [.int am, .ref t]) hr0
        have ntr : t ≠ r := fun z => by rw [← z, upd_same] at hr0; cases hr0
        refine q r (am, ss2) _ ?_ (((sb5.trans sbAll).trans (Same.b sqt)).trans (Same.b sqr)) ((WA.same sqt).same sqr) ⟨t, upd_same, by rw [upd_ne ntr, upd_same]⟩ ⟨⟨hm0, hm1, ha2, hne2⟩, hlt2⟩
        cases e : H r with
        | none => rfl
        | some o =>
          have n5 : ¬ S2 st L r := fun z => by
            have := (WA.same sqt).ok r z
            exact this hr0
          have := sqt _ _ (sbAll _ _ n5 (sb5 _ _ n5 e))
          rw [this] at hr0
          cases hr0
    · walk_at "go"
      exact k
def spWBills : Sp := fun vs H Q _ => ∃ (st L : Addr) (n most : Nat), vs = [.ref st, .int n, .int most] ∧ WSt st L H ∧ 2 ≤ n ∧ n ≤ 8 ∧ most ≤ 29 ∧
  ∀ p rs rows H', H p = none → SameB (S2 st L) H H' → WSt st L H' → H' p = some (.lst (rs.map V.ref)) → RowsAt H' rs rows → rows.length ≤ most → (∀ b ∈ rows, RowOk n b) → Q (.ref p) H'
theorem ok_wbills (T : Facts K mg a) : FnR P w K mg base (L2.CX P w) 3 a.f__law_bills spWBills := by
  obtain ⟨fd, F⟩ := T.u__law_bills
  have GD : FnR P w K mg base (L2.CX P w) 1 a.f__law_next spNext := ok_next T
  have GB : FnR P w K mg base (L2.CX P w) 2 a.f__law_bill spWBill := ok_wbill T
  refine fnr_ok F sc__law_bills (F.binds fun _ _ _ _ _ _ us hl => match us, hl with | [_, _, _], _ => rfl) (fun vs H Q E h => ?_) (fun cdv A outer s H vs Q E hr h => ?_)
  · obtain ⟨st, L, n, most, rfl, _⟩ := h
    rfl
  · obtain ⟨st, L, n, most, rfl, W, hn2, hn8, hm, q⟩ := h
    refine ⟨_, (pss_one (ps_ret (pe_lc (own := [("_law_k", 3)]) (g := gName 3) (tt := tYes) rfl sc__law_bills.nd (pi_range1 (by rfl) T.z_range (pa_cons (pe_glA Like.refl pas_main (by rfl) (pa_cons (pv 0) (pa_cons (pe_opA Like.refl pas_main (pv 2) (pe_int)) pa_nil))) pa_nil)) (blkOk_by (own := [("_law_k", 3)]) (N := N__law_bills) (sc := defScope s__law_bills) (by decide +kernel)) (fun _ _ _ _ _ => (pg_name (i := 3) sc__law_bills.nd rfl (by first | exact Or.inl rfl | exact Or.inr rfl))) (fun _ _ _ _ _ => pts_nil) (fun _ _ _ _ _ => (pe_glA ⟨rfl, rfl, rfl, rfl, rfl, rfl, rfl⟩ passL (by rfl) (pa_cons (pv 0) (pa_cons (pv 1) pa_nil))))))), ?_⟩
    walk_at "go"
    refine w_lcR ?_
    walk_at "go"
    refine s_fn GD (hr.mono (by decide)) ⟨st, L, _, rfl, W, by omega, by omega, fun v H1 v0 v1 sb1 W1 => ?_⟩
    obtain ⟨k0, rfl⟩ := Int.eq_ofNat_of_zero_le v0
    walk_at "go"
    refine c_rngI (n := k0) (S2 st L) (fun i o H2 => WSt st L H2 ∧ ∃ rs rows, o = rs.map V.ref ∧ RowsAt H2 rs rows ∧ rows.length = i ∧ ∀ b ∈ rows, RowOk n b) (by omega) W1.ok (fun D hD => ⟨W1.upd (W1.out hD), [], [], rfl, ⟨rfl, fun i r b z => by simp at z⟩, rfl, fun b z => by simp at z⟩) (fun i o H2 hi pv => ?_)
      (fun i o H2 D l l' hD hd pv => ?_) (fun _ => rfl) (fun i H2 o hi s2 pv => ?_) (fun p2 o H2 hp2 s2 pv hL => ?_) (fun R k => k)
    · obtain ⟨_, rs, rows, rfl, hrw, hl, _⟩ := pv
      rw [List.length_map, hrw.1]
      omega
    · obtain ⟨W2, rs, rows, rfl, hrw, hl, hok⟩ := pv
      exact ⟨W2.upd (W1.out hD), rs, rows, rfl, hrw.keep fun q xs e => by rw [upd_ne (fun z => by rw [z, hd] at e; cases e)]; exact e, hl, hok⟩
    · obtain ⟨W2, rs, rows, rfl, hrw, hl, hok⟩ := pv
      refine turnI_map fun R hR => ?_
      walk_at "go"
      refine s_fn GB hr ⟨st, L, n, rfl, W2, hn2, hn8, fun r b H3 hr0 sb3 W3 hb ok => ?_⟩
      refine hR _ _ sb3 ⟨W3, rs ++ [r], rows ++ [b], by rw [List.map_append]; rfl, (hrw.keep fun q xs e => W2.keepT sb3 e).snoc hb, by rw [List.length_append, hl]; rfl, fun c hc => ?_⟩
      rcases List.mem_append.1 hc with hc | hc
      · exact hok c hc
      · rw [List.mem_singleton.1 hc]; exact ok
    · obtain ⟨W2, rs, rows, rfl, hrw, hl, hok⟩ := pv
      refine q p2 rs rows H2 ?_ (sb1.trans s2) W2 hL hrw (by omega) hok
      cases e : H p2 with
      | none => rfl
      | some o =>
        have := sb1 _ _ (W1.out hp2) e
        rw [this] at hp2
        cases hp2
end

end Odd

namespace Odd
open PySem PySem.Spec PyProof.Rows L2
/-! tactics of this text: st one step, go as many as go -/
local macro_rules | `(tactic| walk_at "ar") => `(tactic| first | assumption | omega | (show (_ : Int) < _; omega) | decide)
local macro_rules | `(tactic| walk_at "st") => `(tactic| first
  | with_reducible refine' w_seq ?_
  | with_reducible refine' w_asg ?_
  | with_reducible refine' w_name ?_
  | with_reducible refine' w_c ?_
  | with_reducible refine' w_op ?_
  | with_reducible refine' w_ix ?_
  | with_reducible refine' w_at ?_
  | with_reducible refine' w_cons ?_
  | with_reducible refine' w_nil ?_
  | with_reducible refine' w_ret ?_
  | with_reducible refine' w_if ?_
  | with_reducible refine' w_test ?_
  | with_reducible refine' w_tr ?_
  | with_reducible refine' w_un ?_
  | with_reducible refine' w_andV ?_
  | with_reducible refine' w_orV ?_
  | with_reducible refine' w_notA ?_
  | with_reducible refine' w_ch ?_
  | with_reducible refine' w_and ?_
  | with_reducible refine' w_or ?_
  | with_reducible refine' w_not ?_
  | with_reducible refine' w_ifx ?_
  | with_reducible refine' w_tup ?_
  | with_reducible refine' w_lst ?_
  | with_reducible refine' w_next ?_
  | with_reducible refine' w_drop ?_
  | with_reducible refine' w_retN ?_
  | ((with_reducible refine' w_var ?h ?_); (case h => exact rfl))
  | ((with_reducible refine' w_bi ?h ?_); (case h => walk_at "mg"))
  | ((with_reducible refine' w_bv ?h ?_); (case h => walk_at "mg"))
  | ((with_reducible refine' w_gv ?h ?_); (case h => walk_at "mg"))
  | ((with_reducible refine' w_gl ?h ?k ?_); (case h => walk_at "mg"); (case k => walk_at "kp"))
  | ((with_reducible refine' w_glS ?h ?k ?_); (case h => walk_at "mg"); (case k => walk_at "kp"))
  | with_reducible refine' bl_ex ?_
  | with_reducible refine' iteT ?_
  | with_reducible refine' iteF ?_
  | with_reducible refine' ite_nf ?_
  | with_reducible refine' ite_nt ?_
  | with_reducible refine' s_add ?_
  | with_reducible refine' s_sub ?_
  | with_reducible refine' s_lt ?_
  | with_reducible refine' s_le ?_
  | with_reducible refine' s_gt ?_
  | with_reducible refine' s_ge ?_
  | with_reducible refine' s_eqI ?_
  | with_reducible refine' s_neI ?_
  | with_reducible refine' s_eqB ?_
  | with_reducible refine' s_neB ?_
  | with_reducible refine' s_truB ?_
  | with_reducible refine' s_truI ?_
  | with_reducible refine' s_neg ?_
  | ((with_reducible refine' s_mod ?h ?_); (case h => walk_at "ar")))
local macro_rules | `(tactic| walk_at "go") => `(tactic| repeat walk_at "st")

local macro_rules | `(tactic| walk_at "mg") => `(tactic| first | assumption | exact Facts.z_TypeError (by assumption) | exact Facts.z_bool (by assumption) | exact Facts.z_classmethod (by assumption) | exact Facts.z_dict (by assumption) | exact Facts.z_divmod (by assumption) | exact Facts.z_enumerate (by assumption) | exact Facts.z_int (by assumption) | exact Facts.z_isinstance (by assumption) | exact Facts.z_len (by assumption) | exact Facts.z_list (by assumption) | exact Facts.z_max (by assumption) | exact Facts.z_min (by assumption) | exact Facts.z_property (by assumption) | exact Facts.z_range (by assumption) | exact Facts.z_sorted (by assumption) | exact Facts.z_str (by assumption) | exact Facts.z_sum (by assumption) | exact Facts.z_super (by assumption) | exact Facts.z_tuple (by assumption) | exact Facts.z_zip (by assumption) | exact Facts.g__wall (by assumption) | exact Facts.g_is_between (by assumption) | exact Facts.g_is_digits (by assumption) | exact Facts.g_seats_of (by assumption) | exact Facts.g_check_amount (by assumption) | exact Facts.g_check_seats (by assumption) | exact Facts.g_check_seat_count (by assumption) | exact Facts.g_check_bills (by assumption) | exact Facts.g_check_mark (by assumption) | exact Facts.g_no_shares (by assumption) | exact Facts.g_seats_behind (by assumption) | exact Facts.g_split_bill (by assumption) | exact Facts.g_title_line (by assumption) | exact Facts.g_line_of (by assumption) | exact Facts.g_seat_line (by assumption) | exact Facts.g_receipt (by assumption) | exact Facts.g_cents_of_line (by assumption) | exact Facts.g_mark_of_line (by assumption) | exact Facts.g_parse_receipt (by assumption) | exact Facts.g_amount_bytes (by assumption) | exact Facts.g_checksum (by assumption) | exact Facts.g_encode_evening (by assumption) | exact Facts.g_byte_at (by assumption) | exact Facts.g_amount_at (by assumption) | exact Facts.g_decode_evening (by assumption) | exact Facts.g_row_of (by assumption) | exact Facts.g_format_evening (by assumption) | exact Facts.g_is_number (by assumption) | exact Facts.g_check_row (by assumption) | exact Facts.g_numbers_of_row (by assumption) | exact Facts.g_parse_evening (by assumption) | exact Facts.g__law_mix (by assumption) | exact Facts.g__law_next (by assumption) | exact Facts.g__law_alike (by assumption) | exact Facts.g__law_bill (by assumption) | exact Facts.g__law_bills (by assumption) | exact Facts.g__law_text (by assumption) | exact Facts.g__law_pay (by assumption) | exact Facts.g__law_paid (by assumption) | exact Facts.g__law_money (by assumption) | exact Facts.g__law_lines (by assumption) | exact Facts.g_law (by assumption) | exact Facts.g_Shares (by assumption) | exact Facts.g_Bill (by assumption) | exact Facts.g_Evening (by assumption))
local macro_rules | `(tactic| walk_at "kp") => `(tactic| first | assumption | exact (Facts.mk_Shares (by assumption)).kp | exact (Facts.mk_Bill (by assumption)).kp | exact (Facts.mk_Evening (by assumption)).kp | exact Fun.kp (Facts.u__wall (by assumption)).choose_spec | exact Fun.kp (Facts.u_is_between (by assumption)).choose_spec | exact Fun.kp (Facts.u_is_digits (by assumption)).choose_spec | exact Fun.kp (Facts.u_seats_of (by assumption)).choose_spec | exact Fun.kp (Facts.u_check_amount (by assumption)).choose_spec | exact Fun.kp (Facts.u_check_seats (by assumption)).choose_spec | exact Fun.kp (Facts.u_check_seat_count (by assumption)).choose_spec | exact Fun.kp (Facts.u_check_bills (by assumption)).choose_spec | exact Fun.kp (Facts.u_check_mark (by assumption)).choose_spec | exact Fun.kp (Facts.u_no_shares (by assumption)).choose_spec | exact Fun.kp (Facts.u_seats_behind (by assumption)).choose_spec | exact Fun.kp (Facts.u_split_bill (by assumption)).choose_spec | exact Fun.kp (Facts.u_title_line (by assumption)).choose_spec | exact Fun.kp (Facts.u_line_of (by assumption)).choose_spec | exact Fun.kp (Facts.u_seat_line (by assumption)).choose_spec | exact Fun.kp (Facts.u_receipt (by assumption)).choose_spec | exact Fun.kp (Facts.u_cents_of_line (by assumption)).choose_spec | exact Fun.kp (Facts.u_mark_of_line (by assumption)).choose_spec | exact Fun.kp (Facts.u_parse_receipt (by assumption)).choose_spec | exact Fun.kp (Facts.u_amount_bytes (by assumption)).choose_spec | exact Fun.kp (Facts.u_checksum (by assumption)).choose_spec | exact Fun.kp (Facts.u_encode_evening (by assumption)).choose_spec | exact Fun.kp (Facts.u_byte_at (by assumption)).choose_spec | exact Fun.kp (Facts.u_amount_at (by assumption)).choose_spec | exact Fun.kp (Facts.u_decode_evening (by assumption)).choose_spec | exact Fun.kp (Facts.u_row_of (by assumption)).choose_spec | exact Fun.kp (Facts.u_format_evening (by assumption)).choose_spec | exact Fun.kp (Facts.u_is_number (by assumption)).choose_spec | exact Fun.kp (Facts.u_check_row (by assumption)).choose_spec | exact Fun.kp (Facts.u_numbers_of_row (by assumption)).choose_spec | exact Fun.kp (Facts.u_parse_evening (by assumption)).choose_spec | exact Fun.kp (Facts.u__law_mix (by assumption)).choose_spec | exact Fun.kp (Facts.u__law_next (by assumption)).choose_spec | exact Fun.kp (Facts.u__law_alike (by assumption)).choose_spec | exact Fun.kp (Facts.u__law_bill (by assumption)).choose_spec | exact Fun.kp (Facts.u__law_bills (by assumption)).choose_spec | exact Fun.kp (Facts.u__law_text (by assumption)).choose_spec | exact Fun.kp (Facts.u__law_pay (by assumption)).choose_spec | exact Fun.kp (Facts.u__law_paid (by assumption)).choose_spec | exact Fun.kp (Facts.u__law_money (by assumption)).choose_spec | exact Fun.kp (Facts.u__law_lines (by assumption)).choose_spec | exact Fun.kp (Facts.u_law (by assumption)).choose_spec)
/-! ### the text of an evening -/
section
variable {P : Program} {w : World} {K : PySem.W.Frag} {mg : Str → Option Value} {base : Heap} {a : Ad}
theorem row_nums {n : Nat} {b : Int × List Int} (h : RowOk n b) : Nums (b.1 :: b.2) := fun i hi => by
  rcases List.mem_cons.1 hi with e | e
  · rw [e]
    have := h.1.1
    have := h.1.2.1
    have e2 : (10 : Int) ^ 12 = 1000000000000 := by decide
    have e3 : (10 : Int) ^ 13 = 10000000000000 := by decide
    omega
  · have := asc_ge h.1.2.2.1 i e
    have e3 : (10 : Int) ^ 13 = 10000000000000 := by decide
    omega
theorem row_len {n : Nat} {b : Int × List Int} (h : RowOk n b) : (b.1 :: b.2).length ≤ 9 := by
  have := ok_len h.1
  simp
  omega
theorem one_nums {n : Nat} (h : n ≤ 8) : Nums [(n : Int)] := fun i hi => by
  rw [List.mem_singleton.1 hi]
  have e3 : (10 : Int) ^ 13 = 10000000000000 := by decide
  omega
theorem ev_rows_len {n : Nat} {bs : List (Int × List Int)} (h8 : n ≤ 8) (h : ∀ b ∈ bs, RowOk n b) : ∀ x ∈ evRows n bs, x.length ≤ 140 := fun x hx => by
  rcases List.mem_cons.1 hx with e | e
  · rw [e]; exact rowS_len first_table (one_nums h8) (show 1 ≤ 9 by decide)
  · obtain ⟨b, hb, rfl⟩ := List.mem_map.1 e
    exact rowS_len first_bill (row_nums (h b hb)) (row_len (h b hb))
theorem ev_rows_sum {n : Nat} {bs : List (Int × List Int)} (h8 : n ≤ 8) (h : ∀ b ∈ bs, RowOk n b) (hl : bs.length ≤ 30) : ((evRows n bs).map (·.length)).sum + (evRows n bs).length * ("\n" : Str).length ≤ 5000 := by
  have h1 := sum_le_of (fun x : Str => x.length) 140 (evRows n bs) (ev_rows_len h8 h)
  have h2 : (evRows n bs).length ≤ 31 := by unfold evRows; rw [List.length_cons, List.length_map]; omega
  have h3 : (evRows n bs).length * 140 ≤ 31 * 140 := Nat.mul_le_mul_right _ h2
  rw [show ("\n" : Str).length = 1 from rfl]
  omega
theorem ev_text_len {n : Nat} {bs : List (Int × List Int)} (h8 : n ≤ 8) (h : ∀ b ∈ bs, RowOk n b) (hl : bs.length ≤ 30) : (evText n bs).length ≤ 5000 := by
  have h1 := ev_rows_sum h8 h hl
  unfold evText
  rw [TL.join_eq, TL.len_tl, TL.tl_join]
  refine Nat.le_trans (joinL_len _ _) ?_
  rw [List.map_map, List.length_map]
  have e : (List.map (List.length ∘ TL.tl) (evRows n bs)) = (evRows n bs).map (·.length) := List.map_congr_left fun x _ => (TL.len_tl x).symm
  rw [e]
  exact h1
theorem ev_split {n : Nat} {bs : List (Int × List Int)} (h8 : n ≤ 8) (h : ∀ b ∈ bs, RowOk n b) : Txt.split (evText n bs) "\n" = evRows n bs := by
  refine TL.split_join tl_nl (by decide +kernel) (by unfold evRows; simp) fun x hx => ?_
  rcases List.mem_cons.1 hx with e | e
  · rw [e]; exact row_free first_table (one_nums h8)
  · obtain ⟨b, hb, rfl⟩ := List.mem_map.1 e
    exact row_free first_bill (row_nums (h b hb))
theorem log_small {i : Int} (h0 : 0 ≤ i) (h : i < 10 ^ 13) : i.natAbs.log2 < 1920 := by
  have e3 : (10 : Int) ^ 13 = 10000000000000 := by decide
  by_cases hz : i.natAbs = 0
  · rw [hz]; decide
  · refine (Nat.log2_lt hz).2 (Nat.lt_of_lt_of_le (show i.natAbs < 2 ^ 64 by omega) (Nat.pow_le_pow_right (by decide) (by decide)))
def spWText : Sp := fun vs H Q _ => ∃ (n : Nat) (p : Addr) (rs : List Addr) (rows : List (Int × List Int)), vs = [.int n, .ref p] ∧ H p = some (.lst (rs.map V.ref)) ∧ RowsAt H rs rows ∧ n ≤ 8 ∧ rows.length ≤ 30 ∧ (∀ b ∈ rows, RowOk n b) ∧ ∀ H', Same H H' → Q (.str (evText n rows)) H'
theorem ok_wtext (T : Facts K mg a) : FnR P w K mg base (L2.CX P w) 1 a.f__law_text spWText := by
  obtain ⟨fd, F⟩ := T.u__law_text
  refine fnr_ok F sc__law_text (F.binds fun _ _ _ _ _ _ us hl => match us, hl with | [_, _], _ => rfl) (fun vs H Q E h => ?_) (fun cdv A outer s H vs Q E hr h => ?_)
  · obtain ⟨n, p, rs, rows, rfl, _⟩ := h
    rfl
  · obtain ⟨n, p, rs, rows, rfl, hp, hrw, h8, hl, hok, q⟩ := h
    have e13 : (10 : Int) ^ 13 = 10000000000000 := by decide
    refine ⟨_, (pss_cons (ps_set (i := 2) sc__law_text.nd rfl (Or.inl rfl) (pe_lst (pa_cons (pe_opA Like.refl pas_main (pe_str) (pe_tyA (T := "str") Like.refl pas_main (by rfl) (by decide +kernel) (pa_cons (pv 0) pa_nil))) pa_nil)))
    (pss_cons (ps_for own_main rfl (pi_seqA Like.refl (pv 1)) (pg_tup rfl (pgs_cons (pg_name (i := 3) sc__law_text.nd rfl (Or.inl rfl)) (pgs_cons (pg_name (i := 4) sc__law_text.nd rfl (Or.inl rfl)) pgs_nil))) (pss_one (ps_expr (pe_bm PySem.F.plainAttrs_list PySem.F.slot_list_append PySem.F.type_list_append mt_append (pv 2) (pa_cons (pe_join (pe_str) (pe_opA Like.refl pas_main (pe_lst (pa_cons (pe_str) (pa_cons (pe_tyA (T := "str") Like.refl pas_main (by rfl) (by decide +kernel) (pa_cons (pv 3) pa_nil)) pa_nil))) (pe_lc (own := [("_law_seat", 5)]) (g := gName 5) (tt := tYes) rfl sc__law_text.nd (pi_seqA Like.refl (pv 4)) (blkOk_by (own := [("_law_seat", 5)]) (N := N__law_text) (sc := defScope s__law_text) (by decide +kernel)) (fun _ _ _ _ _ => (pg_name (i := 5) sc__law_text.nd rfl (by first | exact Or.inl rfl | exact Or.inr rfl))) (fun _ _ _ _ _ => pts_nil) (fun _ _ _ _ _ => (pe_tyA (T := "str") ⟨rfl, rfl, rfl, rfl, rfl, rfl, rfl⟩ passL (by rfl) (by decide +kernel) (pa_cons (pv 5) pa_nil)))))) pa_nil)))))
    (pss_one (ps_ret (pe_join (pe_str) (pv 2)))))), ?_⟩
    walk_at "go"
    refine s_strI (log_small (by omega) (by omega)) ?_
    walk_at "go"
    show ∃ r, OpD _ E (binaryOp .Add) r ∧ r (.str "table ") (.str (numS (n : Nat))) _ _
    refine s_catS (Nat.le_trans (show ("table " : Str).length + (numS (n : Nat)).length ≤ 100 by have := (numS_len (i := (n : Int)) (by omega) (by omega)).1; rw [show ("table " : Str).length = 6 from rfl]; omega) (by decide)) ?_
    rw [table_row]
    walk_at "go"
    refine ⟨by show 1 ≤ sizeLine; decide, fun l hl0 => ?_⟩
    have s0 := same_new (o := .lst [.str (rowS "table" [(n : Int)])]) hl0
    walk_at "go"
    refine f_lst (a := p) (xs := rs.map V.ref) (fun k σ H' => Same H H' ∧ ∃ x3 x4 x5, σ = [some (.int n), some (.ref p), some (.ref l), x3, x4, x5] ∧ H' l = some (.lst ((evRows n (rows.take k)).map V.str))) (fun R k => by walk_at "go"; exact k)
      ⟨s0, none, none, none, rfl, by rw [upd_same]; rfl⟩ (fun k σ H' _ p' => SqL.of (p'.1 _ _ hp)) (fun k x σ H' hx pv => ?_) (fun σ H' pv => ?_)
    · obtain ⟨s1, x3, x4, x5, rfl, hL⟩ := pv
      rw [List.getElem?_map] at hx
      cases e : rs[k]? with
      | none => rw [e] at hx; cases hx
      | some r =>
        rw [e] at hx
        cases hx
        obtain ⟨hk, _⟩ := List.getElem?_eq_some_iff.1 e
        have hk2 : k < rows.length := by have := hrw.1; omega
        obtain ⟨b, eb⟩ : ∃ b, rows[k]? = some b := ⟨_, List.getElem?_eq_getElem hk2⟩
        have hb := hok b (List.mem_of_getElem? eb)
        obtain ⟨t, h1, h2⟩ := hrw.2 k r b e eb
        have nn := row_nums hb
        have n1 := nn b.1 (List.mem_cons_self ..)
        refine g_pair (SqT.of (s1 _ _ h1)) ?_
        dsimp only [List.set]
        walk_at "go"
        refine w_bm ?_
        walk_at "go"
        refine ⟨.inl ⟨rfl, _, SqL.of hL⟩, ?_⟩
        walk_at "go"
        refine w_m1 ?_
        walk_at "go"
        refine ⟨⟨_, rfl⟩, ?_⟩
        walk_at "go"
        refine s_strI (log_small n1.1 n1.2) ?_
        walk_at "go"
        refine ⟨by show 2 ≤ sizeLine; decide, fun l1 hl1 => ?_⟩
        have s2 := same_new (o := .lst [.str "bill", .str (numS b.1)]) hl1
        walk_at "go"
        refine c_tup (a := t) (xs := b.2.map V.int) (fun i => (b.2.take i).map fun z => V.str (numS z)) rfl (fun i hi => ?_) (SqT.of (s2 _ _ (s1 _ _ h2))) (fun _ => rfl) (fun i x H' hx s3 => ?_) (fun p3 H3 hp3 s3 h3 => ?_) (fun R k => ?_)
        · rw [List.length_map, List.length_take]
          have := ok_len hb.1
          omega
        · rw [List.getElem?_map] at hx
          cases e4 : b.2[i]? with
          | none => rw [e4] at hx; cases hx
          | some z =>
            rw [e4] at hx
            cases hx
            have nz := nn z (List.mem_cons_of_mem _ (List.mem_of_getElem? e4))
            show Turn1 _ _ _ _ _ ((b.2.take (i + 1)).map fun z => V.str (numS z))
            rw [List.take_add_one, e4, List.map_append]
            refine turn1_map fun R hR => ?_
            walk_at "go"
            refine s_strI (log_small nz.1 nz.2) ?_
            exact hR _ (Same.refl _)
        · rw [List.length_map, List.take_of_length_le (Nat.le_refl _)] at h3
          refine s_cat (s3 _ _ upd_same) h3 (by rw [List.length_map]; have := ok_len hb.1; exact Nat.le_trans (show 2 + b.2.length ≤ 10 by omega) (by decide)) fun l4 hl4 => ?_
          have e5 : ([V.str "bill", V.str (numS b.1)] ++ b.2.map fun z => V.str (numS z)) = (rowW "bill" (b.1 :: b.2)).map V.str := by
            unfold rowW
            rw [List.map_cons, List.map_cons, List.map_cons, List.map_map]
            rfl
          rw [e5]
          have sum := rowW_sum first_bill nn (row_len hb)
          refine ⟨" ", l4, rowW "bill" (b.1 :: b.2), rfl, rfl, .inl (SqL.of upd_same), Nat.le_trans sum (by decide), ?_⟩
          have s5 := (s2.trans s3).trans (same_new (o := .lst ((rowW "bill" (b.1 :: b.2)).map V.str)) hl4)
          walk_at "go"
          refine ⟨l, _, _, rfl, rfl, s5 _ _ hL, by rw [List.length_map]; unfold evRows; rw [List.length_cons, List.length_map, List.length_take]; exact Nat.lt_of_lt_of_le (show min k rows.length + 1 < 100 by omega) (by decide), ?_⟩
          walk_at "go"
          refine ⟨same_mut (s1.trans s5) hl0, _, _, _, rfl, ?_⟩
          rw [upd_same, List.take_add_one, eb]
          unfold evRows
          rw [List.map_append, List.map_cons, List.map_cons, List.map_append]
          rfl
        · walk_at "go"
          exact k
    · obtain ⟨s1, x3, x4, x5, rfl, hL⟩ := pv
      rw [List.length_map, hrw.1, List.take_of_length_le (Nat.le_refl _)] at hL
      walk_at "go"
      refine w_m1 ?_
      walk_at "go"
      refine ⟨⟨_, rfl⟩, ?_⟩
      walk_at "go"
      exact ⟨"\n", l, evRows n rows, rfl, rfl, .inl (SqL.of hL), Nat.le_trans (ev_rows_sum h8 hok hl) (by decide), q _ s1⟩
end

/-! ### texts of evenings read -/
section
variable {P : Program} {w : World} {K : PySem.W.Frag} {mg : Str → Option Value} {base : Heap} {a : Ad}
def spDig : Sp := fun vs H Q _ => ∃ i : Int, vs = [.str (numS i)] ∧ 0 ≤ i ∧ Q (.bl true) H
theorem ok_is_digits (T : Facts K mg a) : FnR P w K mg base (L2.CX P w) 1 a.f_is_digits spDig := by
  obtain ⟨fd, F⟩ := T.u_is_digits
  refine fnr_ok F sc_is_digits (F.binds fun _ _ _ _ _ _ us hl => match us, hl with | [_], _ => rfl) (fun vs H Q E h => ?_) (fun cdv A outer s H vs Q E hr h => ?_)
  · obtain ⟨i, rfl, _⟩ := h
    rfl
  · obtain ⟨i, rfl, h0, q⟩ := h
    refine ⟨_, (pss_one (ps_ret (pe_and (pe_m0 PySem.F.slot_str_isascii PySem.F.type_str_isascii mt_isascii (pv 0)) (pe_one (pe_m0 PySem.F.slot_str_isdigit PySem.F.type_str_isdigit mt_isdigit (pv 0)))))), ?_⟩
    walk_at "go"
    refine w_m0 ?_
    walk_at "go"
    refine ⟨⟨_, rfl⟩, numS i, rfl, rfl, True.intro, ?_⟩
    rw [numS_ascii h0]
    walk_at "go"
    refine w_m0 ?_
    walk_at "go"
    refine ⟨⟨_, rfl⟩, numS i, rfl, rfl, True.intro, ?_⟩
    rw [numS_digit h0]
    exact q
def spNum : Sp := fun vs H Q _ => ∃ i : Int, vs = [.str (numS i)] ∧ 0 ≤ i ∧ i < 10 ^ 13 ∧ Q (.bl true) H
theorem ok_is_number (T : Facts K mg a) : FnR P w K mg base (L2.CX P w) 2 a.f_is_number spNum := by
  obtain ⟨fd, F⟩ := T.u_is_number
  have GD : FnR P w K mg base (L2.CX P w) 1 a.f_is_digits spDig := ok_is_digits T
  refine fnr_ok F sc_is_number (F.binds fun _ _ _ _ _ _ us hl => match us, hl with | [_], _ => rfl) (fun vs H Q E h => ?_) (fun cdv A outer s H vs Q E hr h => ?_)
  · obtain ⟨i, rfl, _⟩ := h
    rfl
  · obtain ⟨i, rfl, h0, h1, q⟩ := h
    obtain ⟨l1, l2⟩ := numS_len h0 h1
    have hz : (numS i).length ≤ sizeLine := Nat.le_trans l1 (by decide)
    refine ⟨_, (pss_one (ps_ret (pe_and (pe_glA Like.refl pas_main (by rfl) (pa_cons (pv 0) pa_nil)) (pe_and (pe_cmpA Like.refl pas_main (pe_biA (id := "len") Like.refl pas_main (by rfl) (by decide +kernel) (pa_cons (pv 0) pa_nil)) (pe_gvI Like.refl (by rfl)) (nomark _)) (pe_one (pe_or (pe_cmpA Like.refl pas_main (pv 0) (pe_str) (nomark _)) (pe_one (pe_cmpA Like.refl pas_main (pe_ixA Like.refl pas_main (pv 0) (pe_int)) (pe_str) (nomark _))))))))), ?_⟩
    walk_at "go"
    refine s_fn GD hr ⟨i, rfl, h0, ?_⟩
    walk_at "go"
    refine s_lenStr hz ?_
    walk_at "go"
    refine w_gvI T.i_MAX_DIGITS.choose_spec ?_
    walk_at "go"
    rw [decide_eq_true (show ((numS i).length : Int) ≤ 13 by omega)]
    walk_at "go"
    refine s_eqS ?_
    walk_at "go"
    by_cases hi : i = 0
    · rw [decide_eq_true (show numS i = "0" by rw [hi]; exact numS_zero)]
      walk_at "go"
      exact q
    · obtain ⟨c, r, e, hc⟩ := numL_head i.toNat (by omega)
      have et : TL.tl (numS i) = c :: r := by rw [tl_numS h0, e]
      have hne : numS i ≠ "0" := fun z => by
        rw [z, show TL.tl "0" = [48] from rfl] at et
        injection et with e1 e2
        exact hc e1.symm
      rw [decide_eq_false hne]
      walk_at "go"
      refine s_ixStr (c := c) hz (by rw [show (numS i).cps.toList = c :: r from et]; unfold atI; rw [ixN_of (by decide) (by rw [List.length_cons]; omega)]; rfl) ?_
      walk_at "go"
      refine s_neS ?_
      rw [decide_eq_false (fun z => by
        have := congrArg TL.tl z
        rw [show TL.tl (⟨#[c]⟩ : Str) = [c] from rfl, show TL.tl "0" = [48] from rfl] at this
        injection this with e1 _
        exact hc e1)]
      exact q
/-- which first word, and how many numbers, a row has -/
def RowK (k : Nat) (f : Str) (ns : List Int) : Prop := Nums ns ∧ FirstW f ∧ ns.length ≤ 9 ∧ ((k = 0 ∧ f = "table" ∧ ns.length = 1) ∨ (0 < k ∧ f = "bill" ∧ 2 ≤ ns.length))
def spCkRow (K : PySem.W.Frag) : Sp := fun vs H Q _ => ∃ (k : Nat) (l : Addr) (f : Str) (ns : List Int), vs = [.int k, .ref l] ∧ SqL K H l ((rowW f ns).map V.str) ∧ RowK k f ns ∧ ∀ H', Same H H' → Q .non H'
theorem ok_check_row (T : Facts K mg a) : FnR P w K mg base (L2.CX P w) 3 a.f_check_row (spCkRow K) := by
  obtain ⟨fd, F⟩ := T.u_check_row
  have GN : FnR P w K mg base (L2.CX P w) 2 a.f_is_number spNum := ok_is_number T
  refine fnr_ok F sc_check_row (F.binds fun _ _ _ _ _ _ us hl => match us, hl with | [_, _], _ => rfl) (fun vs H Q E h => ?_) (fun cdv A outer s H vs Q E hr h => ?_)
  · obtain ⟨k, l, f, ns, rfl, _⟩ := h
    rfl
  · obtain ⟨k, l, f, ns, rfl, hL, ⟨hn, hf, hl9, hk⟩, q⟩ := h
    have hlen : (rowW f ns).length = ns.length + 1 := by unfold rowW; rw [List.length_cons, List.length_map]
    refine ⟨_, (pss_cons (ps_asg (pe_ifExp (pt_cmpA Like.refl pas_main (pv 0) (pe_int) (nomark _)) (pe_tup (pa_cons (pe_str) (pa_cons (pe_int) (pa_cons (pe_int) pa_nil)))) (pe_tup (pa_cons (pe_str) (pa_cons (pe_int) (pa_cons (pe_biA (id := "len") Like.refl pas_main (by rfl) (by decide +kernel) (pa_cons (pv 1) pa_nil)) pa_nil))))) (pg_tup rfl (pgs_cons (pg_name (i := 2) sc_check_row.nd rfl (Or.inl rfl)) (pgs_cons (pg_name (i := 3) sc_check_row.nd rfl (Or.inl rfl)) (pgs_cons (pg_name (i := 4) sc_check_row.nd rfl (Or.inl rfl)) pgs_nil)))))
    (pss_cons (ps_for own_main rfl (pi_enumA (by rfl) T.z_enumerate (pa_cons (pv 1) pa_nil)) (pg_tup rfl (pgs_cons (pg_name (i := 5) sc_check_row.nd rfl (Or.inl rfl)) (pgs_cons (pg_name (i := 6) sc_check_row.nd rfl (Or.inl rfl)) pgs_nil))) (pss_cons (ps_set (i := 7) sc_check_row.nd rfl (Or.inl rfl) (pe_ifExp (pt_cmpA Like.refl pas_main (pv 5) (pe_int) (nomark _)) (pe_cmpA Like.refl pas_main (pv 6) (pv 2) (nomark _)) (pe_and (pe_glA Like.refl pas_main (by rfl) (pa_cons (pv 6) pa_nil)) (pe_one (pe_cmpA Like.refl pas_main (pv 5) (pv 4) (nomark _))))))
    (pss_one (ps_if (pt_not (pt_trA Like.refl pas_main (pv 7))) (pss_one (ps_never)) pss_nil))))
    (pss_one (ps_if (pt_cmpA Like.refl pas_main (pe_biA (id := "len") Like.refl pas_main (by rfl) (by decide +kernel) (pa_cons (pv 1) pa_nil)) (pv 3) (nomark _)) (pss_one (ps_never)) pss_nil)))), ?_⟩
    with_reducible refine' w_seq ?_
    with_reducible refine' w_asg ?_
    refine w_ifJ (fun v H' => ∃ (t : Addr) (fw mo : Int), v = .ref t ∧ Same H H' ∧ H' t = some (.tup [.str f, .int fw, .int mo]) ∧ fw ≤ (ns.length : Int) + 1 ∧ (ns.length : Int) + 1 ≤ mo) (fun R hR => ?_) (fun v H1 ⟨t, fw, mo, ev, s1, ht, h1, h2⟩ => ?_)
    · walk_at "go"
      rcases hk with ⟨rfl, rfl, e⟩ | ⟨h0, rfl, e⟩
      · rw [decide_eq_true (by rfl)]
        walk_at "go"
        refine ⟨by show 3 ≤ sizeLine; decide, fun t ht => ?_⟩
        exact hR _ _ ⟨t, 2, 2, rfl, same_new ht, upd_same, by omega, by omega⟩
      · rw [decide_eq_false (by omega)]
        walk_at "go"
        refine s_lenL hL ?_
        walk_at "go"
        refine ⟨by show 3 ≤ sizeLine; decide, fun t ht => ?_⟩
        refine hR _ _ ⟨t, 3, _, rfl, same_new ht, upd_same, by omega, by rw [List.length_map, hlen]; omega⟩
    · subst ev
      refine g_trip (SqT.of ht) ?_
      dsimp only [List.set]
      walk_at "go"
      refine f_enumL (a := l) (xs := (rowW f ns).map V.str) (fun i σ H' => Same H H' ∧ ∃ x5 x6 x7, σ = [some (.int k), some (.ref l), some (.str f), some (.int fw), some (.int mo), x5, x6, x7]) (fun R k => by walk_at "go"; exact k) ⟨s1, none, none, none, rfl⟩ (fun i σ H' _ p => p.1.seq hL) (fun i x σ H' T2 hx pv hT => ?_) (fun σ H' pv => ?_)
      · obtain ⟨s2, x5, x6, x7, rfl⟩ := pv
        have s3 := s2.trans (same_new (o := .tup [.int (i : Nat), x]) hT)
        rw [List.getElem?_map] at hx
        cases e : (rowW f ns)[i]? with
        | none => rw [e] at hx; cases hx
        | some z =>
          rw [e] at hx
          cases hx
          obtain ⟨hi, _⟩ := List.getElem?_eq_some_iff.1 e
          rw [hlen] at hi
          dsimp only [List.set]
          walk_at "go"
          cases i with
          | zero =>
            obtain rfl : f = z := by unfold rowW at e; simpa using e
            rw [decide_eq_true (by rfl)]
            walk_at "go"
            refine s_eqS ?_
            rw [decide_eq_true rfl]
            walk_at "go"
            exact ⟨s3, _, _, _, rfl⟩
          | succ j =>
            have e' : ns[j]? = ns[j]? := rfl
            unfold rowW at e
            rw [List.getElem?_cons_succ, List.getElem?_map] at e
            cases ej : ns[j]? with
            | none => rw [ej] at e; cases e
            | some y =>
              rw [ej] at e
              cases e
              have ny := hn y (List.mem_of_getElem? ej)
              rw [decide_eq_false (by omega)]
              walk_at "go"
              refine s_fn GN hr ⟨y, rfl, ny.1, ny.2, ?_⟩
              walk_at "go"
              rw [decide_eq_true (by omega)]
              walk_at "go"
              exact ⟨s3, _, _, _, rfl⟩
      · obtain ⟨s2, x5, x6, x7, rfl⟩ := pv
        walk_at "go"
        refine s_lenL (s2.seq hL) ?_
        rw [List.length_map, hlen]
        walk_at "go"
        rw [decide_eq_false (by omega)]
        walk_at "go"
        exact q _ s2
def spNums : Sp := fun vs H Q _ => ∃ (k : Nat) (f : Str) (ns : List Int), vs = [.int k, .str (rowS f ns)] ∧ RowK k f ns ∧ ∀ p H', H p = none → Same H H' → H' p = some (.lst (ns.map V.int)) → Q (.ref p) H'
theorem ok_numbers (T : Facts K mg a) : FnR P w K mg base (L2.CX P w) 4 a.f_numbers_of_row spNums := by
  obtain ⟨fd, F⟩ := T.u_numbers_of_row
  have GC : FnR P w K mg base (L2.CX P w) 3 a.f_check_row (spCkRow K) := ok_check_row T
  refine fnr_ok F sc_numbers_of_row (F.binds fun _ _ _ _ _ _ us hl => match us, hl with | [_, _], _ => rfl) (fun vs H Q E h => ?_) (fun cdv A outer s H vs Q E hr h => ?_)
  · obtain ⟨k, f, ns, rfl, _⟩ := h
    rfl
  · obtain ⟨k, f, ns, rfl, hk, q⟩ := h
    have hlen : (rowW f ns).length = ns.length + 1 := by unfold rowW; rw [List.length_cons, List.length_map]
    have hl9 := hk.2.2.1
    refine ⟨_, (pss_cons (ps_set (i := 2) sc_numbers_of_row.nd rfl (Or.inl rfl) (pe_m1 PySem.F.slot_str_split PySem.F.type_str_split mt_split (pv 1) (pe_str)))
    (pss_cons (ps_expr (pe_glA Like.refl pas_main (by rfl) (pa_cons (pv 0) (pa_cons (pv 2) pa_nil))))
    (pss_one (ps_ret (pe_lc (own := [("word", 3)]) (g := gName 3) (tt := tYes) rfl sc_numbers_of_row.nd (pi_seqA Like.refl (pe_slice sl_list (pv 2) (po_some (pe_int)) po_none)) (blkOk_by (own := [("word", 3)]) (N := N_numbers_of_row) (sc := defScope s_numbers_of_row) (by decide +kernel)) (fun _ _ _ _ _ => (pg_name (i := 3) sc_numbers_of_row.nd rfl (by first | exact Or.inl rfl | exact Or.inr rfl))) (fun _ _ _ _ _ => pts_nil) (fun _ _ _ _ _ => (pe_tyA (T := "int") ⟨rfl, rfl, rfl, rfl, rfl, rfl, rfl⟩ passL (by rfl) (by decide +kernel) (pa_cons (pv 3) pa_nil)))))))), ?_⟩
    walk_at "go"
    refine w_m1 ?_
    walk_at "go"
    refine ⟨⟨_, rfl⟩, ?_⟩
    walk_at "go"
    refine ⟨rowS f ns, " ", rfl, rfl, rfl, Nat.le_trans (Nat.add_le_add_right (rowS_len hk.2.1 hk.1 hl9) 2) (by decide), fun wd hwd => ?_⟩
    rw [row_split hk.2.1 hk.1]
    have s1 := same_new (o := .lst ((rowW f ns).map V.str)) hwd
    walk_at "go"
    refine s_fn GC hr ⟨k, wd, f, ns, rfl, SqL.of upd_same, hk, fun H2 s2 => ?_⟩
    walk_at "go"
    refine w_lcQ ?_
    refine w_slf ?_
    walk_at "go"
    refine ⟨1, rfl, wd, _, rfl, SqL.of (s2 _ _ upd_same), fun l hl => ?_⟩
    have ec : cutV ((rowW f ns).map V.str) (some 1) none = (ns.map numS).map V.str := by
      have hn1 : 1 ≤ ((rowW f ns).map V.str).length := by rw [List.length_map, hlen]; omega
      unfold cutV
      show (((rowW f ns).map V.str).drop (min 1 ((rowW f ns).map V.str).length)).take (((rowW f ns).map V.str).length - min 1 ((rowW f ns).map V.str).length) = _
      rw [Nat.min_eq_left hn1, List.take_of_length_le (by rw [List.length_drop]; exact Nat.le_refl _)]
      rfl
    rw [ec]
    have s3 := (s1.trans s2).trans (same_new (o := .lst ((ns.map numS).map V.str)) hl)
    refine c_list (a := l) (xs := (ns.map numS).map V.str) (fun i => (ns.take i).map V.int) rfl (fun i hi => ?_) (SqL.of upd_same) (fun _ => rfl) (fun i x H' hx s4 => ?_) (fun p H' hp s4 hL => ?_) (fun R k => k)
    · rw [List.length_map, List.length_take]
      omega
    · rw [List.getElem?_map, List.getElem?_map] at hx
      cases e : ns[i]? with
      | none => rw [e] at hx; cases hx
      | some z =>
        rw [e] at hx
        cases hx
        have nz := hk.1 z (List.mem_of_getElem? e)
        show Turn1 _ _ _ _ _ ((ns.take (i + 1)).map V.int)
        rw [List.take_add_one, e, List.map_append]
        refine turn1_map fun R hR => ?_
        walk_at "go"
        refine s_intS (numS_int nz.1 nz.2) (Nat.le_trans (numS_len nz.1 nz.2).1 (by decide)) ?_
        exact hR _ (Same.refl _)
    · rw [List.length_map, List.length_map, List.take_of_length_le (Nat.le_refl _)] at hL
      exact q p H' (s3.free hp) (s3.trans s4) hL
def NumsAt (H : Hp) (ps : List Addr) (nss : List (List Int)) : Prop := ps.length = nss.length ∧ ∀ (i : Nat) p ns, ps[i]? = some p → nss[i]? = some ns → H p = some (.lst (ns.map V.int))
theorem NumsAt.same {H H' : Hp} {ps : List Addr} {nss : List (List Int)} (h : NumsAt H ps nss) (s : Same H H') : NumsAt H' ps nss := ⟨h.1, fun i p ns e1 e2 => s _ _ (h.2 i p ns e1 e2)⟩
theorem NumsAt.snoc {H : Hp} {ps : List Addr} {nss : List (List Int)} {p : Addr} {ns : List Int} (h : NumsAt H ps nss) (h' : H p = some (.lst (ns.map V.int))) : NumsAt H (ps ++ [p]) (nss ++ [ns]) := by
  refine ⟨by simp [h.1], fun i q c e1 e2 => ?_⟩
  by_cases hi : i < ps.length
  · rw [List.getElem?_append_left hi] at e1
    rw [List.getElem?_append_left (by rw [← h.1]; exact hi)] at e2
    exact h.2 i q c e1 e2
  · rw [List.getElem?_append_right (by omega)] at e1
    rw [List.getElem?_append_right (by rw [← h.1]; omega), ← h.1] at e2
    cases z : i - ps.length with
    | zero => rw [z] at e1 e2; cases e1; cases e2; exact h'
    | succ j => rw [z] at e1; simp at e1
/-- the numbers of the rows -/
def evNums (n : Nat) (bs : List (Int × List Int)) : List (List Int) := [(n : Int)] :: bs.map fun b => b.1 :: b.2
theorem evRows_get {n : Nat} {bs : List (Int × List Int)} (h8 : n ≤ 8) (h : ∀ b ∈ bs, RowOk n b) {k : Nat} {z : Str} (e : (evRows n bs)[k]? = some z) : ∃ f ns, z = rowS f ns ∧ RowK k f ns ∧ (evNums n bs)[k]? = some ns := by
  cases k with
  | zero =>
    unfold evRows at e
    cases e
    exact ⟨"table", [(n : Int)], rfl, ⟨one_nums h8, first_table, by simp, .inl ⟨rfl, rfl, rfl⟩⟩, rfl⟩
  | succ k =>
    unfold evRows at e
    rw [List.getElem?_cons_succ, List.getElem?_map] at e
    cases eb : bs[k]? with
    | none => rw [eb] at e; cases e
    | some b =>
      rw [eb] at e
      cases e
      have hb := h b (List.mem_of_getElem? eb)
      refine ⟨"bill", b.1 :: b.2, rfl, ⟨row_nums hb, first_bill, row_len hb, .inr ⟨by omega, rfl, ?_⟩⟩, by unfold evNums; rw [List.getElem?_cons_succ, List.getElem?_map, eb]; rfl⟩
      have := hb.1.2.2.2
      cases e2 : b.2 with
      | nil => exact absurd e2 this
      | cons x r => simp
def spParse (CE CB : Addr) : Sp := fun vs H Q _ => ∃ (n : Nat) (bs : List (Int × List Int)), vs = [.str (evText n bs)] ∧ OkEv n bs ∧ ∀ p H', H p = none → Same H H' → EvAt CE CB H' p n bs → Q (.ref p) H'
theorem ok_parse (T : Facts K mg a) : FnR P w K mg base (L2.CX P w) 6 a.f_parse_evening (spParse a.c_Evening a.c_Bill) := by
  obtain ⟨fd, F⟩ := T.u_parse_evening
  have GN : FnR P w K mg base (L2.CX P w) 4 a.f_numbers_of_row spNums := ok_numbers T
  have GB : FnR P w K mg base (L2.CX P w) 3 a.f_Bill__init_ (InitB a.c_Bill) := ok_bi_init T
  have GI : FnR P w K mg base (L2.CX P w) 4 a.f_Evening__init_ (InitE a.c_Evening a.c_Bill) := ok_ev_init T
  refine fnr_ok F sc_parse_evening (F.binds fun _ _ _ _ _ _ us hl => match us, hl with | [_], _ => rfl) (fun vs H Q E h => ?_) (fun cdv A outer s H vs Q E hr h => ?_)
  · obtain ⟨n, bs, rfl, _⟩ := h
    rfl
  · obtain ⟨n, bs, rfl, ok, q⟩ := h
    have h8 := ok.2.1
    have hl := ok.2.2.1
    have hok := ok.2.2.2
    refine ⟨_, (pss_cons (ps_setLc (i := 1) (own := [("row", 2), ("told", 3)]) (g := gTup K 2 (gCons (gName 2) (gCons (gName 3) gNil))) (tt := tYes) rfl sc_parse_evening.nd rfl rfl (sw_true rfl rfl rfl (by decide +kernel)) (pi_enumA (by rfl) T.z_enumerate (pa_cons (pe_m1 PySem.F.slot_str_split PySem.F.type_str_split mt_split (pv 0) (pe_str)) pa_nil)) (blkOk_by (own := [("row", 2), ("told", 3)]) (N := N_parse_evening) (sc := defScope s_parse_evening) (by decide +kernel)) (fun _ _ _ _ _ => (pg_tup rfl (pgs_cons (pg_name (i := 2) sc_parse_evening.nd rfl (by first | exact Or.inl rfl | exact Or.inr rfl)) (pgs_cons (pg_name (i := 3) sc_parse_evening.nd rfl (by first | exact Or.inl rfl | exact Or.inr rfl)) pgs_nil)))) (fun _ _ _ _ _ => pts_nil) (fun _ _ _ _ _ => (pe_glA ⟨rfl, rfl, rfl, rfl, rfl, rfl, rfl⟩ passL (by rfl) (pa_cons (pv 2) (pa_cons (pv 3) pa_nil)))))
    (pss_cons (ps_set (i := 4) sc_parse_evening.nd rfl (Or.inl rfl) (pe_ixA Like.refl pas_main (pe_ixA Like.refl pas_main (pv 1) (pe_int)) (pe_int)))
    (pss_cons (ps_setLc (i := 5) (own := [("numbers", 6)]) (g := gName 6) (tt := tYes) rfl sc_parse_evening.nd rfl rfl (sw_true rfl rfl rfl (by decide +kernel)) (pi_seqA Like.refl (pe_slice sl_list (pv 1) (po_some (pe_int)) po_none)) (blkOk_by (own := [("numbers", 6)]) (N := N_parse_evening) (sc := defScope s_parse_evening) (by decide +kernel)) (fun _ _ _ _ _ => (pg_name (i := 6) sc_parse_evening.nd rfl (by first | exact Or.inl rfl | exact Or.inr rfl))) (fun _ _ _ _ _ => pts_nil) (fun _ _ _ _ _ => (pe_glS ⟨rfl, rfl, rfl, rfl, rfl, rfl, rfl⟩ passL (by rfl) (pv 6))))
    (pss_one (ps_ret (pe_glS2 Like.refl pas_main (by rfl) (pa_cons (pv 4) (pa_starA Like.refl (pv 5) pa_nil)))))))), ?_⟩
    walk_at "go"
    refine w_lcE ?_
    walk_at "go"
    refine w_m1 ?_
    walk_at "go"
    refine ⟨⟨_, rfl⟩, ?_⟩
    walk_at "go"
    refine ⟨evText n bs, "\n", rfl, rfl, rfl, Nat.le_trans (Nat.add_le_add_right (ev_text_len h8 hok hl) 2) (by decide), fun ls hls => ?_⟩
    rw [ev_split h8 hok]
    have s1 := same_new (o := .lst ((evRows n bs).map V.str)) hls
    walk_at "go"
    have hrl : (evRows n bs).length = bs.length + 1 := by unfold evRows; rw [List.length_cons, List.length_map]
    have hnl : (evNums n bs).length = bs.length + 1 := by unfold evNums; rw [List.length_cons, List.length_map]
    refine c_enumLJ (a := ls) (xs := (evRows n bs).map V.str) (fun _ => False) (fun D k o H' => ∃ ps : List Addr, o = ps.map V.ref ∧ D ∉ ps ∧ NumsAt H' ps ((evNums n bs).take k)) (fun _ z => z.elim) (fun D hD => ⟨[], rfl, by simp, ⟨rfl, fun i p b z => by simp at z⟩⟩) (fun D k o H' hk p => ?_) (fun H' s2 => SqL.of (s2 _ _ id upd_same))
      (fun _ _ => rfl) (fun D k o H' T2 o' hT hd p => ?_) (fun D k x H' o hD hx s2 hd p => ?_) (fun r o H' hr0 s2 p hL => ?_) (fun R k => k)
    · obtain ⟨ps, rfl, _, hb⟩ := p
      rw [List.length_map, hb.1, List.length_take]
      omega
    · obtain ⟨ps, rfl, hn, hb⟩ := p
      exact ⟨ps, rfl, hn, hb.same (same_new hT)⟩
    · rw [List.getElem?_map] at hx
      cases e : (evRows n bs)[k]? with
      | none => rw [e] at hx; cases hx
      | some z =>
        rw [e] at hx
        cases hx
        obtain ⟨ps, rfl, hn, hb⟩ := p
        obtain ⟨f, ns, rfl, rk, en⟩ := evRows_get h8 hok e
        refine turnJ_map fun R hR => ?_
        walk_at "go"
        refine s_fn GN (hr.mono (by decide)) ⟨k, f, ns, rfl, rk, fun p H2 hp s3 h3 => ?_⟩
        have hpD : p ≠ D := fun z => by rw [z, hd] at hp; cases hp
        refine hR _ _ (Same.b s3) ⟨ps ++ [p], by rw [List.map_append]; rfl, fun z => ?_, ?_⟩
        · rcases List.mem_append.1 z with z | z
          · exact hn z
          · exact hpD (List.mem_singleton.1 z).symm
        · rw [List.take_add_one, en]
          have h4 : NumsAt H2 (ps ++ [p]) ((evNums n bs).take k ++ [ns]) := (hb.same s3).snoc h3
          refine ⟨h4.1, fun i q c e1 e2 => ?_⟩
          rw [upd_ne (fun z => ?_)]
          · exact h4.2 i q c e1 e2
          · subst z
            rcases List.mem_append.1 (List.mem_of_getElem? e1) with z | z
            · exact hn z
            · exact hpD (List.mem_singleton.1 z).symm
    · obtain ⟨ps, rfl, hn, hb⟩ := p
      rw [List.length_map, hrl, ← hnl, List.take_of_length_le (Nat.le_refl _)] at hb
      have s2' : Same _ H' := fun b o h => s2 b o id h
      have sH : Same H H' := s1.trans s2'
      have hpl : ps.length = bs.length + 1 := by rw [hb.1, hnl]
      obtain ⟨p0, ep0⟩ : ∃ p0, ps[0]? = some p0 := ⟨_, List.getElem?_eq_getElem (by omega)⟩
      have h0 := hb.2 0 p0 _ ep0 rfl
      walk_at "go"
      refine s_ixL (SqL.of hL) (v := .ref p0) (at_of (j := 0) rfl (by rw [List.getElem?_map, ep0]; rfl)) ?_
      walk_at "go"
      refine s_ixL (SqL.of h0) (v := .int n) rfl ?_
      walk_at "go"
      refine w_lcQ ?_
      refine w_slf ?_
      walk_at "go"
      refine ⟨1, rfl, r, _, rfl, SqL.of hL, fun l hl0 => ?_⟩
      have ec : cutV (ps.map V.ref) (some 1) none = (ps.drop 1).map V.ref := by
        have hn1 : 1 ≤ (ps.map V.ref).length := by rw [List.length_map]; omega
        unfold cutV
        show ((ps.map V.ref).drop (min 1 (ps.map V.ref).length)).take ((ps.map V.ref).length - min 1 (ps.map V.ref).length) = _
        rw [Nat.min_eq_left hn1, List.take_of_length_le (by rw [List.length_drop]; exact Nat.le_refl _), List.map_drop]
      rw [ec]
      have s3 := same_new (o := .lst ((ps.drop 1).map V.ref)) hl0
      have hbs : NumsAt (upd H' l (.lst ((ps.drop 1).map V.ref))) ps (evNums n bs) := hb.same s3
      refine c_listI (fun _ => False) (fun k o H2 => ∃ qs : List Addr, o = qs.map V.ref ∧ BisAt a.c_Bill H2 qs (bs.take k)) (a := l) (xs := (ps.drop 1).map V.ref) (fun _ z => z.elim) (fun D hD => ⟨[], rfl, rfl, fun i p b z => by simp at z⟩) (fun k o H2 hk p => ?_) (fun H2 s4 => SqL.of (s4 _ _ id upd_same))
        (fun k o H2 D l1 l2 _ hd p => ?_) (fun _ => rfl) (fun k x H2 o hx s4 p => ?_) (fun r2 o H2 hr2 s4 p hL2 => ?_) (fun R k => k)
      · obtain ⟨qs, rfl, hq⟩ := p
        rw [List.length_map, hq.1, List.length_take]
        omega
      · obtain ⟨qs, rfl, hq⟩ := p
        refine ⟨qs, rfl, hq.1, fun i p b e1 e2 => ?_⟩
        obtain ⟨dx, u, h1, h2⟩ := hq.2 i p b e1 e2
        exact ⟨dx, u, by rw [upd_ne (ne_of h1 hd (by simp))]; exact h1, by rw [upd_ne (ne_of h2 hd (by simp))]; exact h2⟩
      · rw [List.getElem?_map, List.getElem?_drop] at hx
        cases e : ps[1 + k]? with
        | none => rw [e] at hx; cases hx
        | some z =>
          rw [e] at hx
          cases hx
          obtain ⟨hk, _⟩ := List.getElem?_eq_some_iff.1 e
          obtain ⟨b, eb⟩ : ∃ b, bs[k]? = some b := ⟨_, List.getElem?_eq_getElem (by omega)⟩
          have s4' : Same _ H2 := fun b o h => s4 b o id h
          have hz := s4' _ _ (hbs.2 (1 + k) z (b.1 :: b.2) e (by rw [Nat.add_comm]; unfold evNums; rw [List.getElem?_cons_succ, List.getElem?_map, eb]; rfl))
          obtain ⟨qs, rfl, hq⟩ := p
          have hbm := hok b (List.mem_of_getElem? eb)
          refine turnI_map fun R hR => ?_
          refine w_glS T.g_Bill T.mk_Bill.kp ?_
          walk_at "go"
          refine ⟨z, _, rfl, .inr (SqL.of hz), ?_⟩
          rw [List.map_cons]
          refine s_bill T GB (hr.mono (by decide)) hbm.1 (by have := ok_len hbm.1; omega) fun p2 H3 hp2 s5 bi => ?_
          refine hR _ _ (Same.b s5) ⟨qs ++ [p2], by rw [List.map_append]; rfl, ?_⟩
          rw [List.take_add_one, eb]
          exact (hq.same s5).app ⟨rfl, fun i p b e1 e2 => by
            cases i with
            | zero => cases e1; cases e2; exact bi
            | succ i => simp at e1⟩
      · obtain ⟨qs, rfl, hq⟩ := p
        rw [List.length_map, List.length_drop, hpl, Nat.add_sub_cancel, List.take_of_length_le (Nat.le_refl _)] at hq
        have s4' : Same _ H2 := fun b o h => s4 b o id h
        walk_at "go"
        refine ⟨.ref r2, rfl, r2, _, rfl, .inr (SqL.of hL2), ?_⟩
        walk_at "go"
        show ∃ r, CaD _ E (.ref a.c_Evening) r ∧ r (.int (n : Nat) :: (qs.map V.ref ++ [])) _ _
        rw [List.append_nil]
        have sA : Same H H2 := (sH.trans s3).trans s4'
        exact s_evening T GI (hr.mono (by decide)) hq ok fun p2 H3 hp2 s5 ev => q p2 H3 (sA.free hp2) (sA.trans s5) ev
end

end Odd

namespace Odd
open PySem PySem.Spec PyProof.Rows L2
/-! tactics of this text: st one step, go as many as go -/
local macro_rules | `(tactic| walk_at "ar") => `(tactic| first | assumption | omega | (show (_ : Int) < _; omega) | decide)
local macro_rules | `(tactic| walk_at "st") => `(tactic| first
  | with_reducible refine' w_seq ?_
  | with_reducible refine' w_asg ?_
  | with_reducible refine' w_name ?_
  | with_reducible refine' w_c ?_
  | with_reducible refine' w_op ?_
  | with_reducible refine' w_ix ?_
  | with_reducible refine' w_at ?_
  | with_reducible refine' w_cons ?_
  | with_reducible refine' w_nil ?_
  | with_reducible refine' w_ret ?_
  | with_reducible refine' w_if ?_
  | with_reducible refine' w_test ?_
  | with_reducible refine' w_tr ?_
  | with_reducible refine' w_un ?_
  | with_reducible refine' w_andV ?_
  | with_reducible refine' w_orV ?_
  | with_reducible refine' w_notA ?_
  | with_reducible refine' w_ch ?_
  | with_reducible refine' w_and ?_
  | with_reducible refine' w_or ?_
  | with_reducible refine' w_not ?_
  | with_reducible refine' w_ifx ?_
  | with_reducible refine' w_tup ?_
  | with_reducible refine' w_lst ?_
  | with_reducible refine' w_next ?_
  | with_reducible refine' w_drop ?_
  | with_reducible refine' w_retN ?_
  | ((with_reducible refine' w_var ?h ?_); (case h => exact rfl))
  | ((with_reducible refine' w_bi ?h ?_); (case h => walk_at "mg"))
  | ((with_reducible refine' w_bv ?h ?_); (case h => walk_at "mg"))
  | ((with_reducible refine' w_gv ?h ?_); (case h => walk_at "mg"))
  | ((with_reducible refine' w_gl ?h ?k ?_); (case h => walk_at "mg"); (case k => walk_at "kp"))
  | ((with_reducible refine' w_glS ?h ?k ?_); (case h => walk_at "mg"); (case k => walk_at "kp"))
  | with_reducible refine' bl_ex ?_
  | with_reducible refine' iteT ?_
  | with_reducible refine' iteF ?_
  | with_reducible refine' ite_nf ?_
  | with_reducible refine' ite_nt ?_
  | with_reducible refine' s_add ?_
  | with_reducible refine' s_sub ?_
  | with_reducible refine' s_lt ?_
  | with_reducible refine' s_le ?_
  | with_reducible refine' s_gt ?_
  | with_reducible refine' s_ge ?_
  | with_reducible refine' s_eqI ?_
  | with_reducible refine' s_neI ?_
  | with_reducible refine' s_eqB ?_
  | with_reducible refine' s_neB ?_
  | with_reducible refine' s_truB ?_
  | with_reducible refine' s_truI ?_
  | with_reducible refine' s_neg ?_
  | ((with_reducible refine' s_mod ?h ?_); (case h => walk_at "ar")))
local macro_rules | `(tactic| walk_at "go") => `(tactic| repeat walk_at "st")

local macro_rules | `(tactic| walk_at "mg") => `(tactic| first | assumption | exact Facts.z_TypeError (by assumption) | exact Facts.z_bool (by assumption) | exact Facts.z_classmethod (by assumption) | exact Facts.z_dict (by assumption) | exact Facts.z_divmod (by assumption) | exact Facts.z_enumerate (by assumption) | exact Facts.z_int (by assumption) | exact Facts.z_isinstance (by assumption) | exact Facts.z_len (by assumption) | exact Facts.z_list (by assumption) | exact Facts.z_max (by assumption) | exact Facts.z_min (by assumption) | exact Facts.z_property (by assumption) | exact Facts.z_range (by assumption) | exact Facts.z_sorted (by assumption) | exact Facts.z_str (by assumption) | exact Facts.z_sum (by assumption) | exact Facts.z_super (by assumption) | exact Facts.z_tuple (by assumption) | exact Facts.z_zip (by assumption) | exact Facts.g__wall (by assumption) | exact Facts.g_is_between (by assumption) | exact Facts.g_is_digits (by assumption) | exact Facts.g_seats_of (by assumption) | exact Facts.g_check_amount (by assumption) | exact Facts.g_check_seats (by assumption) | exact Facts.g_check_seat_count (by assumption) | exact Facts.g_check_bills (by assumption) | exact Facts.g_check_mark (by assumption) | exact Facts.g_no_shares (by assumption) | exact Facts.g_seats_behind (by assumption) | exact Facts.g_split_bill (by assumption) | exact Facts.g_title_line (by assumption) | exact Facts.g_line_of (by assumption) | exact Facts.g_seat_line (by assumption) | exact Facts.g_receipt (by assumption) | exact Facts.g_cents_of_line (by assumption) | exact Facts.g_mark_of_line (by assumption) | exact Facts.g_parse_receipt (by assumption) | exact Facts.g_amount_bytes (by assumption) | exact Facts.g_checksum (by assumption) | exact Facts.g_encode_evening (by assumption) | exact Facts.g_byte_at (by assumption) | exact Facts.g_amount_at (by assumption) | exact Facts.g_decode_evening (by assumption) | exact Facts.g_row_of (by assumption) | exact Facts.g_format_evening (by assumption) | exact Facts.g_is_number (by assumption) | exact Facts.g_check_row (by assumption) | exact Facts.g_numbers_of_row (by assumption) | exact Facts.g_parse_evening (by assumption) | exact Facts.g__law_mix (by assumption) | exact Facts.g__law_next (by assumption) | exact Facts.g__law_alike (by assumption) | exact Facts.g__law_bill (by assumption) | exact Facts.g__law_bills (by assumption) | exact Facts.g__law_text (by assumption) | exact Facts.g__law_pay (by assumption) | exact Facts.g__law_paid (by assumption) | exact Facts.g__law_money (by assumption) | exact Facts.g__law_lines (by assumption) | exact Facts.g_law (by assumption) | exact Facts.g_Shares (by assumption) | exact Facts.g_Bill (by assumption) | exact Facts.g_Evening (by assumption))
local macro_rules | `(tactic| walk_at "kp") => `(tactic| first | assumption | exact (Facts.mk_Shares (by assumption)).kp | exact (Facts.mk_Bill (by assumption)).kp | exact (Facts.mk_Evening (by assumption)).kp | exact Fun.kp (Facts.u__wall (by assumption)).choose_spec | exact Fun.kp (Facts.u_is_between (by assumption)).choose_spec | exact Fun.kp (Facts.u_is_digits (by assumption)).choose_spec | exact Fun.kp (Facts.u_seats_of (by assumption)).choose_spec | exact Fun.kp (Facts.u_check_amount (by assumption)).choose_spec | exact Fun.kp (Facts.u_check_seats (by assumption)).choose_spec | exact Fun.kp (Facts.u_check_seat_count (by assumption)).choose_spec | exact Fun.kp (Facts.u_check_bills (by assumption)).choose_spec | exact Fun.kp (Facts.u_check_mark (by assumption)).choose_spec | exact Fun.kp (Facts.u_no_shares (by assumption)).choose_spec | exact Fun.kp (Facts.u_seats_behind (by assumption)).choose_spec | exact Fun.kp (Facts.u_split_bill (by assumption)).choose_spec | exact Fun.kp (Facts.u_title_line (by assumption)).choose_spec | exact Fun.kp (Facts.u_line_of (by assumption)).choose_spec | exact Fun.kp (Facts.u_seat_line (by assumption)).choose_spec | exact Fun.kp (Facts.u_receipt (by assumption)).choose_spec | exact Fun.kp (Facts.u_cents_of_line (by assumption)).choose_spec | exact Fun.kp (Facts.u_mark_of_line (by assumption)).choose_spec | exact Fun.kp (Facts.u_parse_receipt (by assumption)).choose_spec | exact Fun.kp (Facts.u_amount_bytes (by assumption)).choose_spec | exact Fun.kp (Facts.u_checksum (by assumption)).choose_spec | exact Fun.kp (Facts.u_encode_evening (by assumption)).choose_spec | exact Fun.kp (Facts.u_byte_at (by assumption)).choose_spec | exact Fun.kp (Facts.u_amount_at (by assumption)).choose_spec | exact Fun.kp (Facts.u_decode_evening (by assumption)).choose_spec | exact Fun.kp (Facts.u_row_of (by assumption)).choose_spec | exact Fun.kp (Facts.u_format_evening (by assumption)).choose_spec | exact Fun.kp (Facts.u_is_number (by assumption)).choose_spec | exact Fun.kp (Facts.u_check_row (by assumption)).choose_spec | exact Fun.kp (Facts.u_numbers_of_row (by assumption)).choose_spec | exact Fun.kp (Facts.u_parse_evening (by assumption)).choose_spec | exact Fun.kp (Facts.u__law_mix (by assumption)).choose_spec | exact Fun.kp (Facts.u__law_next (by assumption)).choose_spec | exact Fun.kp (Facts.u__law_alike (by assumption)).choose_spec | exact Fun.kp (Facts.u__law_bill (by assumption)).choose_spec | exact Fun.kp (Facts.u__law_bills (by assumption)).choose_spec | exact Fun.kp (Facts.u__law_text (by assumption)).choose_spec | exact Fun.kp (Facts.u__law_pay (by assumption)).choose_spec | exact Fun.kp (Facts.u__law_paid (by assumption)).choose_spec | exact Fun.kp (Facts.u__law_money (by assumption)).choose_spec | exact Fun.kp (Facts.u__law_lines (by assumption)).choose_spec | exact Fun.kp (Facts.u_law (by assumption)).choose_spec)
/-! ### evenings as texts -/
section
variable {P : Program} {w : World} {K : PySem.W.Frag} {mg : Str → Option Value} {base : Heap} {a : Ad}
def spRowOf : Sp := fun vs H Q _ => ∃ (f : Str) (l : Addr) (ns : List Int), vs = [.str f, .ref l] ∧ H l = some (.lst (ns.map V.int)) ∧ FirstW f ∧ Nums ns ∧ ns.length ≤ 9 ∧ ∀ H', Same H H' → Q (.str (rowS f ns)) H'
theorem ok_row_of (T : Facts K mg a) : FnR P w K mg base (L2.CX P w) 1 a.f_row_of spRowOf := by
  obtain ⟨fd, F⟩ := T.u_row_of
  refine fnr_ok F sc_row_of (F.binds fun _ _ _ _ _ _ us hl => match us, hl with | [_, _], _ => rfl) (fun vs H Q E h => ?_) (fun cdv A outer s H vs Q E hr h => ?_)
  · obtain ⟨f, l, ns, rfl, _⟩ := h
    rfl
  · obtain ⟨f, l, ns, rfl, hl, hf, hn, h9, q⟩ := h
    refine ⟨_, (pss_one (ps_ret (pe_join (pe_str) (pe_opA Like.refl pas_main (pe_lst (pa_cons (pv 0) pa_nil)) (pe_lc (own := [("number", 2)]) (g := gName 2) (tt := tYes) rfl sc_row_of.nd (pi_seqA Like.refl (pv 1)) (blkOk_by (own := [("number", 2)]) (N := N_row_of) (sc := defScope s_row_of) (by decide +kernel)) (fun _ _ _ _ _ => (pg_name (i := 2) sc_row_of.nd rfl (by first | exact Or.inl rfl | exact Or.inr rfl))) (fun _ _ _ _ _ => pts_nil) (fun _ _ _ _ _ => (pe_tyA (T := "str") ⟨rfl, rfl, rfl, rfl, rfl, rfl, rfl⟩ passL (by rfl) (by decide +kernel) (pa_cons (pv 2) pa_nil)))))))), ?_⟩
    walk_at "go"
    refine w_m1 ?_
    walk_at "go"
    refine ⟨⟨_, rfl⟩, ?_⟩
    walk_at "go"
    refine ⟨by show 1 ≤ sizeLine; decide, fun l1 hl1 => ?_⟩
    have s1 := same_new (o := .lst [.str f]) hl1
    walk_at "go"
    refine c_list (a := l) (xs := ns.map V.int) (fun i => (ns.take i).map fun z => V.str (numS z)) rfl (fun i hi => ?_) (SqL.of (s1 _ _ hl)) (fun _ => rfl) (fun i x H' hx s2 => ?_) (fun p3 H3 hp3 s2 h3 => ?_) (fun R k => ?_)
    · rw [List.length_map, List.length_take]
      omega
    · rw [List.getElem?_map] at hx
      cases e : ns[i]? with
      | none => rw [e] at hx; cases hx
      | some z =>
        rw [e] at hx
        cases hx
        have nz := hn z (List.mem_of_getElem? e)
        show Turn1 _ _ _ _ _ ((ns.take (i + 1)).map fun z => V.str (numS z))
        rw [List.take_add_one, e, List.map_append]
        refine turn1_map fun R hR => ?_
        walk_at "go"
        refine s_strI (log_small nz.1 nz.2) ?_
        exact hR _ (Same.refl _)
    · rw [List.length_map, List.take_of_length_le (Nat.le_refl _)] at h3
      refine s_cat (s2 _ _ upd_same) h3 (by rw [List.length_map]; exact Nat.le_trans (show 1 + ns.length ≤ 10 by omega) (by decide)) fun l4 hl4 => ?_
      have e5 : ([V.str f] ++ ns.map fun z => V.str (numS z)) = (rowW f ns).map V.str := by
        unfold rowW
        rw [List.map_cons, List.map_map]
        rfl
      rw [e5]
      exact ⟨" ", l4, rowW f ns, rfl, rfl, .inl (SqL.of upd_same), Nat.le_trans (rowW_sum hf hn h9) (by decide), q _ ((s1.trans s2).trans (same_new hl4))⟩
    · walk_at "go"
      exact k
def spFormat (CE CB : Addr) : Sp := fun vs H Q _ => ∃ (p : Addr) (n : Nat) (bs : List (Int × List Int)), vs = [.ref p] ∧ EvAt CE CB H p n bs ∧ OkEv n bs ∧ ∀ H', Same H H' → Q (.str (evText n bs)) H'
theorem ok_format (T : Facts K mg a) : FnR P w K mg base (L2.CX P w) 3 a.f_format_evening (spFormat a.c_Evening a.c_Bill) := by
  obtain ⟨fd, F⟩ := T.u_format_evening
  have GC : FnR P w K mg base (L2.CX P w) 1 a.f_Evening_seat_count (spEvCount a.c_Evening) := ok_ev_count T
  have GB : FnR P w K mg base (L2.CX P w) 1 a.f_Evening_bills (spEvBills a.c_Evening) := ok_ev_bills T
  have GA : FnR P w K mg base (L2.CX P w) 1 a.f_Bill_amount (spBiAmount a.c_Bill) := ok_bi_amount T
  have GS : FnR P w K mg base (L2.CX P w) 1 a.f_Bill_seats (spBiSeats a.c_Bill) := ok_bi_seats T
  have GR : FnR P w K mg base (L2.CX P w) 1 a.f_row_of spRowOf := ok_row_of T
  refine fnr_ok F sc_format_evening (F.binds fun _ _ _ _ _ _ us hl => match us, hl with | [_], _ => rfl) (fun vs H Q E h => ?_) (fun cdv A outer s H vs Q E hr h => ?_)
  · obtain ⟨p, n, bs, rfl, _⟩ := h
    rfl
  · obtain ⟨p, n, bs, rfl, hev, ok, q⟩ := h
    obtain ⟨dx, t, ps, e1, e2, e3⟩ := id hev
    have h8 := ok.2.1
    have h30 := ok.2.2.1
    have hok := ok.2.2.2
    refine ⟨_, (pss_cons (ps_set (i := 1) sc_format_evening.nd rfl (Or.inl rfl) (pe_lst (pa_cons (pe_glA Like.refl pas_main (by rfl) (pa_cons (pe_str) (pa_cons (pe_lst (pa_cons (pe_atA Like.refl pas_main (pv 0)) pa_nil)) pa_nil))) pa_nil)))
    (pss_cons (ps_for own_main rfl (pi_seqA Like.refl (pe_atA Like.refl pas_main (pv 0))) (pg_name (i := 2) sc_format_evening.nd rfl (Or.inl rfl)) (pss_one (ps_expr (pe_bm PySem.F.plainAttrs_list PySem.F.slot_list_append PySem.F.type_list_append mt_append (pv 1) (pa_cons (pe_glA Like.refl pas_main (by rfl) (pa_cons (pe_str) (pa_cons (pe_opA Like.refl pas_main (pe_lst (pa_cons (pe_atA Like.refl pas_main (pv 2)) pa_nil)) (pe_tyA (T := "list") Like.refl pas_main (by rfl) (by decide +kernel) (pa_cons (pe_atA Like.refl pas_main (pv 2)) pa_nil))) pa_nil))) pa_nil)))))
    (pss_one (ps_ret (pe_join (pe_str) (pv 1)))))), ?_⟩
    walk_at "go"
    refine s_prop T.cl_Evening T.pr_Evening_seat_count GC (hr.mono (by decide)) e1 ⟨p, dx, t, _, rfl, e1, ?_⟩
    walk_at "go"
    refine ⟨by show 1 ≤ sizeLine; decide, fun l0 hl0 => ?_⟩
    have s0 := same_new (o := .lst [.int (n : Nat)]) hl0
    walk_at "go"
    refine s_fn GR (hr.mono (by decide)) ⟨"table", l0, [(n : Int)], rfl, upd_same, first_table, one_nums h8, (show 1 ≤ 9 by decide), fun H1 s1 => ?_⟩
    walk_at "go"
    refine ⟨by show 1 ≤ sizeLine; decide, fun l hl0 => ?_⟩
    have s2 := (s0.trans s1).trans (same_new (o := .lst [.str (rowS "table" [(n : Int)])]) hl0)
    have hlH : H l = none := (s0.trans s1).free hl0
    walk_at "go"
    refine w_forQ ?_
    walk_at "go"
    refine s_prop T.cl_Evening T.pr_Evening_bills GB (hr.mono (by decide)) (s2 _ _ e1) ⟨p, dx, t, _, rfl, s2 _ _ e1, ?_⟩
    refine f_tup (a := t) (xs := ps.map V.ref) (fun k σ H' => Same H H' ∧ ∃ x2, σ = [some (.ref p), some (.ref l), x2] ∧ H' l = some (.lst ((evRows n (bs.take k)).map V.str))) (fun R k => k)
      ⟨s2, none, rfl, by rw [upd_same]; rfl⟩ (fun k σ H' _ p' => SqT.of (p'.1 _ _ e2)) (fun k x σ H' hx pv => ?_) (fun σ H' pv => ?_)
    · obtain ⟨s3, x2, rfl, hL⟩ := pv
      rw [List.getElem?_map] at hx
      cases e : ps[k]? with
      | none => rw [e] at hx; cases hx
      | some r =>
        rw [e] at hx
        cases hx
        obtain ⟨hk, _⟩ := List.getElem?_eq_some_iff.1 e
        obtain ⟨b, eb⟩ : ∃ b, bs[k]? = some b := ⟨_, List.getElem?_eq_getElem (by rw [← e3.1]; exact hk)⟩
        have hb := hok b (List.mem_of_getElem? eb)
        obtain ⟨dy, u, h1, h2⟩ := e3.2 k r b e eb
        refine w_name ?_
        dsimp only [List.set]
        walk_at "go"
        refine w_bm ?_
        walk_at "go"
        refine ⟨.inl ⟨rfl, _, SqL.of hL⟩, ?_⟩
        walk_at "go"
        refine s_prop T.cl_Bill T.pr_Bill_amount GA (hr.mono (by decide)) (s3 _ _ h1) ⟨r, dy, u, _, rfl, s3 _ _ h1, ?_⟩
        walk_at "go"
        refine ⟨by show 1 ≤ sizeLine; decide, fun l1 hl1 => ?_⟩
        have s4 := same_new (o := .lst [.int b.1]) hl1
        walk_at "go"
        refine s_prop T.cl_Bill T.pr_Bill_seats GS (hr.mono (by decide)) (s4 _ _ (s3 _ _ h1)) ⟨r, dy, u, _, rfl, s4 _ _ (s3 _ _ h1), ?_⟩
        walk_at "go"
        refine s_listOf (.inr (SqT.of (s4 _ _ (s3 _ _ h2)))) fun l2 hl2 => ?_
        have s5 := same_new (o := .lst (b.2.map V.int)) hl2
        have hb8 := ok_len hb.1
        refine s_cat (s5 _ _ upd_same) upd_same (by rw [List.length_map]; exact Nat.le_trans (show 1 + b.2.length ≤ 10 by omega) (by decide)) fun l3 hl3 => ?_
        have s6 := same_new (o := .lst ([V.int b.1] ++ b.2.map V.int)) hl3
        refine s_fn GR (hr.mono (by decide)) ⟨"bill", l3, b.1 :: b.2, rfl, by rw [upd_same]; rfl, first_bill, row_nums hb, row_len hb, fun H5 s7 => ?_⟩
        have s47 := ((s4.trans s5).trans s6).trans s7
        walk_at "go"
        refine ⟨l, _, _, rfl, rfl, s47 _ _ hL, by rw [List.length_map]; unfold evRows; rw [List.length_cons, List.length_map, List.length_take]; exact Nat.lt_of_lt_of_le (show min k bs.length + 1 < 100 by omega) (by decide), ?_⟩
        walk_at "go"
        refine ⟨same_mut (s3.trans s47) hlH, _, rfl, ?_⟩
        rw [upd_same, List.take_add_one, eb]
        unfold evRows
        rw [List.map_append, List.map_cons, List.map_cons, List.map_append]
        rfl
    · obtain ⟨s3, x2, rfl, hL⟩ := pv
      rw [List.length_map, e3.1, List.take_of_length_le (Nat.le_refl _)] at hL
      walk_at "go"
      refine w_m1 ?_
      walk_at "go"
      refine ⟨⟨_, rfl⟩, ?_⟩
      walk_at "go"
      exact ⟨"\n", l, evRows n bs, rfl, rfl, .inl (SqL.of hL), Nat.le_trans (ev_rows_sum h8 hok h30) (by decide), q _ s3⟩
end

end Odd

namespace Odd
open PySem PySem.Spec PyProof.Rows L2
/-! tactics of this text: st one step, go as many as go -/
local macro_rules | `(tactic| walk_at "ar") => `(tactic| first | assumption | omega | (show (_ : Int) < _; omega) | decide)
local macro_rules | `(tactic| walk_at "st") => `(tactic| first
  | with_reducible refine' w_seq ?_
  | with_reducible refine' w_asg ?_
  | with_reducible refine' w_name ?_
  | with_reducible refine' w_c ?_
  | with_reducible refine' w_op ?_
  | with_reducible refine' w_ix ?_
  | with_reducible refine' w_at ?_
  | with_reducible refine' w_cons ?_
  | with_reducible refine' w_nil ?_
  | with_reducible refine' w_ret ?_
  | with_reducible refine' w_if ?_
  | with_reducible refine' w_test ?_
  | with_reducible refine' w_tr ?_
  | with_reducible refine' w_un ?_
  | with_reducible refine' w_andV ?_
  | with_reducible refine' w_orV ?_
  | with_reducible refine' w_notA ?_
  | with_reducible refine' w_ch ?_
  | with_reducible refine' w_and ?_
  | with_reducible refine' w_or ?_
  | with_reducible refine' w_not ?_
  | with_reducible refine' w_ifx ?_
  | with_reducible refine' w_tup ?_
  | with_reducible refine' w_lst ?_
  | with_reducible refine' w_next ?_
  | with_reducible refine' w_drop ?_
  | with_reducible refine' w_retN ?_
  | ((with_reducible refine' w_var ?h ?_); (case h => exact rfl))
  | ((with_reducible refine' w_bi ?h ?_); (case h => walk_at "mg"))
  | ((with_reducible refine' w_bv ?h ?_); (case h => walk_at "mg"))
  | ((with_reducible refine' w_gv ?h ?_); (case h => walk_at "mg"))
  | ((with_reducible refine' w_gl ?h ?k ?_); (case h => walk_at "mg"); (case k => walk_at "kp"))
  | ((with_reducible refine' w_glS ?h ?k ?_); (case h => walk_at "mg"); (case k => walk_at "kp"))
  | with_reducible refine' bl_ex ?_
  | with_reducible refine' iteT ?_
  | with_reducible refine' iteF ?_
  | with_reducible refine' ite_nf ?_
  | with_reducible refine' ite_nt ?_
  | with_reducible refine' s_add ?_
  | with_reducible refine' s_sub ?_
  | with_reducible refine' s_lt ?_
  | with_reducible refine' s_le ?_
  | with_reducible refine' s_gt ?_
  | with_reducible refine' s_ge ?_
  | with_reducible refine' s_eqI ?_
  | with_reducible refine' s_neI ?_
  | with_reducible refine' s_eqB ?_
  | with_reducible refine' s_neB ?_
  | with_reducible refine' s_truB ?_
  | with_reducible refine' s_truI ?_
  | with_reducible refine' s_neg ?_
  | ((with_reducible refine' s_mod ?h ?_); (case h => walk_at "ar")))
local macro_rules | `(tactic| walk_at "go") => `(tactic| repeat walk_at "st")

local macro_rules | `(tactic| walk_at "mg") => `(tactic| first | assumption | exact Facts.z_TypeError (by assumption) | exact Facts.z_bool (by assumption) | exact Facts.z_classmethod (by assumption) | exact Facts.z_dict (by assumption) | exact Facts.z_divmod (by assumption) | exact Facts.z_enumerate (by assumption) | exact Facts.z_int (by assumption) | exact Facts.z_isinstance (by assumption) | exact Facts.z_len (by assumption) | exact Facts.z_list (by assumption) | exact Facts.z_max (by assumption) | exact Facts.z_min (by assumption) | exact Facts.z_property (by assumption) | exact Facts.z_range (by assumption) | exact Facts.z_sorted (by assumption) | exact Facts.z_str (by assumption) | exact Facts.z_sum (by assumption) | exact Facts.z_super (by assumption) | exact Facts.z_tuple (by assumption) | exact Facts.z_zip (by assumption) | exact Facts.g__wall (by assumption) | exact Facts.g_is_between (by assumption) | exact Facts.g_is_digits (by assumption) | exact Facts.g_seats_of (by assumption) | exact Facts.g_check_amount (by assumption) | exact Facts.g_check_seats (by assumption) | exact Facts.g_check_seat_count (by assumption) | exact Facts.g_check_bills (by assumption) | exact Facts.g_check_mark (by assumption) | exact Facts.g_no_shares (by assumption) | exact Facts.g_seats_behind (by assumption) | exact Facts.g_split_bill (by assumption) | exact Facts.g_title_line (by assumption) | exact Facts.g_line_of (by assumption) | exact Facts.g_seat_line (by assumption) | exact Facts.g_receipt (by assumption) | exact Facts.g_cents_of_line (by assumption) | exact Facts.g_mark_of_line (by assumption) | exact Facts.g_parse_receipt (by assumption) | exact Facts.g_amount_bytes (by assumption) | exact Facts.g_checksum (by assumption) | exact Facts.g_encode_evening (by assumption) | exact Facts.g_byte_at (by assumption) | exact Facts.g_amount_at (by assumption) | exact Facts.g_decode_evening (by assumption) | exact Facts.g_row_of (by assumption) | exact Facts.g_format_evening (by assumption) | exact Facts.g_is_number (by assumption) | exact Facts.g_check_row (by assumption) | exact Facts.g_numbers_of_row (by assumption) | exact Facts.g_parse_evening (by assumption) | exact Facts.g__law_mix (by assumption) | exact Facts.g__law_next (by assumption) | exact Facts.g__law_alike (by assumption) | exact Facts.g__law_bill (by assumption) | exact Facts.g__law_bills (by assumption) | exact Facts.g__law_text (by assumption) | exact Facts.g__law_pay (by assumption) | exact Facts.g__law_paid (by assumption) | exact Facts.g__law_money (by assumption) | exact Facts.g__law_lines (by assumption) | exact Facts.g_law (by assumption) | exact Facts.g_Shares (by assumption) | exact Facts.g_Bill (by assumption) | exact Facts.g_Evening (by assumption))
local macro_rules | `(tactic| walk_at "kp") => `(tactic| first | assumption | exact (Facts.mk_Shares (by assumption)).kp | exact (Facts.mk_Bill (by assumption)).kp | exact (Facts.mk_Evening (by assumption)).kp | exact Fun.kp (Facts.u__wall (by assumption)).choose_spec | exact Fun.kp (Facts.u_is_between (by assumption)).choose_spec | exact Fun.kp (Facts.u_is_digits (by assumption)).choose_spec | exact Fun.kp (Facts.u_seats_of (by assumption)).choose_spec | exact Fun.kp (Facts.u_check_amount (by assumption)).choose_spec | exact Fun.kp (Facts.u_check_seats (by assumption)).choose_spec | exact Fun.kp (Facts.u_check_seat_count (by assumption)).choose_spec | exact Fun.kp (Facts.u_check_bills (by assumption)).choose_spec | exact Fun.kp (Facts.u_check_mark (by assumption)).choose_spec | exact Fun.kp (Facts.u_no_shares (by assumption)).choose_spec | exact Fun.kp (Facts.u_seats_behind (by assumption)).choose_spec | exact Fun.kp (Facts.u_split_bill (by assumption)).choose_spec | exact Fun.kp (Facts.u_title_line (by assumption)).choose_spec | exact Fun.kp (Facts.u_line_of (by assumption)).choose_spec | exact Fun.kp (Facts.u_seat_line (by assumption)).choose_spec | exact Fun.kp (Facts.u_receipt (by assumption)).choose_spec | exact Fun.kp (Facts.u_cents_of_line (by assumption)).choose_spec | exact Fun.kp (Facts.u_mark_of_line (by assumption)).choose_spec | exact Fun.kp (Facts.u_parse_receipt (by assumption)).choose_spec | exact Fun.kp (Facts.u_amount_bytes (by assumption)).choose_spec | exact Fun.kp (Facts.u_checksum (by assumption)).choose_spec | exact Fun.kp (Facts.u_encode_evening (by assumption)).choose_spec | exact Fun.kp (Facts.u_byte_at (by assumption)).choose_spec | exact Fun.kp (Facts.u_amount_at (by assumption)).choose_spec | exact Fun.kp (Facts.u_decode_evening (by assumption)).choose_spec | exact Fun.kp (Facts.u_row_of (by assumption)).choose_spec | exact Fun.kp (Facts.u_format_evening (by assumption)).choose_spec | exact Fun.kp (Facts.u_is_number (by assumption)).choose_spec | exact Fun.kp (Facts.u_check_row (by assumption)).choose_spec | exact Fun.kp (Facts.u_numbers_of_row (by assumption)).choose_spec | exact Fun.kp (Facts.u_parse_evening (by assumption)).choose_spec | exact Fun.kp (Facts.u__law_mix (by assumption)).choose_spec | exact Fun.kp (Facts.u__law_next (by assumption)).choose_spec | exact Fun.kp (Facts.u__law_alike (by assumption)).choose_spec | exact Fun.kp (Facts.u__law_bill (by assumption)).choose_spec | exact Fun.kp (Facts.u__law_bills (by assumption)).choose_spec | exact Fun.kp (Facts.u__law_text (by assumption)).choose_spec | exact Fun.kp (Facts.u__law_pay (by assumption)).choose_spec | exact Fun.kp (Facts.u__law_paid (by assumption)).choose_spec | exact Fun.kp (Facts.u__law_money (by assumption)).choose_spec | exact Fun.kp (Facts.u__law_lines (by assumption)).choose_spec | exact Fun.kp (Facts.u_law (by assumption)).choose_spec)
/-! ### the payers, by places round the table -/
section
theorem asc_up : ∀ {ss : List Int} {lo lo' : Int}, asc lo ss = true → (∀ s ∈ ss, lo' ≤ s) → asc lo' ss = true
  | [], _, _, _, _ => rfl
  | s :: ss, lo, lo', h, k => by
    simp only [asc, Bool.and_eq_true, decide_eq_true_eq] at h ⊢
    exact ⟨⟨k s (List.mem_cons_self ..), h.1.2⟩, h.2⟩
theorem asc_filter {f : Int → Bool} : ∀ {ss : List Int} {lo : Int}, asc lo ss = true → asc lo (ss.filter f) = true
  | [], _, _ => rfl
  | s :: ss, lo, h => by
    simp only [asc, Bool.and_eq_true, decide_eq_true_eq] at h
    rw [List.filter_cons]
    split
    · simp only [asc, Bool.and_eq_true, decide_eq_true_eq]
      exact ⟨h.1, asc_filter h.2⟩
    · exact asc_filter (asc_up h.2 fun x hx => by have := (asc_ge h.2 x hx).1; omega)
theorem up_pick : ∀ {k : Nat} {lo : Int} {ss : List Int}, asc lo ss = true → (∀ s ∈ ss, s < lo + (k : Int)) → ((up lo k).filter fun p => decide (p ∈ ss)) = ss
  | 0, lo, ss, h, hk => by
    cases ss with
    | nil => rfl
    | cons s ss =>
      have a := (asc_ge h s (List.mem_cons_self ..)).1
      have b := hk s (List.mem_cons_self ..)
      omega
  | k + 1, lo, ss, h, hk => by
    show ((lo :: up (lo + 1) k).filter _) = ss
    cases ss with
    | nil => exact List.filter_eq_nil_iff.2 fun x _ => by simp
    | cons s ss =>
      have hh := h
      simp only [asc, Bool.and_eq_true, decide_eq_true_eq] at hh
      by_cases e : s = lo
      · subst e
        rw [List.filter_cons, if_pos (by simp)]
        congr 1
        have ih := up_pick (k := k) (lo := s + 1) (ss := ss) hh.2 fun x hx => by have := hk x (List.mem_cons_of_mem _ hx); omega
        refine (List.filter_congr fun x hx => ?_).trans ih
        have := (up_mem hx).1
        have ne : x ≠ s := by omega
        by_cases hm : x ∈ ss
        · rw [decide_eq_true hm, decide_eq_true (List.mem_cons_of_mem _ hm)]
        · rw [decide_eq_false hm, decide_eq_false (fun z => (List.mem_cons.1 z).elim ne hm)]
      · have hlo : ∀ x ∈ s :: ss, lo + 1 ≤ x := fun x hx => by
          rcases List.mem_cons.1 hx with z | z
          · omega
          · have := (asc_ge hh.2 x z).1
            omega
        rw [List.filter_cons, if_neg (by
          rw [decide_eq_true_eq]
          exact fun z => by have := hlo lo z; omega)]
        exact up_pick (asc_up h hlo) fun x hx => by have := hk x hx; omega
theorem up_pickF {k : Nat} {lo : Int} {ss : List Int} {f : Int → Bool} (h : asc 0 ss = true) (hlo : ∀ s ∈ ss, f s = true → lo ≤ s ∧ s < lo + (k : Int)) (hf : ∀ s, lo ≤ s → s < lo + (k : Int) → f s = true) :
    ((up lo k).filter fun p => decide (p ∈ ss)) = ss.filter f := by
  have e := up_pick (k := k) (lo := lo) (ss := ss.filter f) (asc_up (asc_filter h) fun s hs => (hlo s (List.mem_filter.1 hs).1 (List.mem_filter.1 hs).2).1) fun s hs => (hlo s (List.mem_filter.1 hs).1 (List.mem_filter.1 hs).2).2
  refine (List.filter_congr fun x hx => ?_).trans e
  have hx' := up_mem hx
  have fx := hf x hx'.1 hx'.2
  by_cases hm : x ∈ ss
  · rw [decide_eq_true hm, decide_eq_true (List.mem_filter.2 ⟨hm, fx⟩)]
  · rw [decide_eq_false hm, decide_eq_false (fun z => hm (List.mem_filter.1 z).1)]
theorem hits_all {n : Nat} {m : Int} {ss : List Int} (h0 : 0 ≤ m) (h1 : m < (n : Int)) (h : asc 0 ss = true) (hn : ∀ s ∈ ss, s < (n : Int)) : hits n m ss n = behind m ss := by
  unfold hits behind
  rw [pls_all h0 h1, List.filter_append]
  congr 1
  · refine up_pickF h (fun s hs hf => ?_) fun s a b => ?_
    · have := hn s hs
      rw [decide_eq_true_eq] at hf
      omega
    · rw [decide_eq_true_eq]; omega
  · refine up_pickF h (fun s hs hf => ?_) fun s a b => ?_
    · have := (asc_ge h s hs).1
      rw [decide_eq_true_eq] at hf
      omega
    · rw [decide_eq_true_eq]; omega
theorem filt_len (m : Int) : ∀ ss : List Int, (behind m ss).length = ss.length := fun ss => by
  unfold behind
  rw [List.length_append]
  induction ss with
  | nil => rfl
  | cons s ss ih =>
    rw [List.filter_cons, List.filter_cons]
    by_cases a : m < s
    · rw [decide_eq_true a, decide_eq_false (show ¬ s ≤ m by omega)]
      simp only [if_true, Bool.false_eq_true, if_false, List.length_cons]
      omega
    · rw [decide_eq_false a, decide_eq_true (show s ≤ m by omega)]
      simp only [if_true, Bool.false_eq_true, if_false, List.length_cons]
      omega
/-- the hits are the first of those behind -/
theorem hits_take {n : Nat} {m : Int} {ss : List Int} (h0 : 0 ≤ m) (h1 : m < (n : Int)) (h : asc 0 ss = true) (hn : ∀ s ∈ ss, s < (n : Int)) {j : Nat} (hj : j ≤ n) : hits n m ss j = (behind m ss).take (hits n m ss j).length ∧ (hits n m ss j).length ≤ ss.length := by
  obtain ⟨r, hr⟩ := hits_pre n m ss j (n - j)
  rw [show j + (n - j) = n by omega, hits_all h0 h1 h hn] at hr
  refine ⟨by rw [hr, List.take_left], ?_⟩
  rw [← filt_len m ss, hr, List.length_append]
  omega
end

section
variable {P : Program} {w : World} {K : PySem.W.Frag} {mg : Str → Option Value} {base : Heap} {a : Ad}
/-- a table: lists of cents -/
def TabAt (H : Hp) (ts : List Addr) (tab : List (List Int)) : Prop := ts.length = tab.length ∧ ∀ (i : Nat) t c, ts[i]? = some t → tab[i]? = some c → H t = some (.lst (c.map V.int))
theorem TabAt.keep {H H' : Hp} {ts : List Addr} {tab : List (List Int)} (h : TabAt H ts tab) (k : ∀ t ∈ ts, ∀ o, H t = some o → H' t = some o) : TabAt H' ts tab := ⟨h.1, fun i t c h1 h2 => k _ (List.mem_of_getElem? h1) _ (h.2 i t c h1 h2)⟩
theorem TabAt.snoc {H : Hp} {ts : List Addr} {tab : List (List Int)} {t : Addr} {c : List Int} (h : TabAt H ts tab) (h' : H t = some (.lst (c.map V.int))) : TabAt H (ts ++ [t]) (tab ++ [c]) := by
  refine ⟨by simp [h.1], fun i p b e1 e2 => ?_⟩
  by_cases hi : i < ts.length
  · rw [List.getElem?_append_left hi] at e1
    rw [List.getElem?_append_left (by rw [← h.1]; exact hi)] at e2
    exact h.2 i p b e1 e2
  · rw [List.getElem?_append_right (by omega)] at e1
    rw [List.getElem?_append_right (by rw [← h.1]; omega), ← h.1] at e2
    cases z : i - ts.length with
    | zero => rw [z] at e1 e2; cases e1; cases e2; exact h'
    | succ j => rw [z] at e1; simp at e1
def paidRun (n : Nat) (m : Int) (rows : List (Int × List Int)) : List (List Int) × Int := rows.foldl (fun x b => (x.1 ++ [splitC n x.2 b], splitM x.2 b)) ([], m)
theorem paidRun_snoc (n : Nat) (m : Int) (rows : List (Int × List Int)) (b : Int × List Int) : paidRun n m (rows ++ [b]) = ((paidRun n m rows).1 ++ [splitC n (paidRun n m rows).2 b], splitM (paidRun n m rows).2 b) := by
  unfold paidRun
  rw [List.foldl_append, List.foldl_cons, List.foldl_nil]
theorem lastD_mem : ∀ (l : List Int) (m : Int), l.getLastD m ∈ m :: l
  | [], m => List.mem_cons_self ..
  | x :: l, m => by
    rw [List.getLastD_cons]
    exact List.mem_cons_of_mem _ (lastD_mem l x)
theorem splitM_range {n : Nat} {m : Int} {b : Int × List Int} (ok : OkBill b) (hs : ∀ s ∈ b.2, s < (n : Int)) (h0 : 0 ≤ m) (h1 : m < (n : Int)) : 0 ≤ splitM m b ∧ splitM m b < (n : Int) := by
  unfold splitM
  have hp : ∀ s ∈ payers m b, 0 ≤ s ∧ s < (n : Int) := fun s hm => by
    have h3 := List.mem_of_mem_take hm
    rcases List.mem_append.1 h3 with h4 | h4
    · exact ⟨(asc_ge ok.2.2.1 s (List.mem_filter.1 h4).1).1, hs s (List.mem_filter.1 h4).1⟩
    · exact ⟨(asc_ge ok.2.2.1 s (List.mem_filter.1 h4).1).1, hs s (List.mem_filter.1 h4).1⟩
  rcases List.mem_cons.1 (lastD_mem (payers m b) m) with e | e
  · rw [e]; exact ⟨h0, h1⟩
  · exact hp _ e
end

/-! ### the whole laws' plain payers -/
section
variable {P : Program} {w : World} {K : PySem.W.Frag} {mg : Str → Option Value} {base : Heap} {a : Ad}
theorem fold_at {q : Int} {i : Nat} : ∀ (ss c : List Int), (∀ s ∈ ss, 0 ≤ s) → i < c.length → (ss.foldl (fun c s => c.set s.toNat q) c)[i]? = if (i : Int) ∈ ss then some q else c[i]?
  | [], c, _, _ => by simp
  | s :: ss, c, h, hi => by
    rw [List.foldl_cons, fold_at ss (c.set s.toNat q) (fun x hx => h x (List.mem_cons_of_mem _ hx)) (by rw [List.length_set]; exact hi)]
    have h0 := h s (List.mem_cons_self ..)
    by_cases h1 : (i : Int) ∈ ss
    · rw [if_pos h1, if_pos (List.mem_cons_of_mem _ h1)]
    · rw [if_neg h1]
      by_cases h2 : (i : Int) = s
      · rw [if_pos (by rw [h2]; exact List.mem_cons_self ..), show s.toNat = i by omega, List.getElem?_set_self hi]
      · rw [if_neg (by intro z; rcases List.mem_cons.1 z with z | z; exact h2 z; exact h1 z), List.getElem?_set_ne (by omega)]
theorem base_pick {n : Nat} {q : Int} {ss : List Int} (h : ∀ s ∈ ss, 0 ≤ s) : baseC n q ss = (List.range n).map fun i : Nat => if (i : Int) ∈ ss then q else 0 := by
  refine List.ext_getElem? fun i => ?_
  by_cases hi : i < n
  · unfold baseC
    rw [fold_at ss _ h (by rw [List.length_replicate]; exact hi), List.getElem?_map, List.getElem?_range hi, List.getElem?_replicate, if_pos hi]
    show _ = some (if (i : Int) ∈ ss then q else 0)
    split <;> rfl
  · rw [List.getElem?_eq_none (by rw [baseC_len]; omega), List.getElem?_eq_none (by rw [List.length_map, List.length_range]; omega)]
def spWPay : Sp := fun vs H Q _ => ∃ (n : Nat) (r : Addr) (b : Int × List Int) (m : Int), vs = [.int n, .ref r, .int m] ∧ RowAt H r b ∧ RowOk n b ∧ n ≤ 8 ∧ 0 ≤ m ∧ m < (n : Int) ∧
  ∀ T l H', H T = none → H l = none → Same H H' → H' T = some (.tup [.ref l, .int (splitM m b)]) → H' l = some (.lst ((splitC n m b).map V.int)) → Q (.ref T) H'
theorem ok_wpay (T : Facts K mg a) : FnR P w K mg base (L2.CX P w) 1 a.f__law_pay spWPay := by
  obtain ⟨fd, F⟩ := T.u__law_pay
  refine fnr_ok F sc__law_pay (F.binds fun _ _ _ _ _ _ us hl => match us, hl with | [_, _, _], _ => rfl) (fun vs H Q E h => ?_) (fun cdv A outer s H vs Q E hr h => ?_)
  · obtain ⟨n, r, b, m, rfl, _⟩ := h
    rfl
  · obtain ⟨n, r, b, mk, rfl, ⟨t, h1, h2⟩, ⟨ok, hs⟩, hn8, hk0, hk1, q⟩ := h
    have hl8 := ok_len ok
    have hpos := List.length_pos_iff.2 ok.2.2.2
    have hseat : ∀ s ∈ b.2, 0 ≤ s ∧ s < (n : Int) := fun s hm => ⟨(asc_ge ok.2.2.1 s hm).1, hs s hm⟩
    have hb12 := ok.2.1
    have hb0 := ok.1
    have e12 : (10 : Int) ^ 12 = 1000000000000 := by decide
    refine ⟨_, (pss_cons (ps_asg (pv 1) (pg_tup rfl (pgs_cons (pg_name (i := 3) sc__law_pay.nd rfl (Or.inl rfl)) (pgs_cons (pg_name (i := 4) sc__law_pay.nd rfl (Or.inr rfl)) pgs_nil))))
    (pss_cons (ps_set (i := 5) sc__law_pay.nd rfl (Or.inr rfl) (pe_opA Like.refl pas_main (pv 3) (pe_biA (id := "len") Like.refl pas_main (by rfl) (by decide +kernel) (pa_cons (pv 4) pa_nil))))
    (pss_cons (ps_par3 (i := 6) (j := 7) (l := 8) rfl sc__law_pay.nd rfl rfl rfl (by decide) (by decide) (by decide) rfl rfl rfl (pa_cons (pe_lc (own := [("_law_seat", 9)]) (g := gName 9) (tt := tYes) rfl sc__law_pay.nd (pi_range1 (by rfl) T.z_range (pa_cons (pv 0) pa_nil)) (blkOk_by (own := [("_law_seat", 9)]) (N := N__law_pay) (sc := defScope s__law_pay) (by decide +kernel)) (fun _ _ _ _ _ => (pg_name (i := 9) sc__law_pay.nd rfl (by first | exact Or.inl rfl | exact Or.inr rfl))) (fun _ _ _ _ _ => pts_nil) (fun _ _ _ _ _ => (pe_ifExp (pt_cmpA ⟨rfl, rfl, rfl, rfl, rfl, rfl, rfl⟩ passL (pv 9) (pv 4) (by with_unfolding_all rfl)) (pv 5) (pe_int)))) (pa_cons (pe_opA Like.refl pas_main (pv 3) (pe_opA Like.refl pas_main (pv 5) (pe_biA (id := "len") Like.refl pas_main (by rfl) (by decide +kernel) (pa_cons (pv 4) pa_nil)))) (pa_cons (pv 2) pa_nil))) (by rfl))
    (pss_cons (ps_while own_main (pt_cmpA Like.refl pas_main (pv 7) (pe_int) (nomark _)) (pss_cons (ps_set (i := 8) sc__law_pay.nd rfl (Or.inl rfl) (pe_opA Like.refl pas_main (pe_tyA (T := "int") Like.refl pas_main (by rfl) (by decide +kernel) (pa_cons (pe_opA Like.refl pas_main (pv 8) (pe_int)) pa_nil)) (pv 0)))
    (pss_one (ps_if (pt_cmpA Like.refl pas_main (pv 8) (pv 4) (by with_unfolding_all rfl)) (pss_cons (ps_agS Like.refl pas_main (pv 6) (pv 8) (pe_int))
    (pss_one (ps_par (i := 7) (j := 2) rfl sc__law_pay.nd rfl rfl (by decide) rfl rfl (pa_cons (pe_opA Like.refl pas_main (pv 7) (pe_int)) (pa_cons (pv 8) pa_nil)) (by rfl)))) pss_nil))))
    (pss_one (ps_ret (pe_tup (pa_cons (pv 6) (pa_cons (pv 2) pa_nil))))))))), ?_⟩
    walk_at "go"
    refine g_pair (SqT.of h1) ?_
    dsimp only [List.set]
    walk_at "go"
    refine s_lenT (SqT.of h2) ?_
    rw [List.length_map]
    refine s_fdivW (wide_div (b := 40) (by omega) (by omega) (by decide) (by decide)) ?_
    walk_at "go"
    refine w_par3 ?_
    walk_at "go"
    refine c_rng (n := n) (fun k => (List.range k).map fun i : Nat => V.int (if (i : Int) ∈ b.2 then b.1 / (b.2.length : Nat) else 0)) rfl (by omega) (fun k hk => by rw [List.length_map, List.length_range]; omega) (fun _ => rfl) (fun k H' hk s1 => ?_) (fun c H' hc s1 hL => ?_) (fun R k => ?_)
    · show Turn1 _ _ _ _ ((List.range k).map _) ((List.range (k + 1)).map _)
      rw [List.range_succ, List.map_append]
      refine turn1_map fun R hR => ?_
      walk_at "go"
      refine s_in (.inr (SqT.of (s1 _ _ h2))) ?_
      walk_at "go"
      refine ite_d (fun hin => ?_) (fun hin => ?_)
      · walk_at "go"
        have e := hR _ (Same.refl _)
        dsimp only at e
        rw [if_pos hin] at e
        exact e
      · walk_at "go"
        have e := hR _ (Same.refl _)
        dsimp only at e
        rw [if_neg hin] at e
        exact e
    · have eL : ((List.range n).map fun i : Nat => V.int (if (i : Int) ∈ b.2 then b.1 / (b.2.length : Nat) else 0)) = (baseC n (b.1 / (b.2.length : Nat)) b.2).map V.int := by
        rw [base_pick (fun s h => (hseat s h).1), List.map_map]
        rfl
      rw [eL] at hL
      walk_at "go"
      refine s_lenT (SqT.of (s1 _ _ h2)) ?_
      rw [List.length_map]
      refine s_mul (.inr ⟨by omega, by omega⟩) ?_
      walk_at "go"
      have hmod : b.1 - b.1 / (b.2.length : Nat) * (b.2.length : Nat) = b.1 % (b.2.length : Nat) := by
        have := Int.mul_ediv_add_emod b.1 (b.2.length : Nat)
        rw [Int.mul_comm] at this
        omega
      rw [hmod]
      have hodd : 0 ≤ b.1 % (b.2.length : Nat) := Int.emod_nonneg _ (by omega)
      have hodd2 : b.1 % (b.2.length : Nat) < (b.2.length : Nat) := Int.emod_lt_of_pos _ (by omega)
      refine ⟨_, _, _, rfl, ?_⟩
      dsimp only [List.set]
      walk_at "go"
      refine ⟨fun mm σ H3 => ∃ j, mm = n - j ∧ j ≤ n ∧ (hits n mk b.2 j).length ≤ (b.1 % (b.2.length : Nat)).toNat ∧ Same H H3 ∧ H3 c = some (.lst ((bumps (baseC n (b.1 / (b.2.length : Nat)) b.2) (hits n mk b.2 j)).map V.int)) ∧
        ∃ x9, σ = [some (.int n), some (.ref r), some (.int ((hits n mk b.2 j).getLastD mk)), some (.int b.1), some (.ref t), some (.int (b.1 / (b.2.length : Nat))), some (.ref c), some (.int (b.1 % (b.2.length : Nat) - ((hits n mk b.2 j).length : Nat))), some (.int (pl n mk j)), x9], ⟨n, 0, rfl, Nat.zero_le _, Nat.zero_le _, s1, hL, none, ?_⟩, ?_⟩
      · have e0 : pl n mk 0 = mk := by
          unfold pl
          rw [if_pos (by omega)]
          omega
        show _ = [_, _, some (V.int mk), _, _, _, _, some (V.int (b.1 % (b.2.length : Nat) - ((0 : Nat) : Int))), some (V.int (pl n mk 0)), _]
        rw [e0, show b.1 % (b.2.length : Nat) - ((0 : Nat) : Int) = b.1 % (b.2.length : Nat) by omega]
        rfl
      · rintro mm σ H3 ⟨j, rfl, hj, hle, s5, hc5, x9, rfl⟩
        obtain ⟨htake, hbl⟩ := hits_take hk0 hk1 ok.2.2.1 hs hj
        walk_at "go"
        refine ite_d (fun hleft => ?_) (fun hdone => ?_)
        · have hjn : j < n := by
            rcases Nat.lt_or_ge j n with z | z
            · exact z
            · have hjn : j = n := by omega
              subst hjn
              rw [hits_all hk0 hk1 ok.2.2.1 hs, filt_len] at hleft
              omega
          refine ⟨fun σ' H4 => ∃ m', m' < n - j ∧ ∃ j', m' = n - j' ∧ j' ≤ n ∧ (hits n mk b.2 j').length ≤ (b.1 % (b.2.length : Nat)).toNat ∧ Same H H4 ∧ H4 c = some (.lst ((bumps (baseC n (b.1 / (b.2.length : Nat)) b.2) (hits n mk b.2 j')).map V.int)) ∧
            ∃ x9, σ' = [some (.int n), some (.ref r), some (.int ((hits n mk b.2 j').getLastD mk)), some (.int b.1), some (.ref t), some (.int (b.1 / (b.2.length : Nat))), some (.ref c), some (.int (b.1 % (b.2.length : Nat) - ((hits n mk b.2 j').length : Nat))), some (.int (pl n mk j')), x9], fun _ _ h => h, ?_⟩
          have hpr := pl_range hk0 hk1 (show j + 1 ≤ n by omega)
          have hnx := hits_next n mk b.2 j
          walk_at "go"
          refine s_intI ?_
          walk_at "go"
          rw [pl_next hk0 hk1 hjn]
          walk_at "go"
          refine s_in (.inr (SqT.of (s5 _ _ h2))) ?_
          walk_at "go"
          refine ite_d (fun hin => ?_) (fun hout => ?_)
          · rw [if_pos hin] at hnx
            have hlb : (bumps (baseC n (b.1 / (b.2.length : Nat)) b.2) (hits n mk b.2 j)).length = n := by rw [bumps_len, baseC_len]
            have hz2 : (pl n mk (j + 1)).toNat < (bumps (baseC n (b.1 / (b.2.length : Nat)) b.2) (hits n mk b.2 j)).length := by omega
            walk_at "go"
            refine w_agS (K := K) ?_
            walk_at "go"
            refine s_getL (SqL.of hc5) hpr.1 (v := .int ((bumps (baseC n (b.1 / (b.2.length : Nat)) b.2) (hits n mk b.2 j)).getD (pl n mk (j + 1)).toNat 0)) (by rw [List.getElem?_map, List.getD_eq_getElem?_getD, List.getElem?_eq_getElem hz2] <;> rfl) ?_
            walk_at "go"
            refine s_iadd ?_
            refine s_setL hc5 (ixN_of hpr.1 (by rw [List.length_map, hlb]; exact hpr.2)) ?_
            walk_at "go"
            with_reducible refine' w_par ?_
            walk_at "go"
            refine ⟨_, _, rfl, n - (j + 1), by omega, j + 1, rfl, by omega, by rw [hnx, List.length_append, List.length_singleton]; omega, same_mut s5 hc, ?_, x9, ?_⟩
            · rw [upd_same, hnx, bumps_snoc, List.map_set]
            · rw [hnx, List.getLastD_concat, List.length_append, List.length_singleton]
              rw [show b.1 % (b.2.length : Nat) - (((hits n mk b.2 j).length + 1 : Nat) : Int) = b.1 % (b.2.length : Nat) - ((hits n mk b.2 j).length : Nat) - 1 by omega]
              rfl
          · rw [if_neg hout] at hnx
            walk_at "go"
            exact ⟨n - (j + 1), by omega, j + 1, rfl, by omega, by rw [hnx]; exact hle, s5, by rw [hnx]; exact hc5, x9, by rw [hnx]; rfl⟩
        · have hlen2 : (hits n mk b.2 j).length = (b.1 % (b.2.length : Nat)).toNat := by omega
          rw [hlen2] at htake
          have ehp : hits n mk b.2 j = payers mk b := htake
          rw [ehp] at hc5 ⊢
          walk_at "go"
          refine ⟨by show 2 ≤ sizeLine; decide, fun T2 hT2 => ?_⟩
          have s6 := same_new (o := .tup [.ref c, .int (splitM mk b)]) hT2
          exact q T2 c _ (s5.free hT2) hc (s5.trans s6) upd_same (s6 _ _ hc5)
    · walk_at "go"
      exact k
def spWPaid : Sp := fun vs H Q _ => ∃ (n : Nat) (p : Addr) (m : Int) (rs : List Addr) (rows : List (Int × List Int)), vs = [.int n, .ref p, .int m] ∧ H p = some (.lst (rs.map V.ref)) ∧ RowsAt H rs rows ∧ n ≤ 8 ∧ 0 ≤ m ∧ m < (n : Int) ∧ (∀ b ∈ rows, RowOk n b) ∧
  ∀ T l H', H T = none → H l = none → Same H H' → H' T = some (.tup [.ref l, .int (evRun n m rows).2]) → H' l = some (.lst ((evRun n m rows).1.map V.int)) → Q (.ref T) H'
theorem ok_wpaid (T : Facts K mg a) : FnR P w K mg base (L2.CX P w) 2 a.f__law_paid spWPaid := by
  obtain ⟨fd, F⟩ := T.u__law_paid
  have GP : FnR P w K mg base (L2.CX P w) 1 a.f__law_pay spWPay := ok_wpay T
  refine fnr_ok F sc__law_paid (F.binds fun _ _ _ _ _ _ us hl => match us, hl with | [_, _, _], _ => rfl) (fun vs H Q E h => ?_) (fun cdv A outer s H vs Q E hr h => ?_)
  · obtain ⟨n, p, m, rs, rows, rfl, _⟩ := h
    rfl
  · obtain ⟨n, p, m, rs, rows, rfl, hp, hrw, hn8, hm0, hm1, hok, q⟩ := h
    refine ⟨_, (pss_cons (ps_set (i := 3) sc__law_paid.nd rfl (Or.inr rfl) (pe_opA Like.refl pas_main (pe_lst (pa_cons (pe_int) pa_nil)) (pv 0)))
    (pss_cons (ps_for own_main rfl (pi_seqA Like.refl (pv 1)) (pg_name (i := 4) sc__law_paid.nd rfl (Or.inl rfl)) (pss_cons (ps_asg (pe_glA Like.refl pas_main (by rfl) (pa_cons (pv 0) (pa_cons (pv 4) (pa_cons (pv 2) pa_nil)))) (pg_tup rfl (pgs_cons (pg_name (i := 5) sc__law_paid.nd rfl (Or.inr rfl)) (pgs_cons (pg_name (i := 2) sc__law_paid.nd rfl (Or.inl rfl)) pgs_nil))))
    (pss_one (ps_set (i := 3) sc__law_paid.nd rfl (Or.inr rfl) (pe_lc (own := [("_law_seat", 6)]) (g := gName 6) (tt := tYes) rfl sc__law_paid.nd (pi_range1 (by rfl) T.z_range (pa_cons (pv 0) pa_nil)) (blkOk_by (own := [("_law_seat", 6)]) (N := N__law_paid) (sc := defScope s__law_paid) (by decide +kernel)) (fun _ _ _ _ _ => (pg_name (i := 6) sc__law_paid.nd rfl (by first | exact Or.inl rfl | exact Or.inr rfl))) (fun _ _ _ _ _ => pts_nil) (fun _ _ _ _ _ => (pe_opA ⟨rfl, rfl, rfl, rfl, rfl, rfl, rfl⟩ passL (pe_ixA ⟨rfl, rfl, rfl, rfl, rfl, rfl, rfl⟩ passL (pv 3) (pv 6)) (pe_ixA ⟨rfl, rfl, rfl, rfl, rfl, rfl, rfl⟩ passL (pv 5) (pv 6)))))))))
    (pss_one (ps_ret (pe_tup (pa_cons (pv 3) (pa_cons (pv 2) pa_nil))))))), ?_⟩
    walk_at "go"
    refine ⟨by show 1 ≤ sizeLine; decide, fun c0 hc0 => ?_⟩
    walk_at "go"
    refine s_rep upd_same (by omega) (by omega) (sz5 (by simp; omega)) fun c hc => ?_
    rw [flat1, Int.toNat_natCast]
    have s2 := same_new (o := .lst [.int 0]) hc0
    have s3 := same_new (o := .lst (List.replicate n (V.int 0))) hc
    walk_at "go"
    refine f_lst (a := p) (xs := rs.map V.ref) (fun k σ H' => Same H H' ∧ ∃ l x4 x5 x6, σ = [some (.int n), some (.ref p), some (.int (evRun n m (rows.take k)).2), some (.ref l), x4, x5, x6] ∧ H l = none ∧ H' l = some (.lst ((evRun n m (rows.take k)).1.map V.int)) ∧ 0 ≤ (evRun n m (rows.take k)).2 ∧ (evRun n m (rows.take k)).2 < (n : Int)) (fun R k => ?_)
      ⟨s2.trans s3, c, none, none, none, by rw [List.take_zero]; rfl, s2.free hc, by rw [upd_same, List.take_zero]; show _ = some (HO.lst ((List.replicate n 0).map V.int)); rw [List.map_replicate], by rw [List.take_zero]; exact hm0, by rw [List.take_zero]; exact hm1⟩ (fun k σ H' _ pv => SqL.of (pv.1 _ _ hp)) (fun k x σ H' hx pv => ?_) (fun σ H' pv => ?_)
    · walk_at "go"
      exact k
    · obtain ⟨s1, l, x4, x5, x6, rfl, hl0, hL, hk0, hk1⟩ := pv
      rw [List.getElem?_map] at hx
      cases er : rs[k]? with
      | none => rw [er] at hx; cases hx
      | some r =>
        rw [er] at hx
        cases hx
        obtain ⟨hk, _⟩ := List.getElem?_eq_some_iff.1 er
        obtain ⟨b, eb⟩ : ∃ b, rows[k]? = some b := ⟨_, List.getElem?_eq_getElem (by rw [← hrw.1]; exact hk)⟩
        have hb := hok b (List.mem_of_getElem? eb)
        have e3 : rows.take (k + 1) = rows.take k ++ [b] := by rw [List.take_add_one, eb]; rfl
        have hrow := (hrw.2 k r b er eb).keep fun q xs e => s1 _ _ e
        have hln : (evRun n m (rows.take k)).1.length = n := evRun_len ..
        have erun := evRun_snoc n m (rows.take k) b
        rw [e3, erun]
        generalize evRun n m (rows.take k) = z at *
        refine w_name ?_
        walk_at "go"
        refine s_fn GP hr ⟨n, r, b, z.2, rfl, hrow, hb, hn8, hk0, hk1, fun T2 c2 H2 hT2 hc2 s4 h4 h5 => ?_⟩
        refine g_pair (SqT.of h4) ?_
        dsimp only [List.set]
        walk_at "go"
        have hcl := splitC_len n z.2 b
        refine c_rng (n := n) (fun k => (List.range k).map fun i : Nat => V.int (z.1.getD i 0 + (splitC n z.2 b).getD i 0)) rfl (by omega) (fun k hk => by rw [List.length_map, List.length_range]; omega) (fun _ => rfl) (fun k H3 hk s5 => ?_) (fun c H3 hc s5 hL3 => ?_) (fun R k => ?_)
        · show Turn1 _ _ _ _ ((List.range k).map _) ((List.range (k + 1)).map _)
          rw [List.range_succ, List.map_append]
          refine turn1_map fun R hR => ?_
          walk_at "go"
          refine s_ixL (SqL.of (s5 _ _ (s4 _ _ hL))) (v := .int (z.1.getD k 0)) (at_of (j := k) (by omega) (by rw [List.getElem?_map, List.getD_eq_getElem?_getD, List.getElem?_eq_getElem (by omega)]; rfl)) ?_
          walk_at "go"
          refine s_ixL (SqL.of (s5 _ _ h5)) (v := .int ((splitC n z.2 b).getD k 0)) (at_of (j := k) (by omega) (by rw [List.getElem?_map, List.getD_eq_getElem?_getD, List.getElem?_eq_getElem (by omega)]; rfl)) ?_
          walk_at "go"
          exact hR _ (Same.refl _)
        · have eL : ((List.range n).map fun i : Nat => V.int (z.1.getD i 0 + (splitC n z.2 b).getD i 0)) = (List.zipWith (· + ·) z.1 (splitC n z.2 b)).map V.int := by
            refine List.ext_getElem? fun i => ?_
            by_cases hi : i < n
            · rw [List.getElem?_map, List.getElem?_range hi, List.getElem?_map, List.getElem?_zipWith, Option.map_some]
              rw [List.getD_eq_getElem?_getD, List.getD_eq_getElem?_getD, List.getElem?_eq_getElem (show i < z.1.length by omega), List.getElem?_eq_getElem (show i < (splitC n z.2 b).length by omega)]
              rfl
            · rw [List.getElem?_eq_none (by rw [List.length_map, List.length_range]; omega), List.getElem?_eq_none (by rw [List.length_map, List.length_zipWith]; omega)]
          rw [eL] at hL3
          have hrng := splitM_range hb.1 hb.2 hk0 hk1
          walk_at "go"
          exact ⟨(s1.trans s4).trans s5, c, _, _, _, rfl, s1.free (s4.free hc), hL3, hrng.1, hrng.2⟩
        · walk_at "go"
          exact k
    · obtain ⟨s1, l, x4, x5, x6, rfl, hl0, hL, hk0, hk1⟩ := pv
      rw [List.length_map, hrw.1, List.take_of_length_le (Nat.le_refl _)] at hL ⊢
      walk_at "go"
      refine ⟨by show 2 ≤ sizeLine; decide, fun T2 hT2 => ?_⟩
      have s6 := same_new (o := .tup [.ref l, .int (evRun n m rows).2]) hT2
      exact q T2 l _ (s1.free hT2) hl0 (s1.trans s6) upd_same (s6 _ _ hL)
end

end Odd

namespace Odd
open PySem PySem.Spec PyProof.Rows L2
/-! tactics of this text: st one step, go as many as go -/
local macro_rules | `(tactic| walk_at "ar") => `(tactic| first | assumption | omega | (show (_ : Int) < _; omega) | decide)
local macro_rules | `(tactic| walk_at "st") => `(tactic| first
  | with_reducible refine' w_seq ?_
  | with_reducible refine' w_asg ?_
  | with_reducible refine' w_name ?_
  | with_reducible refine' w_c ?_
  | with_reducible refine' w_op ?_
  | with_reducible refine' w_ix ?_
  | with_reducible refine' w_at ?_
  | with_reducible refine' w_cons ?_
  | with_reducible refine' w_nil ?_
  | with_reducible refine' w_ret ?_
  | with_reducible refine' w_if ?_
  | with_reducible refine' w_test ?_
  | with_reducible refine' w_tr ?_
  | with_reducible refine' w_un ?_
  | with_reducible refine' w_andV ?_
  | with_reducible refine' w_orV ?_
  | with_reducible refine' w_notA ?_
  | with_reducible refine' w_ch ?_
  | with_reducible refine' w_and ?_
  | with_reducible refine' w_or ?_
  | with_reducible refine' w_not ?_
  | with_reducible refine' w_ifx ?_
  | with_reducible refine' w_tup ?_
  | with_reducible refine' w_lst ?_
  | with_reducible refine' w_next ?_
  | with_reducible refine' w_drop ?_
  | with_reducible refine' w_retN ?_
  | ((with_reducible refine' w_var ?h ?_); (case h => exact rfl))
  | ((with_reducible refine' w_bi ?h ?_); (case h => walk_at "mg"))
  | ((with_reducible refine' w_bv ?h ?_); (case h => walk_at "mg"))
  | ((with_reducible refine' w_gv ?h ?_); (case h => walk_at "mg"))
  | ((with_reducible refine' w_gl ?h ?k ?_); (case h => walk_at "mg"); (case k => walk_at "kp"))
  | ((with_reducible refine' w_glS ?h ?k ?_); (case h => walk_at "mg"); (case k => walk_at "kp"))
  | with_reducible refine' bl_ex ?_
  | with_reducible refine' iteT ?_
  | with_reducible refine' iteF ?_
  | with_reducible refine' ite_nf ?_
  | with_reducible refine' ite_nt ?_
  | with_reducible refine' s_add ?_
  | with_reducible refine' s_sub ?_
  | with_reducible refine' s_lt ?_
  | with_reducible refine' s_le ?_
  | with_reducible refine' s_gt ?_
  | with_reducible refine' s_ge ?_
  | with_reducible refine' s_eqI ?_
  | with_reducible refine' s_neI ?_
  | with_reducible refine' s_eqB ?_
  | with_reducible refine' s_neB ?_
  | with_reducible refine' s_truB ?_
  | with_reducible refine' s_truI ?_
  | with_reducible refine' s_neg ?_
  | ((with_reducible refine' s_mod ?h ?_); (case h => walk_at "ar")))
local macro_rules | `(tactic| walk_at "go") => `(tactic| repeat walk_at "st")

local macro_rules | `(tactic| walk_at "mg") => `(tactic| first | assumption | exact Facts.z_TypeError (by assumption) | exact Facts.z_bool (by assumption) | exact Facts.z_classmethod (by assumption) | exact Facts.z_dict (by assumption) | exact Facts.z_divmod (by assumption) | exact Facts.z_enumerate (by assumption) | exact Facts.z_int (by assumption) | exact Facts.z_isinstance (by assumption) | exact Facts.z_len (by assumption) | exact Facts.z_list (by assumption) | exact Facts.z_max (by assumption) | exact Facts.z_min (by assumption) | exact Facts.z_property (by assumption) | exact Facts.z_range (by assumption) | exact Facts.z_sorted (by assumption) | exact Facts.z_str (by assumption) | exact Facts.z_sum (by assumption) | exact Facts.z_super (by assumption) | exact Facts.z_tuple (by assumption) | exact Facts.z_zip (by assumption) | exact Facts.g__wall (by assumption) | exact Facts.g_is_between (by assumption) | exact Facts.g_is_digits (by assumption) | exact Facts.g_seats_of (by assumption) | exact Facts.g_check_amount (by assumption) | exact Facts.g_check_seats (by assumption) | exact Facts.g_check_seat_count (by assumption) | exact Facts.g_check_bills (by assumption) | exact Facts.g_check_mark (by assumption) | exact Facts.g_no_shares (by assumption) | exact Facts.g_seats_behind (by assumption) | exact Facts.g_split_bill (by assumption) | exact Facts.g_title_line (by assumption) | exact Facts.g_line_of (by assumption) | exact Facts.g_seat_line (by assumption) | exact Facts.g_receipt (by assumption) | exact Facts.g_cents_of_line (by assumption) | exact Facts.g_mark_of_line (by assumption) | exact Facts.g_parse_receipt (by assumption) | exact Facts.g_amount_bytes (by assumption) | exact Facts.g_checksum (by assumption) | exact Facts.g_encode_evening (by assumption) | exact Facts.g_byte_at (by assumption) | exact Facts.g_amount_at (by assumption) | exact Facts.g_decode_evening (by assumption) | exact Facts.g_row_of (by assumption) | exact Facts.g_format_evening (by assumption) | exact Facts.g_is_number (by assumption) | exact Facts.g_check_row (by assumption) | exact Facts.g_numbers_of_row (by assumption) | exact Facts.g_parse_evening (by assumption) | exact Facts.g__law_mix (by assumption) | exact Facts.g__law_next (by assumption) | exact Facts.g__law_alike (by assumption) | exact Facts.g__law_bill (by assumption) | exact Facts.g__law_bills (by assumption) | exact Facts.g__law_text (by assumption) | exact Facts.g__law_pay (by assumption) | exact Facts.g__law_paid (by assumption) | exact Facts.g__law_money (by assumption) | exact Facts.g__law_lines (by assumption) | exact Facts.g_law (by assumption) | exact Facts.g_Shares (by assumption) | exact Facts.g_Bill (by assumption) | exact Facts.g_Evening (by assumption))
local macro_rules | `(tactic| walk_at "kp") => `(tactic| first | assumption | exact (Facts.mk_Shares (by assumption)).kp | exact (Facts.mk_Bill (by assumption)).kp | exact (Facts.mk_Evening (by assumption)).kp | exact Fun.kp (Facts.u__wall (by assumption)).choose_spec | exact Fun.kp (Facts.u_is_between (by assumption)).choose_spec | exact Fun.kp (Facts.u_is_digits (by assumption)).choose_spec | exact Fun.kp (Facts.u_seats_of (by assumption)).choose_spec | exact Fun.kp (Facts.u_check_amount (by assumption)).choose_spec | exact Fun.kp (Facts.u_check_seats (by assumption)).choose_spec | exact Fun.kp (Facts.u_check_seat_count (by assumption)).choose_spec | exact Fun.kp (Facts.u_check_bills (by assumption)).choose_spec | exact Fun.kp (Facts.u_check_mark (by assumption)).choose_spec | exact Fun.kp (Facts.u_no_shares (by assumption)).choose_spec | exact Fun.kp (Facts.u_seats_behind (by assumption)).choose_spec | exact Fun.kp (Facts.u_split_bill (by assumption)).choose_spec | exact Fun.kp (Facts.u_title_line (by assumption)).choose_spec | exact Fun.kp (Facts.u_line_of (by assumption)).choose_spec | exact Fun.kp (Facts.u_seat_line (by assumption)).choose_spec | exact Fun.kp (Facts.u_receipt (by assumption)).choose_spec | exact Fun.kp (Facts.u_cents_of_line (by assumption)).choose_spec | exact Fun.kp (Facts.u_mark_of_line (by assumption)).choose_spec | exact Fun.kp (Facts.u_parse_receipt (by assumption)).choose_spec | exact Fun.kp (Facts.u_amount_bytes (by assumption)).choose_spec | exact Fun.kp (Facts.u_checksum (by assumption)).choose_spec | exact Fun.kp (Facts.u_encode_evening (by assumption)).choose_spec | exact Fun.kp (Facts.u_byte_at (by assumption)).choose_spec | exact Fun.kp (Facts.u_amount_at (by assumption)).choose_spec | exact Fun.kp (Facts.u_decode_evening (by assumption)).choose_spec | exact Fun.kp (Facts.u_row_of (by assumption)).choose_spec | exact Fun.kp (Facts.u_format_evening (by assumption)).choose_spec | exact Fun.kp (Facts.u_is_number (by assumption)).choose_spec | exact Fun.kp (Facts.u_check_row (by assumption)).choose_spec | exact Fun.kp (Facts.u_numbers_of_row (by assumption)).choose_spec | exact Fun.kp (Facts.u_parse_evening (by assumption)).choose_spec | exact Fun.kp (Facts.u__law_mix (by assumption)).choose_spec | exact Fun.kp (Facts.u__law_next (by assumption)).choose_spec | exact Fun.kp (Facts.u__law_alike (by assumption)).choose_spec | exact Fun.kp (Facts.u__law_bill (by assumption)).choose_spec | exact Fun.kp (Facts.u__law_bills (by assumption)).choose_spec | exact Fun.kp (Facts.u__law_text (by assumption)).choose_spec | exact Fun.kp (Facts.u__law_pay (by assumption)).choose_spec | exact Fun.kp (Facts.u__law_paid (by assumption)).choose_spec | exact Fun.kp (Facts.u__law_money (by assumption)).choose_spec | exact Fun.kp (Facts.u__law_lines (by assumption)).choose_spec | exact Fun.kp (Facts.u_law (by assumption)).choose_spec)
/-! ### how many bills an evening has -/
section
variable {P : Program} {w : World} {K : PySem.W.Frag} {mg : Str → Option Value} {base : Heap} {a : Ad}
def spEvLen (CE CB : Addr) : Sp := fun vs H Q _ => ∃ (p : Addr) (n : Int) (bs : List (Int × List Int)), vs = [.ref p] ∧ EvAt CE CB H p n bs ∧ Q (.int (bs.length : Nat)) H
theorem ok_ev_len (T : Facts K mg a) : FnR P w K mg base (L2.CX P w) 1 a.f_Evening__len_ (spEvLen a.c_Evening a.c_Bill) := by
  obtain ⟨fd, F⟩ := T.u_Evening__len_
  refine fnr_ok F sc_Evening__len_ (F.binds fun _ _ _ _ _ _ us hl => match us, hl with | [_], _ => rfl) (fun vs H Q E h => ?_) (fun cdv A outer s H vs Q E hr h => ?_)
  · obtain ⟨p, n, bs, rfl, _⟩ := h
    rfl
  · obtain ⟨p, n, bs, rfl, ⟨dx, t, ps, e1, e2, e3⟩, q⟩ := h
    refine ⟨_, (pss_one (ps_ret (pe_biA (id := "len") Like.refl pas_main (by rfl) (by decide +kernel) (pa_cons (pe_atA Like.refl pas_main (pv 0)) pa_nil)))), ?_⟩
    walk_at "go"
    refine s_fld e1 T.cl_Evening T.na_Evening_bills look_bills ?_
    walk_at "go"
    refine s_lenT (SqT.of e2) ?_
    rw [List.length_map, e3.1]
    exact q
end

/-! ### the bytes of evenings -/
/-- groups of seven bits, the lowest first -/
def vb : Nat → Int → List Int
  | 0, n => [n]
  | f + 1, n => if n < 128 then [n] else (n % 128 + 128) :: vb f (n / 128)
theorem vb_len : ∀ (f : Nat) (n : Int), (vb f n).length ≤ f + 1
  | 0, n => by simp [vb]
  | f + 1, n => by
    unfold vb
    split
    · simp
    · rw [List.length_cons]
      have := vb_len f (n / 128)
      omega
theorem vb_small {f : Nat} {n : Int} (h : n < 128) : vb f n = [n] := by
  cases f with
  | zero => rfl
  | succ f => unfold vb; rw [if_pos h]
theorem vb_big {f : Nat} {n : Int} (h : 128 ≤ n) (hb : n < 128 ^ (f + 1)) : ∃ g, f = g + 1 ∧ vb f n = (n % 128 + 128) :: vb g (n / 128) ∧ n / 128 < 128 ^ (g + 1) := by
  cases f with
  | zero => exact absurd hb (by rw [Int.pow_succ, Int.pow_zero]; omega)
  | succ g =>
    refine ⟨g, rfl, ?_, ?_⟩
    · show (if n < 128 then [n] else (n % 128 + 128) :: vb g (n / 128)) = _
      rw [if_neg (show ¬ n < 128 by omega)]
    · exact Int.ediv_lt_of_lt_mul (by decide) (by rw [← Int.pow_succ]; exact hb)
theorem cap6 {n : Int} (h : n ≤ 10 ^ 12) : n < 128 ^ (6 + 1) := by
  have e1 : (10 : Int) ^ 12 = 1000000000000 := by decide
  have e2 : (128 : Int) ^ (6 + 1) = 562949953421312 := by decide
  omega
def pw (s : Int) : Int := 2 ^ s.toNat
def bitI (ss : List Int) : Int := (ss.map pw).sum
def rowB (b : Int × List Int) : List Int := vb 6 b.1 ++ [bitI b.2]
def rowsB (bs : List (Int × List Int)) : List Int := (bs.map rowB).flatten
def evB (n : Nat) (bs : List (Int × List Int)) : List Int := [111, (n : Int), (bs.length : Int)] ++ rowsB bs
theorem rowsB_snoc (bs : List (Int × List Int)) (b : Int × List Int) : rowsB (bs ++ [b]) = rowsB bs ++ (vb 6 b.1 ++ [bitI b.2]) := by
  unfold rowsB
  rw [List.map_append, List.flatten_append]
  simp [rowB]
theorem rowB_len (b : Int × List Int) : (rowB b).length ≤ 8 := by
  unfold rowB
  rw [List.length_append]
  have := vb_len 6 b.1
  simp
  omega
theorem rowsB_len : ∀ bs : List (Int × List Int), (rowsB bs).length ≤ 8 * bs.length
  | [] => by simp [rowsB]
  | b :: bs => by
    have h1 := rowsB_len bs
    have h2 := rowB_len b
    unfold rowsB at *
    rw [List.map_cons, List.flatten_cons, List.length_append, List.length_cons]
    omega
/-- bytes with their places as weights -/
def wsum : Nat → List Int → List Int
  | _, [] => []
  | i, x :: xs => (x * ((i : Int) + 1)) :: wsum (i + 1) xs
theorem wsum_snoc : ∀ (i : Nat) (xs : List Int) (x : Int), wsum i (xs ++ [x]) = wsum i xs ++ [x * (((i + xs.length : Nat) : Int) + 1)]
  | i, [], x => by simp [wsum]
  | i, y :: ys, x => by
    show _ :: wsum (i + 1) (ys ++ [x]) = (_ :: wsum (i + 1) ys) ++ _
    rw [wsum_snoc (i + 1) ys x, List.cons_append, List.length_cons]
    congr 4
    omega
theorem wsum_len : ∀ (i : Nat) (xs : List Int), (wsum i xs).length = xs.length
  | _, [] => rfl
  | i, x :: xs => by show (wsum (i + 1) xs).length + 1 = xs.length + 1; rw [wsum_len]
def chk (xs : List Int) : Int := (wsum 0 xs).sum % 249
theorem wsum_take {xs : List Int} {k : Nat} {x : Int} (e : xs[k]? = some x) : wsum 0 (xs.take (k + 1)) = wsum 0 (xs.take k) ++ [x * ((k : Int) + 1)] := by
  rw [List.take_add_one, e]
  show wsum 0 (xs.take k ++ [x]) = _
  rw [wsum_snoc, Nat.zero_add, List.length_take, Nat.min_eq_left (by have := (List.getElem?_eq_some_iff.1 e).1; omega)]
section
variable {P : Program} {w : World} {K : PySem.W.Frag} {mg : Str → Option Value} {base : Heap} {a : Ad}
def spSum : Sp := fun vs H Q _ => ∃ (l : Addr) (xs : List Int), vs = [.ref l] ∧ H l = some (.lst (xs.map V.int)) ∧ xs.length ≤ 1000 ∧ ∀ H', Same H H' → Q (.int (chk xs)) H'
theorem ok_checksum (T : Facts K mg a) : FnR P w K mg base (L2.CX P w) 1 a.f_checksum spSum := by
  obtain ⟨fd, F⟩ := T.u_checksum
  refine fnr_ok F sc_checksum (F.binds fun _ _ _ _ _ _ us hl => match us, hl with | [_], _ => rfl) (fun vs H Q E h => ?_) (fun cdv A outer s H vs Q E hr h => ?_)
  · obtain ⟨l, xs, rfl, _⟩ := h
    rfl
  · obtain ⟨l, xs, rfl, hl, hz, q⟩ := h
    refine ⟨_, (pss_one (ps_ret (pe_opA Like.refl pas_main (pe_biA (id := "sum") Like.refl pas_main (by rfl) (by decide +kernel) (pa_cons (pe_lc (own := [("offset", 1), ("byte", 2)]) (g := gTup K 2 (gCons (gName 1) (gCons (gName 2) gNil))) (tt := tYes) rfl sc_checksum.nd (pi_enumA (by rfl) T.z_enumerate (pa_cons (pv 0) pa_nil)) (blkOk_by (own := [("offset", 1), ("byte", 2)]) (N := N_checksum) (sc := defScope s_checksum) (by decide +kernel)) (fun _ _ _ _ _ => (pg_tup rfl (pgs_cons (pg_name (i := 1) sc_checksum.nd rfl (by first | exact Or.inl rfl | exact Or.inr rfl)) (pgs_cons (pg_name (i := 2) sc_checksum.nd rfl (by first | exact Or.inl rfl | exact Or.inr rfl)) pgs_nil)))) (fun _ _ _ _ _ => pts_nil) (fun _ _ _ _ _ => (pe_opA ⟨rfl, rfl, rfl, rfl, rfl, rfl, rfl⟩ passL (pv 2) (pe_opA ⟨rfl, rfl, rfl, rfl, rfl, rfl, rfl⟩ passL (pv 1) (pe_int))))) pa_nil)) (pe_int)))), ?_⟩
    walk_at "go"
    refine c_enumLI (a := l) (xs := xs.map V.int) (fun _ => False) (fun k o H' => o = (wsum 0 (xs.take k)).map V.int) (fun _ z => z.elim) (fun D hD => rfl) (fun k o H' hk p => ?_) (fun H' s2 => SqL.of (s2 _ _ id hl)) (fun k o H' D l1 l2 _ _ p => p) (fun _ _ => rfl) (fun k o H' T2 o' hT p => p)
      (fun k x H' o hx s2 p => ?_) (fun r o H' hr0 s2 p hL => ?_) (fun R k => ?_)
    · subst p
      rw [List.length_map, wsum_len, List.length_take]
      omega
    · subst p
      rw [List.getElem?_map] at hx
      cases ex : xs[k]? with
      | none => rw [ex] at hx; cases hx
      | some x =>
        rw [ex] at hx
        cases hx
        have hk := (List.getElem?_eq_some_iff.1 ex).1
        refine turnI_map fun R hR => ?_
        walk_at "go"
        refine s_mul (.inr ⟨by omega, by omega⟩) ?_
        exact hR _ _ (SameB.refl _) (by rw [wsum_take ex, List.map_append]; rfl)
    · subst p
      rw [List.length_map, List.take_of_length_le (Nat.le_refl _)] at hL
      refine s_sumL rfl (SqL.of hL) ?_
      walk_at "go"
      exact q _ (fun b o h => s2 b o id h)
    · walk_at "go"
      exact k
end

/-! ### the law's bytes, and the program's -/
section
variable {P : Program} {w : World} {K : PySem.W.Frag} {mg : Str → Option Value} {base : Heap} {a : Ad}
theorem asc_le7 : ∀ {ss : List Int} {lo : Int}, asc lo ss = true → ∀ s ∈ ss, lo ≤ s ∧ s ≤ 7
  | s :: ss, lo, h, x, hx => by
    simp only [asc, Bool.and_eq_true, decide_eq_true_eq] at h
    rcases List.mem_cons.1 hx with e | e
    · subst e; exact h.1
    · have := asc_le7 h.2 x e; omega
theorem evB_len (n : Nat) (bs : List (Int × List Int)) : (evB n bs).length ≤ 3 + 8 * bs.length := by
  have := rowsB_len bs
  unfold evB
  rw [List.length_append]
  simp
  exact this
def spABytes : Sp := fun vs H Q _ => ∃ n : Int, vs = [.int n] ∧ 0 ≤ n ∧ n ≤ 10 ^ 12 ∧ ∀ e H', H e = none → Same H H' → H' e = some (.lst ((vb 6 n).map V.int)) → Q (.ref e) H'
theorem ok_abytes (T : Facts K mg a) : FnR P w K mg base (L2.CX P w) 1 a.f_amount_bytes spABytes := by
  obtain ⟨fd, F⟩ := T.u_amount_bytes
  refine fnr_ok F sc_amount_bytes (F.binds fun _ _ _ _ _ _ us hl => match us, hl with | [_], _ => rfl) (fun vs H Q E h => ?_) (fun cdv A outer s H vs Q E hr h => ?_)
  · obtain ⟨n, rfl, _⟩ := h
    rfl
  · obtain ⟨n, rfl, h0, h1, q⟩ := h
    refine ⟨_, (pss_cons (ps_set (i := 1) sc_amount_bytes.nd rfl (Or.inl rfl) (pe_lst pa_nil))
    (pss_cons (ps_while own_main (pt_cmpA Like.refl pas_main (pv 0) (pe_gvI Like.refl (by rfl)) (nomark _)) (pss_cons (ps_expr (pe_bm PySem.F.plainAttrs_list PySem.F.slot_list_append PySem.F.type_list_append mt_append (pv 1) (pa_cons (pe_opA Like.refl pas_main (pe_opA Like.refl pas_main (pv 0) (pe_gvI Like.refl (by rfl))) (pe_gvI Like.refl (by rfl))) pa_nil)))
    (pss_one (ps_set (i := 0) sc_amount_bytes.nd rfl (Or.inl rfl) (pe_opA Like.refl pas_main (pv 0) (pe_gvI Like.refl (by rfl)))))))
    (pss_one (ps_ret (pe_opA Like.refl pas_main (pv 1) (pe_lst (pa_cons (pv 0) pa_nil))))))), ?_⟩
    walk_at "go"
    refine ⟨by show 0 ≤ sizeLine; decide, fun g hg => ?_⟩
    have s0 := same_new (o := .lst []) hg
    walk_at "go"
    refine ⟨fun mm σ H3 => ∃ (f : Nat) (am : Int) (dn : List Int), mm = am.toNat ∧ 0 ≤ am ∧ am < 128 ^ (f + 1) ∧ vb 6 n = dn ++ vb f am ∧ Same H H3 ∧ H3 g = some (.lst (dn.map V.int)) ∧ σ = [some (.int am), some (.ref g)], ⟨_, 6, n, [], rfl, h0, cap6 h1, rfl, s0, upd_same, rfl⟩, ?_⟩
    rintro mm σ H3 ⟨f, am, dn, rfl, ha0, ha1, hv, s3, hG, rfl⟩
    have hdl : dn.length ≤ 7 := by
      have := congrArg List.length hv
      rw [List.length_append] at this
      have := vb_len 6 n
      omega
    walk_at "go"
    refine w_gvI T.i_GROUP.choose_spec ?_
    walk_at "go"
    refine ite_d (fun hbig => ?_) (fun hsm => ?_)
    · obtain ⟨f2, rfl, hv2, ha2⟩ := vb_big (show 128 ≤ am by omega) ha1
      refine ⟨fun σ' H4 => ∃ m', m' < am.toNat ∧ ∃ (f : Nat) (am : Int) (dn : List Int), m' = am.toNat ∧ 0 ≤ am ∧ am < 128 ^ (f + 1) ∧ vb 6 n = dn ++ vb f am ∧ Same H H4 ∧ H4 g = some (.lst (dn.map V.int)) ∧ σ' = [some (.int am), some (.ref g)], fun _ _ h => h, ?_⟩
      walk_at "go"
      refine w_bm ?_
      walk_at "go"
      refine ⟨.inl ⟨rfl, _, SqL.of hG⟩, ?_⟩
      walk_at "go"
      refine w_gvI T.i_GROUP.choose_spec ?_
      walk_at "go"
      refine w_gvI T.i_GROUP.choose_spec ?_
      walk_at "go"
      refine ⟨g, _, _, rfl, rfl, hG, by rw [List.length_map]; exact Nat.lt_of_lt_of_le (show dn.length < 100 by omega) (by decide), ?_⟩
      walk_at "go"
      refine w_gvI T.i_GROUP.choose_spec ?_
      walk_at "go"
      refine s_fdiv ⟨by decide, by decide⟩ ?_
      walk_at "go"
      exact ⟨(am / 128).toNat, by omega, f2, am / 128, dn ++ [am % 128 + 128], rfl, by omega, ha2, by rw [hv, hv2, List.append_assoc]; rfl, same_mut s3 hg, by rw [upd_same, List.map_append]; rfl, rfl⟩
    · rw [vb_small (show am < 128 by omega)] at hv
      walk_at "go"
      refine ⟨by show 1 ≤ sizeLine; decide, fun u hu => ?_⟩
      have s5 := same_new (o := .lst [.int am]) hu
      refine s_cat (s5 _ _ hG) upd_same (by rw [List.length_map]; exact Nat.le_trans (show dn.length + 1 ≤ 100 by omega) (by decide)) fun g2 hg2 => ?_
      exact q g2 _ ((s3.trans s5).free hg2) ((s3.trans s5).trans (same_new hg2)) (by rw [upd_same, hv, List.map_append]; rfl)
def spEnc (CE CB : Addr) : Sp := fun vs H Q _ => ∃ (p : Addr) (n : Nat) (bs : List (Int × List Int)), vs = [.ref p] ∧ EvAt CE CB H p n bs ∧ OkEv n bs ∧ ∀ e H', H e = none → Same H H' → H' e = some (.lst ((evB n bs ++ [chk (evB n bs)]).map V.int)) → Q (.ref e) H'
theorem ok_encode (T : Facts K mg a) : FnR P w K mg base (L2.CX P w) 3 a.f_encode_evening (spEnc a.c_Evening a.c_Bill) := by
  obtain ⟨fd, F⟩ := T.u_encode_evening
  have GC : FnR P w K mg base (L2.CX P w) 1 a.f_Evening_seat_count (spEvCount a.c_Evening) := ok_ev_count T
  have GL : FnR P w K mg base (L2.CX P w) 1 a.f_Evening__len_ (spEvLen a.c_Evening a.c_Bill) := ok_ev_len T
  have GB : FnR P w K mg base (L2.CX P w) 1 a.f_Evening_bills (spEvBills a.c_Evening) := ok_ev_bills T
  have GA : FnR P w K mg base (L2.CX P w) 1 a.f_Bill_amount (spBiAmount a.c_Bill) := ok_bi_amount T
  have GS : FnR P w K mg base (L2.CX P w) 1 a.f_Bill_seats (spBiSeats a.c_Bill) := ok_bi_seats T
  have GY : FnR P w K mg base (L2.CX P w) 1 a.f_amount_bytes spABytes := ok_abytes T
  have GK : FnR P w K mg base (L2.CX P w) 1 a.f_checksum spSum := ok_checksum T
  refine fnr_ok F sc_encode_evening (F.binds fun _ _ _ _ _ _ us hl => match us, hl with | [_], _ => rfl) (fun vs H Q E h => ?_) (fun cdv A outer s H vs Q E hr h => ?_)
  · obtain ⟨p, n, bs, rfl, _⟩ := h
    rfl
  · obtain ⟨p, n, bs, rfl, hev, ok, q⟩ := h
    obtain ⟨dx, t, ps, e1, e2, e3⟩ := id hev
    have h30 := ok.2.2.1
    refine ⟨_, (pss_cons (ps_set (i := 1) sc_encode_evening.nd rfl (Or.inl rfl) (pe_lst (pa_cons (pe_gvI Like.refl (by rfl)) (pa_cons (pe_atA Like.refl pas_main (pv 0)) (pa_cons (pe_biA (id := "len") Like.refl pas_main (by rfl) (by decide +kernel) (pa_cons (pv 0) pa_nil)) pa_nil)))))
    (pss_cons (ps_for own_main rfl (pi_seqA Like.refl (pe_atA Like.refl pas_main (pv 0))) (pg_name (i := 2) sc_encode_evening.nd rfl (Or.inl rfl)) (pss_cons (ps_expr (pe_bm PySem.F.plainAttrs_list PySem.F.slot_list_extend PySem.F.type_list_extend mt_extend (pv 1) (pa_cons (pe_glA Like.refl pas_main (by rfl) (pa_cons (pe_atA Like.refl pas_main (pv 2)) pa_nil)) pa_nil)))
    (pss_one (ps_expr (pe_bm PySem.F.plainAttrs_list PySem.F.slot_list_append PySem.F.type_list_append mt_append (pv 1) (pa_cons (pe_biA (id := "sum") Like.refl pas_main (by rfl) (by decide +kernel) (pa_cons (pe_lc (own := [("seat", 3)]) (g := gName 3) (tt := tYes) rfl sc_encode_evening.nd (pi_seqA Like.refl (pe_atA Like.refl pas_main (pv 2))) (blkOk_by (own := [("seat", 3)]) (N := N_encode_evening) (sc := defScope s_encode_evening) (by decide +kernel)) (fun _ _ _ _ _ => (pg_name (i := 3) sc_encode_evening.nd rfl (by first | exact Or.inl rfl | exact Or.inr rfl))) (fun _ _ _ _ _ => pts_nil) (fun _ _ _ _ _ => (pe_opA ⟨rfl, rfl, rfl, rfl, rfl, rfl, rfl⟩ passL (pe_int) (pv 3)))) pa_nil)) pa_nil))))))
    (pss_one (ps_ret (pe_opA Like.refl pas_main (pv 1) (pe_lst (pa_cons (pe_glA Like.refl pas_main (by rfl) (pa_cons (pv 1) pa_nil)) pa_nil))))))), ?_⟩
    walk_at "go"
    refine w_gvI T.i_FIRST_BYTE.choose_spec ?_
    walk_at "go"
    refine s_prop T.cl_Evening T.pr_Evening_seat_count GC (hr.mono (by decide)) e1 ⟨p, dx, t, _, rfl, e1, ?_⟩
    walk_at "go"
    refine s_lenI T.m_Evening__len_ GL (hr.mono (by decide)) e1 ⟨p, _, _, rfl, hev, _, rfl, by omega, by omega, ?_⟩
    walk_at "go"
    refine ⟨by show 3 ≤ sizeLine; decide, fun d hd => ?_⟩
    have s0 := same_new (o := .lst [.int 111, .int (n : Nat), .int (bs.length : Nat)]) hd
    walk_at "go"
    refine w_forQ ?_
    walk_at "go"
    refine s_prop T.cl_Evening T.pr_Evening_bills GB (hr.mono (by decide)) (s0 _ _ e1) ⟨p, dx, t, _, rfl, s0 _ _ e1, ?_⟩
    refine f_tup (a := t) (xs := ps.map V.ref) (fun k σ H' => Same H H' ∧ ∃ x2 x3, σ = [some (.ref p), some (.ref d), x2, x3] ∧ H' d = some (.lst (([111, (n : Int), (bs.length : Int)] ++ rowsB (bs.take k)).map V.int))) (fun R k => k)
      ⟨s0, none, none, rfl, by rw [upd_same]; rfl⟩ (fun k σ H' _ p' => SqT.of (p'.1 _ _ e2)) (fun k x σ H' hx pv => ?_) (fun σ H' pv => ?_)
    · obtain ⟨s2, x2, x3, rfl, hG⟩ := pv
      rw [List.getElem?_map] at hx
      cases e : ps[k]? with
      | none => rw [e] at hx; cases hx
      | some r =>
        rw [e] at hx
        cases hx
        obtain ⟨hk, _⟩ := List.getElem?_eq_some_iff.1 e
        have hk2 : k < bs.length := by rw [← e3.1]; exact hk
        obtain ⟨b, eb⟩ : ∃ b, bs[k]? = some b := ⟨_, List.getElem?_eq_getElem hk2⟩
        have hb := ok.2.2.2 b (List.mem_of_getElem? eb)
        obtain ⟨dy, u, h1, h2⟩ := e3.2 k r b e eb
        have hrb := rowsB_len (bs.take k)
        have htk : (bs.take k).length ≤ 30 := by rw [List.length_take]; omega
        generalize hpre : [111, (n : Int), (bs.length : Int)] ++ rowsB (bs.take k) = pre at *
        have hpl : pre.length ≤ 243 := by rw [← hpre, List.length_append]; simp; omega
        have hvl := vb_len 6 b.1
        refine w_name ?_
        dsimp only [List.set]
        walk_at "go"
        refine w_bm ?_
        walk_at "go"
        refine ⟨.inl ⟨rfl, _, SqL.of hG⟩, ?_⟩
        walk_at "go"
        refine s_prop T.cl_Bill T.pr_Bill_amount GA (hr.mono (by decide)) (s2 _ _ h1) ⟨r, dy, u, _, rfl, s2 _ _ h1, ?_⟩
        walk_at "go"
        refine s_fn GY (hr.mono (by decide)) ⟨b.1, rfl, hb.1.1, hb.1.2.1, fun y H3 hy s3 h3 => ?_⟩
        walk_at "go"
        refine ⟨d, y, _, _, rfl, rfl, s3 _ _ hG, h3, by rw [List.length_map, List.length_map]; exact Nat.le_trans (show pre.length + (vb 6 b.1).length ≤ 1000 by omega) (by decide), ?_⟩
        have s4 : Same H (upd H3 d (.lst (pre.map V.int ++ (vb 6 b.1).map V.int))) := same_mut (s2.trans s3) hd
        have hG4 : (upd H3 d (.lst (pre.map V.int ++ (vb 6 b.1).map V.int))) d = some (.lst ((pre ++ vb 6 b.1).map V.int)) := by rw [upd_same, List.map_append]
        generalize upd H3 d (.lst (pre.map V.int ++ (vb 6 b.1).map V.int)) = H4 at *
        walk_at "go"
        refine w_bm ?_
        walk_at "go"
        refine ⟨.inl ⟨rfl, _, SqL.of hG4⟩, ?_⟩
        walk_at "go"
        refine c_tup (a := u) (xs := b.2.map V.int) (fun i => ((b.2.take i).map pw).map V.int) rfl (fun i hi => ?_) (SqT.of (s4 _ _ h2)) (fun _ => rfl) (fun i x H' hx s5 => ?_) (fun p3 H5 hp3 s5 h5 => ?_) (fun R k => ?_)
        · rw [List.length_map, List.length_map, List.length_take]
          have := ok_len hb.1
          omega
        · rw [List.getElem?_map] at hx
          cases e4 : b.2[i]? with
          | none => rw [e4] at hx; cases hx
          | some z =>
            rw [e4] at hx
            cases hx
            have nz := asc_le7 hb.1.2.2.1 z (List.mem_of_getElem? e4)
            show Turn1 _ _ _ _ _ (((b.2.take (i + 1)).map pw).map V.int)
            rw [List.take_add_one, e4, List.map_append, List.map_append]
            obtain ⟨zn, rfl⟩ := Int.eq_ofNat_of_zero_le nz.1
            refine turn1_map fun R hR => ?_
            walk_at "go"
            refine s_oneShl (by omega) ?_
            exact hR _ (Same.refl _)
        · rw [List.length_map, List.take_of_length_le (Nat.le_refl _)] at h5
          refine s_sumL rfl (SqL.of h5) ?_
          walk_at "go"
          refine ⟨d, _, _, rfl, rfl, s5 _ _ hG4, by rw [List.length_map, List.length_append]; exact Nat.lt_of_lt_of_le (show pre.length + (vb 6 b.1).length < 1000 by omega) (by decide), ?_⟩
          walk_at "go"
          refine ⟨same_mut (s4.trans s5) hd, _, _, rfl, ?_⟩
          rw [upd_same, List.take_add_one, eb]
          show _ = some (HO.lst (([111, (n : Int), (bs.length : Int)] ++ rowsB (bs.take k ++ [b])).map V.int))
          rw [rowsB_snoc, ← List.append_assoc, hpre]
          simp [bitI]
        · walk_at "go"
          exact s_prop T.cl_Bill T.pr_Bill_seats GS (hr.mono (by decide)) (s4 _ _ h1) ⟨r, dy, u, _, rfl, s4 _ _ h1, k⟩
    · obtain ⟨s2, x2, x3, rfl, hG⟩ := pv
      rw [List.length_map, e3.1, List.take_of_length_le (Nat.le_refl _)] at hG
      have hel := evB_len n bs
      change H' d = some (.lst ((evB n bs).map V.int)) at hG
      walk_at "go"
      refine s_fn GK (hr.mono (by decide)) ⟨d, evB n bs, rfl, hG, by omega, fun H3 s3 => ?_⟩
      walk_at "go"
      refine ⟨by show 1 ≤ sizeLine; decide, fun u hu => ?_⟩
      have s5 := s3.trans (same_new (o := .lst [.int (chk (evB n bs))]) hu)
      refine s_cat (s5 _ _ hG) upd_same (by rw [List.length_map]; exact Nat.le_trans (show (evB n bs).length + 1 ≤ 1000 by omega) (by decide)) fun g2 hg2 => ?_
      exact q g2 _ ((s2.trans s5).free hg2) ((s2.trans s5).trans (same_new hg2)) (by rw [upd_same, List.map_append]; rfl)
end

end Odd

namespace Odd
open PySem PySem.Spec PyProof.Rows L2
/-! tactics of this text: st one step, go as many as go -/
local macro_rules | `(tactic| walk_at "ar") => `(tactic| first | assumption | omega | (show (_ : Int) < _; omega) | decide)
local macro_rules | `(tactic| walk_at "st") => `(tactic| first
  | with_reducible refine' w_seq ?_
  | with_reducible refine' w_asg ?_
  | with_reducible refine' w_name ?_
  | with_reducible refine' w_c ?_
  | with_reducible refine' w_op ?_
  | with_reducible refine' w_ix ?_
  | with_reducible refine' w_at ?_
  | with_reducible refine' w_cons ?_
  | with_reducible refine' w_nil ?_
  | with_reducible refine' w_ret ?_
  | with_reducible refine' w_if ?_
  | with_reducible refine' w_test ?_
  | with_reducible refine' w_tr ?_
  | with_reducible refine' w_un ?_
  | with_reducible refine' w_andV ?_
  | with_reducible refine' w_orV ?_
  | with_reducible refine' w_notA ?_
  | with_reducible refine' w_ch ?_
  | with_reducible refine' w_and ?_
  | with_reducible refine' w_or ?_
  | with_reducible refine' w_not ?_
  | with_reducible refine' w_ifx ?_
  | with_reducible refine' w_tup ?_
  | with_reducible refine' w_lst ?_
  | with_reducible refine' w_next ?_
  | with_reducible refine' w_drop ?_
  | with_reducible refine' w_retN ?_
  | ((with_reducible refine' w_var ?h ?_); (case h => exact rfl))
  | ((with_reducible refine' w_bi ?h ?_); (case h => walk_at "mg"))
  | ((with_reducible refine' w_bv ?h ?_); (case h => walk_at "mg"))
  | ((with_reducible refine' w_gv ?h ?_); (case h => walk_at "mg"))
  | ((with_reducible refine' w_gl ?h ?k ?_); (case h => walk_at "mg"); (case k => walk_at "kp"))
  | ((with_reducible refine' w_glS ?h ?k ?_); (case h => walk_at "mg"); (case k => walk_at "kp"))
  | with_reducible refine' bl_ex ?_
  | with_reducible refine' iteT ?_
  | with_reducible refine' iteF ?_
  | with_reducible refine' ite_nf ?_
  | with_reducible refine' ite_nt ?_
  | with_reducible refine' s_add ?_
  | with_reducible refine' s_sub ?_
  | with_reducible refine' s_lt ?_
  | with_reducible refine' s_le ?_
  | with_reducible refine' s_gt ?_
  | with_reducible refine' s_ge ?_
  | with_reducible refine' s_eqI ?_
  | with_reducible refine' s_neI ?_
  | with_reducible refine' s_eqB ?_
  | with_reducible refine' s_neB ?_
  | with_reducible refine' s_truB ?_
  | with_reducible refine' s_truI ?_
  | with_reducible refine' s_neg ?_
  | ((with_reducible refine' s_mod ?h ?_); (case h => walk_at "ar")))
local macro_rules | `(tactic| walk_at "go") => `(tactic| repeat walk_at "st")

local macro_rules | `(tactic| walk_at "mg") => `(tactic| first | assumption | exact Facts.z_TypeError (by assumption) | exact Facts.z_bool (by assumption) | exact Facts.z_classmethod (by assumption) | exact Facts.z_dict (by assumption) | exact Facts.z_divmod (by assumption) | exact Facts.z_enumerate (by assumption) | exact Facts.z_int (by assumption) | exact Facts.z_isinstance (by assumption) | exact Facts.z_len (by assumption) | exact Facts.z_list (by assumption) | exact Facts.z_max (by assumption) | exact Facts.z_min (by assumption) | exact Facts.z_property (by assumption) | exact Facts.z_range (by assumption) | exact Facts.z_sorted (by assumption) | exact Facts.z_str (by assumption) | exact Facts.z_sum (by assumption) | exact Facts.z_super (by assumption) | exact Facts.z_tuple (by assumption) | exact Facts.z_zip (by assumption) | exact Facts.g__wall (by assumption) | exact Facts.g_is_between (by assumption) | exact Facts.g_is_digits (by assumption) | exact Facts.g_seats_of (by assumption) | exact Facts.g_check_amount (by assumption) | exact Facts.g_check_seats (by assumption) | exact Facts.g_check_seat_count (by assumption) | exact Facts.g_check_bills (by assumption) | exact Facts.g_check_mark (by assumption) | exact Facts.g_no_shares (by assumption) | exact Facts.g_seats_behind (by assumption) | exact Facts.g_split_bill (by assumption) | exact Facts.g_title_line (by assumption) | exact Facts.g_line_of (by assumption) | exact Facts.g_seat_line (by assumption) | exact Facts.g_receipt (by assumption) | exact Facts.g_cents_of_line (by assumption) | exact Facts.g_mark_of_line (by assumption) | exact Facts.g_parse_receipt (by assumption) | exact Facts.g_amount_bytes (by assumption) | exact Facts.g_checksum (by assumption) | exact Facts.g_encode_evening (by assumption) | exact Facts.g_byte_at (by assumption) | exact Facts.g_amount_at (by assumption) | exact Facts.g_decode_evening (by assumption) | exact Facts.g_row_of (by assumption) | exact Facts.g_format_evening (by assumption) | exact Facts.g_is_number (by assumption) | exact Facts.g_check_row (by assumption) | exact Facts.g_numbers_of_row (by assumption) | exact Facts.g_parse_evening (by assumption) | exact Facts.g__law_mix (by assumption) | exact Facts.g__law_next (by assumption) | exact Facts.g__law_alike (by assumption) | exact Facts.g__law_bill (by assumption) | exact Facts.g__law_bills (by assumption) | exact Facts.g__law_text (by assumption) | exact Facts.g__law_pay (by assumption) | exact Facts.g__law_paid (by assumption) | exact Facts.g__law_money (by assumption) | exact Facts.g__law_lines (by assumption) | exact Facts.g_law (by assumption) | exact Facts.g_Shares (by assumption) | exact Facts.g_Bill (by assumption) | exact Facts.g_Evening (by assumption))
local macro_rules | `(tactic| walk_at "kp") => `(tactic| first | assumption | exact (Facts.mk_Shares (by assumption)).kp | exact (Facts.mk_Bill (by assumption)).kp | exact (Facts.mk_Evening (by assumption)).kp | exact Fun.kp (Facts.u__wall (by assumption)).choose_spec | exact Fun.kp (Facts.u_is_between (by assumption)).choose_spec | exact Fun.kp (Facts.u_is_digits (by assumption)).choose_spec | exact Fun.kp (Facts.u_seats_of (by assumption)).choose_spec | exact Fun.kp (Facts.u_check_amount (by assumption)).choose_spec | exact Fun.kp (Facts.u_check_seats (by assumption)).choose_spec | exact Fun.kp (Facts.u_check_seat_count (by assumption)).choose_spec | exact Fun.kp (Facts.u_check_bills (by assumption)).choose_spec | exact Fun.kp (Facts.u_check_mark (by assumption)).choose_spec | exact Fun.kp (Facts.u_no_shares (by assumption)).choose_spec | exact Fun.kp (Facts.u_seats_behind (by assumption)).choose_spec | exact Fun.kp (Facts.u_split_bill (by assumption)).choose_spec | exact Fun.kp (Facts.u_title_line (by assumption)).choose_spec | exact Fun.kp (Facts.u_line_of (by assumption)).choose_spec | exact Fun.kp (Facts.u_seat_line (by assumption)).choose_spec | exact Fun.kp (Facts.u_receipt (by assumption)).choose_spec | exact Fun.kp (Facts.u_cents_of_line (by assumption)).choose_spec | exact Fun.kp (Facts.u_mark_of_line (by assumption)).choose_spec | exact Fun.kp (Facts.u_parse_receipt (by assumption)).choose_spec | exact Fun.kp (Facts.u_amount_bytes (by assumption)).choose_spec | exact Fun.kp (Facts.u_checksum (by assumption)).choose_spec | exact Fun.kp (Facts.u_encode_evening (by assumption)).choose_spec | exact Fun.kp (Facts.u_byte_at (by assumption)).choose_spec | exact Fun.kp (Facts.u_amount_at (by assumption)).choose_spec | exact Fun.kp (Facts.u_decode_evening (by assumption)).choose_spec | exact Fun.kp (Facts.u_row_of (by assumption)).choose_spec | exact Fun.kp (Facts.u_format_evening (by assumption)).choose_spec | exact Fun.kp (Facts.u_is_number (by assumption)).choose_spec | exact Fun.kp (Facts.u_check_row (by assumption)).choose_spec | exact Fun.kp (Facts.u_numbers_of_row (by assumption)).choose_spec | exact Fun.kp (Facts.u_parse_evening (by assumption)).choose_spec | exact Fun.kp (Facts.u__law_mix (by assumption)).choose_spec | exact Fun.kp (Facts.u__law_next (by assumption)).choose_spec | exact Fun.kp (Facts.u__law_alike (by assumption)).choose_spec | exact Fun.kp (Facts.u__law_bill (by assumption)).choose_spec | exact Fun.kp (Facts.u__law_bills (by assumption)).choose_spec | exact Fun.kp (Facts.u__law_text (by assumption)).choose_spec | exact Fun.kp (Facts.u__law_pay (by assumption)).choose_spec | exact Fun.kp (Facts.u__law_paid (by assumption)).choose_spec | exact Fun.kp (Facts.u__law_money (by assumption)).choose_spec | exact Fun.kp (Facts.u__law_lines (by assumption)).choose_spec | exact Fun.kp (Facts.u_law (by assumption)).choose_spec)
/-! ### bytes read again -/
theorem ascs_bits : ∀ ss ∈ ascs 8 0, (ss ≠ [] → 1 ≤ bitSum ss) ∧ ∀ n ∈ List.range 9, (∀ s ∈ ss, s < n) → bitSum ss < 2 ^ n := by decide +kernel
theorem asc_mem : ∀ (f : Nat) (lo : Nat) (ss : List Int), asc (lo : Int) ss = true → lo + f = 8 → ∃ ns ∈ ascs f lo, ss = ns.map Int.ofNat
  | 0, lo, [], _, _ => ⟨[], by simp [ascs], rfl⟩
  | 0, lo, s :: ss, h, e => by
    simp only [asc, Bool.and_eq_true, decide_eq_true_eq] at h
    omega
  | f + 1, lo, [], _, e => by
    obtain ⟨ns, h1, h2⟩ := asc_mem f (lo + 1) [] rfl (by omega)
    exact ⟨ns, List.mem_append_left _ h1, h2⟩
  | f + 1, lo, s :: ss, h, e => by
    simp only [asc, Bool.and_eq_true, decide_eq_true_eq] at h
    by_cases z : s = (lo : Int)
    · obtain ⟨ns, h1, h2⟩ := asc_mem f (lo + 1) ss (by have := h.2; rw [z] at this; exact this) (by omega)
      exact ⟨lo :: ns, List.mem_append_right _ (List.mem_map.2 ⟨ns, h1, rfl⟩), by rw [z, h2]; rfl⟩
    · obtain ⟨ns, h1, h2⟩ := asc_mem f (lo + 1) (s :: ss) (by simp only [asc, Bool.and_eq_true, decide_eq_true_eq]; exact ⟨⟨by omega, h.1.2⟩, h.2⟩) (by omega)
      exact ⟨ns, List.mem_append_left _ h1, h2⟩
theorem bitI_cast : ∀ ns : List Nat, bitI (ns.map Int.ofNat) = (bitSum ns : Nat)
  | [] => rfl
  | n :: ns => by
    have h := bitI_cast ns
    unfold bitI bitSum at *
    simp only [List.map_cons, List.sum_cons, h]
    rw [Int.natCast_add]
    congr 1
/-- what the first byte of a number is -/
def hd7 (q : Int) : Int := if q < 128 then q else q % 128 + 128
theorem hd7_vb {f : Nat} {q : Int} (h0 : 0 ≤ q) (h : q < 128 ^ (f + 1)) : ∃ tl, vb f q = hd7 q :: tl ∧ (q < 128 → tl = []) ∧ (128 ≤ q → ∃ g, f = g + 1 ∧ tl = vb g (q / 128) ∧ q / 128 < 128 ^ (g + 1)) := by
  by_cases z : q < 128
  · exact ⟨[], by rw [vb_small z]; unfold hd7; rw [if_pos z], fun _ => rfl, fun z2 => by omega⟩
  · obtain ⟨g, e1, e2, e3⟩ := vb_big (show 128 ≤ q by omega) h
    exact ⟨_, by rw [e2]; unfold hd7; rw [if_neg z], fun z2 => absurd z2 z, fun _ => ⟨g, e1, rfl, e3⟩⟩
theorem hd7_range {q : Int} (h0 : 0 ≤ q) : 0 ≤ hd7 q ∧ hd7 q ≤ 255 ∧ hd7 q % 128 = q % 128 ∧ (128 ≤ hd7 q ↔ 128 ≤ q) ∧ (1 ≤ q → 1 ≤ hd7 q) := by
  unfold hd7
  split <;> omega
theorem worth_step {a q w n : Int} (h : a + q * (128 * w) = n) : a + q % 128 * (w * 128) + q / 128 * (128 * (w * 128)) = n := by
  have e := Int.emod_add_mul_ediv q 128
  rw [Int.mul_comm w 128]
  generalize 128 * w = X at *
  have e2 : q * X = q % 128 * X + q / 128 * (128 * X) := by
    have : q / 128 * (128 * X) = 128 * (q / 128) * X := by rw [← Int.mul_assoc, Int.mul_comm (q / 128) 128]
    rw [this, ← Int.add_mul, e]
  omega
section
variable {P : Program} {w : World} {K : PySem.W.Frag} {mg : Str → Option Value} {base : Heap} {a : Ad}
def spByte : Sp := fun vs H Q _ => ∃ (d : Addr) (k : Nat) (lo hi v : Int) (xs : List Int), vs = [.ref d, .int k, .int lo, .int hi] ∧ H d = some (.lst (xs.map V.int)) ∧ xs[k]? = some v ∧ lo ≤ v ∧ v ≤ hi ∧ Q (.int v) H
theorem ok_byte_at (T : Facts K mg a) : FnR P w K mg base (L2.CX P w) 2 a.f_byte_at spByte := by
  obtain ⟨fd, F⟩ := T.u_byte_at
  have GB : FnR P w K mg base (L2.CX P w) 1 a.f_is_between spBetween := ok_between T
  refine fnr_ok F sc_byte_at (F.binds fun _ _ _ _ _ _ us hl => match us, hl with | [_, _, _, _], _ => rfl) (fun vs H Q E h => ?_) (fun cdv A outer s H vs Q E hr h => ?_)
  · obtain ⟨d, k, lo, hi, v, xs, rfl, _⟩ := h
    rfl
  · obtain ⟨d, k, lo, hi, v, xs, rfl, hd, ev, h1, h2, q⟩ := h
    have hk := (List.getElem?_eq_some_iff.1 ev).1
    have ha : atI (xs.map V.int) (k : Int) = some (.int v) := at_of (j := k) rfl (by rw [List.getElem?_map, ev]; rfl)
    refine ⟨_, (pss_cons (ps_if (PW.pt (pw_or (pt_cmpA Like.refl pas_main (pv 1) (pe_biA (id := "len") Like.refl pas_main (by rfl) (by decide +kernel) (pa_cons (pv 0) pa_nil)) (nomark _)) (pw_or1 (pt_not (pt_trA Like.refl pas_main (pe_glA Like.refl pas_main (by rfl) (pa_cons (pe_ixA Like.refl pas_main (pv 0) (pv 1)) (pa_cons (pv 2) (pa_cons (pv 3) pa_nil))))))))) (pss_one (ps_never)) pss_nil)
    (pss_one (ps_ret (pe_ixA Like.refl pas_main (pv 0) (pv 1))))), ?_⟩
    walk_at "go"
    refine s_lenL (SqL.of hd) ?_
    rw [List.length_map]
    walk_at "go"
    rw [decide_eq_false (show ¬ ((k : Int) ≥ (xs.length : Int)) by omega)]
    walk_at "go"
    refine s_ixL (SqL.of hd) ha ?_
    walk_at "go"
    refine s_btwT GB hr h1 h2 ?_
    walk_at "go"
    exact s_ixL (SqL.of hd) ha q
def spAmtAt : Sp := fun vs H Q _ => ∃ (d : Addr) (pre rest : List Int) (n : Int), vs = [.ref d, .int (pre.length : Nat)] ∧ H d = some (.lst ((pre ++ (vb 6 n ++ rest)).map V.int)) ∧ 0 ≤ n ∧ n ≤ 10 ^ 12 ∧
  ∀ t H', H t = none → Same H H' → H' t = some (.tup [.int n, .int ((pre.length + (vb 6 n).length : Nat) : Int)]) → Q (.ref t) H'
theorem ok_amount_at (T : Facts K mg a) : FnR P w K mg base (L2.CX P w) 3 a.f_amount_at spAmtAt := by
  obtain ⟨fd, F⟩ := T.u_amount_at
  have GB : FnR P w K mg base (L2.CX P w) 2 a.f_byte_at spByte := ok_byte_at T
  refine fnr_ok F sc_amount_at (F.binds fun _ _ _ _ _ _ us hl => match us, hl with | [_, _], _ => rfl) (fun vs H Q E h => ?_) (fun cdv A outer s H vs Q E hr h => ?_)
  · obtain ⟨d, pre, rest, n, rfl, _⟩ := h
    rfl
  · obtain ⟨d, pre, rest, n, rfl, hd, h0, h1, q⟩ := h
    have e12 : (10 : Int) ^ 12 = 1000000000000 := by decide
    obtain ⟨tl, ev, t1, t2⟩ := hd7_vb h0 (cap6 h1)
    obtain ⟨r0, r1, r2, r3, r4⟩ := hd7_range h0
    refine ⟨_, (pss_cons (ps_set (i := 2) sc_amount_at.nd rfl (Or.inl rfl) (pe_glA Like.refl pas_main (by rfl) (pa_cons (pv 0) (pa_cons (pv 1) (pa_cons (pe_int) (pa_cons (pe_int) pa_nil))))))
    (pss_cons (ps_set (i := 3) sc_amount_at.nd rfl (Or.inl rfl) (pe_opA Like.refl pas_main (pv 2) (pe_gvI Like.refl (by rfl))))
    (pss_cons (ps_set (i := 4) sc_amount_at.nd rfl (Or.inl rfl) (pe_int))
    (pss_cons (ps_set (i := 5) sc_amount_at.nd rfl (Or.inl rfl) (pe_opA Like.refl pas_main (pv 1) (pe_int)))
    (pss_cons (ps_while own_main (pt_cmpA Like.refl pas_main (pv 2) (pe_gvI Like.refl (by rfl)) (nomark _)) (pss_cons (ps_set (i := 2) sc_amount_at.nd rfl (Or.inl rfl) (pe_glA Like.refl pas_main (by rfl) (pa_cons (pv 0) (pa_cons (pv 5) (pa_cons (pe_int) (pa_cons (pe_int) pa_nil))))))
    (pss_cons (ps_set (i := 4) sc_amount_at.nd rfl (Or.inl rfl) (pe_opA Like.refl pas_main (pv 4) (pe_gvI Like.refl (by rfl))))
    (pss_cons (ps_set (i := 3) sc_amount_at.nd rfl (Or.inl rfl) (pe_opA Like.refl pas_main (pv 3) (pe_opA Like.refl pas_main (pe_opA Like.refl pas_main (pv 2) (pe_gvI Like.refl (by rfl))) (pv 4))))
    (pss_one (ps_augA (i := 5) Like.refl pas_main sc_amount_at.nd rfl (Or.inl rfl) (pe_int)))))))
    (pss_cons (ps_if (pt_cmpA Like.refl pas_main (pv 3) (pe_gvI Like.refl (by rfl)) (nomark _)) (pss_one (ps_never)) pss_nil)
    (pss_one (ps_ret (pe_tup (pa_cons (pv 3) (pa_cons (pv 5) pa_nil))))))))))), ?_⟩
    walk_at "go"
    refine s_fn GB hr ⟨d, pre.length, 0, 255, hd7 n, _, rfl, hd, by rw [List.getElem?_append_right (Nat.le_refl _), Nat.sub_self, ev]; rfl, r0, r1, ?_⟩
    walk_at "go"
    refine w_gvI T.i_GROUP.choose_spec ?_
    walk_at "go"
    refine ⟨fun mm σ H3 => ∃ (f : Nat) (P : List Int) (q am wo : Int), mm = f ∧ 0 ≤ q ∧ q < 128 ^ (f + 1) ∧ pre ++ (vb 6 n ++ rest) = P ++ (vb f q ++ rest) ∧ P.length + (vb f q).length = pre.length + (vb 6 n).length ∧ am + q / 128 * (128 * wo) = n ∧ H3 = H ∧
      σ = [some (.ref d), some (.int (pre.length : Nat)), some (.int (hd7 q)), some (.int am), some (.int wo), some (.int ((P.length : Nat) + 1))], ⟨6, 6, pre, n, hd7 n % 128, 1, rfl, h0, cap6 h1, rfl, rfl, by rw [r2]; omega, rfl, rfl⟩, ?_⟩
    rintro mm σ H3 ⟨f, P, q1, am, wo, rfl, q0, qc, eP, eL, eA, rfl, rfl⟩
    obtain ⟨tl, ev, t1, t2⟩ := hd7_vb q0 qc
    obtain ⟨r0, r1, r2, r3, r4⟩ := hd7_range q0
    walk_at "go"
    refine w_gvI T.i_GROUP.choose_spec ?_
    walk_at "go"
    refine ite_d (fun hbig => ?_) (fun hsm => ?_)
    · have hq := r3.1 hbig
      obtain ⟨g, rfl, rfl, qc2⟩ := t2 hq
      have q20 : 0 ≤ q1 / 128 := by omega
      obtain ⟨u0, u1, u2, u3, u4⟩ := hd7_range q20
      obtain ⟨tl2, ev2, _, _⟩ := hd7_vb q20 qc2
      refine ⟨fun σ' H4 => ∃ m', m' < g + 1 ∧ ∃ (f : Nat) (P : List Int) (q am wo : Int), m' = f ∧ 0 ≤ q ∧ q < 128 ^ (f + 1) ∧ pre ++ (vb 6 n ++ rest) = P ++ (vb f q ++ rest) ∧ P.length + (vb f q).length = pre.length + (vb 6 n).length ∧ am + q / 128 * (128 * wo) = n ∧ H4 = H3 ∧
        σ' = [some (.ref d), some (.int (pre.length : Nat)), some (.int (hd7 q)), some (.int am), some (.int wo), some (.int ((P.length : Nat) + 1))], fun _ _ h => h, ?_⟩
      walk_at "go"
      refine s_fn GB hr ⟨d, P.length + 1, 1, 255, hd7 (q1 / 128), _, by rw [Int.natCast_add]; rfl, hd, by rw [eP, List.getElem?_append_right (by omega), show P.length + 1 - P.length = 1 by omega, ev, ev2]; rfl, u4 (by omega), u1, ?_⟩
      walk_at "go"
      refine w_gvI T.i_GROUP.choose_spec ?_
      walk_at "go"
      refine s_mul (.inr ⟨by decide, by decide⟩) ?_
      walk_at "go"
      refine w_gvI T.i_GROUP.choose_spec ?_
      walk_at "go"
      refine s_mul (.inl ⟨by omega, by omega⟩) ?_
      walk_at "go"
      refine w_augI rfl ?_
      walk_at "go"
      refine s_iadd ?_
      walk_at "go"
      refine ⟨g, by omega, g, P ++ [hd7 q1], q1 / 128, am + hd7 (q1 / 128) % 128 * (wo * 128), wo * 128, rfl, q20, qc2, by rw [eP, ev, List.append_assoc]; rfl, ?_, ?_, rfl, ?_⟩
      · rw [ev, List.length_cons] at eL
        rw [List.length_append]
        simp
        omega
      · rw [u2]
        exact worth_step eA
      · rw [List.length_append, Int.natCast_add]
        rfl
    · have hq : q1 < 128 := by
        have := mt r3.2 (show ¬ 128 ≤ hd7 q1 by omega)
        omega
      have eA2 : am = n := by
        rw [show q1 / 128 = 0 by omega, Int.zero_mul] at eA
        omega
      subst eA2
      rw [vb_small hq] at eL
      walk_at "go"
      refine w_gvI T.i_MAX_AMOUNT.choose_spec ?_
      walk_at "go"
      rw [decide_eq_false (show ¬ (am > 1000000000000) by omega)]
      walk_at "go"
      refine ⟨by show 2 ≤ sizeLine; decide, fun t ht => ?_⟩
      refine q t _ ht (same_new ht) ?_
      rw [upd_same, ← eL, Int.natCast_add]
      rfl
def spSeatsOf : Sp := fun vs H Q _ => ∃ (ss : List Nat), vs = [.int (bitSum ss : Nat)] ∧ ss ∈ ascs 8 0 ∧ ∀ p H', H p = none → Same H H' → H' p = some (.lst ((ss.map Int.ofNat).map V.int)) → Q (.ref p) H'
theorem ok_seats_of (T : Facts K mg a) : FnR P w K mg base (L2.CX P w) 1 a.f_seats_of spSeatsOf := by
  obtain ⟨fd, F⟩ := T.u_seats_of
  refine fnr_ok F sc_seats_of (F.binds fun _ _ _ _ _ _ us hl => match us, hl with | [_], _ => rfl) (fun vs H Q E h => ?_) (fun cdv A outer s H vs Q E hr h => ?_)
  · obtain ⟨ss, rfl, _⟩ := h
    rfl
  · obtain ⟨ss, rfl, hs, q⟩ := h
    obtain ⟨hb, h256⟩ := bits_all ss hs
    have hbits : Builtin.Int.intBits (bitSum ss : Nat) ≤ 8 := PyProof.Rows.intBits_le (by show (bitSum ss) < 2 ^ 8; omega)
    refine ⟨_, (pss_one (ps_ret (pe_lc (own := [("seat", 1)]) (g := gName 1) (tt := _) rfl sc_seats_of.nd (pi_range1 (by rfl) T.z_range (pa_cons (pe_bits (pv 0)) pa_nil)) (blkOk_by (own := [("seat", 1)]) (N := N_seats_of) (sc := defScope s_seats_of) (by decide +kernel)) (fun _ _ _ _ _ => (pg_name (i := 1) sc_seats_of.nd rfl (by first | exact Or.inl rfl | exact Or.inr rfl))) (fun _ _ _ _ _ => pts_one (pt_cmpA ⟨rfl, rfl, rfl, rfl, rfl, rfl, rfl⟩ passL (pe_opA ⟨rfl, rfl, rfl, rfl, rfl, rfl, rfl⟩ passL (pv 0) (pe_opA ⟨rfl, rfl, rfl, rfl, rfl, rfl, rfl⟩ passL (pe_int) (pv 1))) (pe_int) (nomark _))) (fun _ _ _ _ _ => (pv 1))))), ?_⟩
    walk_at "go"
    refine c_rng (n := Builtin.Int.intBits (bitSum ss : Nat)) (fun k => ((List.range k).filter fun s => Builtin.bitAnd (bitSum ss : Nat) (2 ^ s) != 0).map fun s => V.int (s : Nat)) rfl (by omega) (fun k hk => ?_) (fun _ => rfl) (fun k H' hk s1 => ?_) (fun r H' hr0 s1 hL => ?_) (fun R k => ?_)
    · rw [List.length_map]
      have := List.length_filter_le (fun s => Builtin.bitAnd (bitSum ss : Nat) (2 ^ s) != 0) (List.range k)
      rw [List.length_range] at this
      omega
    · have eo : (((List.range (k + 1)).filter fun s => Builtin.bitAnd (bitSum ss : Nat) (2 ^ s) != 0).map fun s => V.int (s : Nat)) =
          if (!decide (Builtin.bitAnd (bitSum ss : Nat) (2 ^ k) = 0)) = true then (((List.range k).filter fun s => Builtin.bitAnd (bitSum ss : Nat) (2 ^ s) != 0).map fun s => V.int (s : Nat)) ++ [V.int (k : Nat)] else (((List.range k).filter fun s => Builtin.bitAnd (bitSum ss : Nat) (2 ^ s) != 0).map fun s => V.int (s : Nat)) := by
        rw [List.range_succ, List.filter_append, List.map_append]
        by_cases z : Builtin.bitAnd (bitSum ss : Nat) (2 ^ k) = 0
        · rw [decide_eq_true z, if_neg (by decide)]
          simp [List.filter_cons, z]
        · rw [decide_eq_false z, if_pos (by decide)]
          simp [List.filter_cons, z]
      show Turn1 _ _ _ _ (((List.range k).filter fun s => Builtin.bitAnd (bitSum ss : Nat) (2 ^ s) != 0).map fun s => V.int (s : Nat)) (((List.range (k + 1)).filter fun s => Builtin.bitAnd (bitSum ss : Nat) (2 ^ s) != 0).map fun s => V.int (s : Nat))
      rw [eo]
      refine turn1_filter (fun R hR => ?_) (fun _ H3 _ R hR => ?_)
      · walk_at "go"
        refine s_oneShl (by omega) ?_
        refine s_band ?_
        walk_at "go"
        exact hR _ (Same.refl _)
      · walk_at "go"
        exact hR _ (Same.refl _)
    · refine q r H' hr0 s1 ?_
      rw [hL, List.map_map]
      congr 2
      have : bitSeats (bitSum ss) = ss := hb
      unfold bitSeats at this
      rw [this]
      rfl
    · walk_at "go"
      refine w_bits ?_
      walk_at "go"
      exact ⟨_, rfl, k⟩
end

end Odd

namespace Odd
open PySem PySem.Spec PyProof.Rows L2
/-! tactics of this text: st one step, go as many as go -/
local macro_rules | `(tactic| walk_at "ar") => `(tactic| first | assumption | omega | (show (_ : Int) < _; omega) | decide)
local macro_rules | `(tactic| walk_at "st") => `(tactic| first
  | with_reducible refine' w_seq ?_
  | with_reducible refine' w_asg ?_
  | with_reducible refine' w_name ?_
  | with_reducible refine' w_c ?_
  | with_reducible refine' w_op ?_
  | with_reducible refine' w_ix ?_
  | with_reducible refine' w_at ?_
  | with_reducible refine' w_cons ?_
  | with_reducible refine' w_nil ?_
  | with_reducible refine' w_ret ?_
  | with_reducible refine' w_if ?_
  | with_reducible refine' w_test ?_
  | with_reducible refine' w_tr ?_
  | with_reducible refine' w_un ?_
  | with_reducible refine' w_andV ?_
  | with_reducible refine' w_orV ?_
  | with_reducible refine' w_notA ?_
  | with_reducible refine' w_ch ?_
  | with_reducible refine' w_and ?_
  | with_reducible refine' w_or ?_
  | with_reducible refine' w_not ?_
  | with_reducible refine' w_ifx ?_
  | with_reducible refine' w_tup ?_
  | with_reducible refine' w_lst ?_
  | with_reducible refine' w_next ?_
  | with_reducible refine' w_drop ?_
  | with_reducible refine' w_retN ?_
  | ((with_reducible refine' w_var ?h ?_); (case h => exact rfl))
  | ((with_reducible refine' w_bi ?h ?_); (case h => walk_at "mg"))
  | ((with_reducible refine' w_bv ?h ?_); (case h => walk_at "mg"))
  | ((with_reducible refine' w_gv ?h ?_); (case h => walk_at "mg"))
  | ((with_reducible refine' w_gl ?h ?k ?_); (case h => walk_at "mg"); (case k => walk_at "kp"))
  | ((with_reducible refine' w_glS ?h ?k ?_); (case h => walk_at "mg"); (case k => walk_at "kp"))
  | with_reducible refine' bl_ex ?_
  | with_reducible refine' iteT ?_
  | with_reducible refine' iteF ?_
  | with_reducible refine' ite_nf ?_
  | with_reducible refine' ite_nt ?_
  | with_reducible refine' s_add ?_
  | with_reducible refine' s_sub ?_
  | with_reducible refine' s_lt ?_
  | with_reducible refine' s_le ?_
  | with_reducible refine' s_gt ?_
  | with_reducible refine' s_ge ?_
  | with_reducible refine' s_eqI ?_
  | with_reducible refine' s_neI ?_
  | with_reducible refine' s_eqB ?_
  | with_reducible refine' s_neB ?_
  | with_reducible refine' s_truB ?_
  | with_reducible refine' s_truI ?_
  | with_reducible refine' s_neg ?_
  | ((with_reducible refine' s_mod ?h ?_); (case h => walk_at "ar")))
local macro_rules | `(tactic| walk_at "go") => `(tactic| repeat walk_at "st")

local macro_rules | `(tactic| walk_at "mg") => `(tactic| first | assumption | exact Facts.z_TypeError (by assumption) | exact Facts.z_bool (by assumption) | exact Facts.z_classmethod (by assumption) | exact Facts.z_dict (by assumption) | exact Facts.z_divmod (by assumption) | exact Facts.z_enumerate (by assumption) | exact Facts.z_int (by assumption) | exact Facts.z_isinstance (by assumption) | exact Facts.z_len (by assumption) | exact Facts.z_list (by assumption) | exact Facts.z_max (by assumption) | exact Facts.z_min (by assumption) | exact Facts.z_property (by assumption) | exact Facts.z_range (by assumption) | exact Facts.z_sorted (by assumption) | exact Facts.z_str (by assumption) | exact Facts.z_sum (by assumption) | exact Facts.z_super (by assumption) | exact Facts.z_tuple (by assumption) | exact Facts.z_zip (by assumption) | exact Facts.g__wall (by assumption) | exact Facts.g_is_between (by assumption) | exact Facts.g_is_digits (by assumption) | exact Facts.g_seats_of (by assumption) | exact Facts.g_check_amount (by assumption) | exact Facts.g_check_seats (by assumption) | exact Facts.g_check_seat_count (by assumption) | exact Facts.g_check_bills (by assumption) | exact Facts.g_check_mark (by assumption) | exact Facts.g_no_shares (by assumption) | exact Facts.g_seats_behind (by assumption) | exact Facts.g_split_bill (by assumption) | exact Facts.g_title_line (by assumption) | exact Facts.g_line_of (by assumption) | exact Facts.g_seat_line (by assumption) | exact Facts.g_receipt (by assumption) | exact Facts.g_cents_of_line (by assumption) | exact Facts.g_mark_of_line (by assumption) | exact Facts.g_parse_receipt (by assumption) | exact Facts.g_amount_bytes (by assumption) | exact Facts.g_checksum (by assumption) | exact Facts.g_encode_evening (by assumption) | exact Facts.g_byte_at (by assumption) | exact Facts.g_amount_at (by assumption) | exact Facts.g_decode_evening (by assumption) | exact Facts.g_row_of (by assumption) | exact Facts.g_format_evening (by assumption) | exact Facts.g_is_number (by assumption) | exact Facts.g_check_row (by assumption) | exact Facts.g_numbers_of_row (by assumption) | exact Facts.g_parse_evening (by assumption) | exact Facts.g__law_mix (by assumption) | exact Facts.g__law_next (by assumption) | exact Facts.g__law_alike (by assumption) | exact Facts.g__law_bill (by assumption) | exact Facts.g__law_bills (by assumption) | exact Facts.g__law_text (by assumption) | exact Facts.g__law_pay (by assumption) | exact Facts.g__law_paid (by assumption) | exact Facts.g__law_money (by assumption) | exact Facts.g__law_lines (by assumption) | exact Facts.g_law (by assumption) | exact Facts.g_Shares (by assumption) | exact Facts.g_Bill (by assumption) | exact Facts.g_Evening (by assumption))
local macro_rules | `(tactic| walk_at "kp") => `(tactic| first | assumption | exact (Facts.mk_Shares (by assumption)).kp | exact (Facts.mk_Bill (by assumption)).kp | exact (Facts.mk_Evening (by assumption)).kp | exact Fun.kp (Facts.u__wall (by assumption)).choose_spec | exact Fun.kp (Facts.u_is_between (by assumption)).choose_spec | exact Fun.kp (Facts.u_is_digits (by assumption)).choose_spec | exact Fun.kp (Facts.u_seats_of (by assumption)).choose_spec | exact Fun.kp (Facts.u_check_amount (by assumption)).choose_spec | exact Fun.kp (Facts.u_check_seats (by assumption)).choose_spec | exact Fun.kp (Facts.u_check_seat_count (by assumption)).choose_spec | exact Fun.kp (Facts.u_check_bills (by assumption)).choose_spec | exact Fun.kp (Facts.u_check_mark (by assumption)).choose_spec | exact Fun.kp (Facts.u_no_shares (by assumption)).choose_spec | exact Fun.kp (Facts.u_seats_behind (by assumption)).choose_spec | exact Fun.kp (Facts.u_split_bill (by assumption)).choose_spec | exact Fun.kp (Facts.u_title_line (by assumption)).choose_spec | exact Fun.kp (Facts.u_line_of (by assumption)).choose_spec | exact Fun.kp (Facts.u_seat_line (by assumption)).choose_spec | exact Fun.kp (Facts.u_receipt (by assumption)).choose_spec | exact Fun.kp (Facts.u_cents_of_line (by assumption)).choose_spec | exact Fun.kp (Facts.u_mark_of_line (by assumption)).choose_spec | exact Fun.kp (Facts.u_parse_receipt (by assumption)).choose_spec | exact Fun.kp (Facts.u_amount_bytes (by assumption)).choose_spec | exact Fun.kp (Facts.u_checksum (by assumption)).choose_spec | exact Fun.kp (Facts.u_encode_evening (by assumption)).choose_spec | exact Fun.kp (Facts.u_byte_at (by assumption)).choose_spec | exact Fun.kp (Facts.u_amount_at (by assumption)).choose_spec | exact Fun.kp (Facts.u_decode_evening (by assumption)).choose_spec | exact Fun.kp (Facts.u_row_of (by assumption)).choose_spec | exact Fun.kp (Facts.u_format_evening (by assumption)).choose_spec | exact Fun.kp (Facts.u_is_number (by assumption)).choose_spec | exact Fun.kp (Facts.u_check_row (by assumption)).choose_spec | exact Fun.kp (Facts.u_numbers_of_row (by assumption)).choose_spec | exact Fun.kp (Facts.u_parse_evening (by assumption)).choose_spec | exact Fun.kp (Facts.u__law_mix (by assumption)).choose_spec | exact Fun.kp (Facts.u__law_next (by assumption)).choose_spec | exact Fun.kp (Facts.u__law_alike (by assumption)).choose_spec | exact Fun.kp (Facts.u__law_bill (by assumption)).choose_spec | exact Fun.kp (Facts.u__law_bills (by assumption)).choose_spec | exact Fun.kp (Facts.u__law_text (by assumption)).choose_spec | exact Fun.kp (Facts.u__law_pay (by assumption)).choose_spec | exact Fun.kp (Facts.u__law_paid (by assumption)).choose_spec | exact Fun.kp (Facts.u__law_money (by assumption)).choose_spec | exact Fun.kp (Facts.u__law_lines (by assumption)).choose_spec | exact Fun.kp (Facts.u_law (by assumption)).choose_spec)
/-! ### evenings read from bytes -/
section
variable {P : Program} {w : World} {K : PySem.W.Frag} {mg : Str → Option Value} {base : Heap} {a : Ad}
theorem evB_split {n : Nat} {bs : List (Int × List Int)} {k : Nat} {b : Int × List Int} (eb : bs[k]? = some b) (c : List Int) :
    evB n bs ++ c = ([111, (n : Int), (bs.length : Int)] ++ rowsB (bs.take k)) ++ (vb 6 b.1 ++ (bitI b.2 :: (rowsB (bs.drop (k + 1)) ++ c))) := by
  obtain ⟨hk, ek⟩ := List.getElem?_eq_some_iff.1 eb
  have e : bs = bs.take k ++ (b :: bs.drop (k + 1)) := by rw [← ek, List.getElem_cons_drop, List.take_append_drop]
  have e2 : rowsB bs = rowsB (bs.take k) ++ (vb 6 b.1 ++ (bitI b.2 :: rowsB (bs.drop (k + 1)))) := by
    have h : rowsB bs = rowsB (bs.take k ++ (b :: bs.drop (k + 1))) := congrArg rowsB e
    rw [h]
    simp [rowsB, rowB]
  unfold evB
  rw [e2]
  simp
def spDec (CE CB : Addr) : Sp := fun vs H Q _ => ∃ (d : Addr) (n : Nat) (bs : List (Int × List Int)), vs = [.ref d] ∧ H d = some (.lst ((evB n bs ++ [chk (evB n bs)]).map V.int)) ∧ OkEv n bs ∧ ∀ e H', H e = none → Same H H' → EvAt CE CB H' e n bs → Q (.ref e) H'
theorem ok_decode (T : Facts K mg a) : FnR P w K mg base (L2.CX P w) 6 a.f_decode_evening (spDec a.c_Evening a.c_Bill) := by
  obtain ⟨fd, F⟩ := T.u_decode_evening
  have GY : FnR P w K mg base (L2.CX P w) 2 a.f_byte_at spByte := ok_byte_at T
  have GA : FnR P w K mg base (L2.CX P w) 3 a.f_amount_at spAmtAt := ok_amount_at T
  have GS : FnR P w K mg base (L2.CX P w) 1 a.f_seats_of spSeatsOf := ok_seats_of T
  have GK : FnR P w K mg base (L2.CX P w) 1 a.f_checksum spSum := ok_checksum T
  have GB : FnR P w K mg base (L2.CX P w) 3 a.f_Bill__init_ (InitB a.c_Bill) := ok_bi_init T
  have GI : FnR P w K mg base (L2.CX P w) 4 a.f_Evening__init_ (InitE a.c_Evening a.c_Bill) := ok_ev_init T
  refine fnr_ok F sc_decode_evening (F.binds fun _ _ _ _ _ _ us hl => match us, hl with | [_], _ => rfl) (fun vs H Q E h => ?_) (fun cdv A outer s H vs Q E hr h => ?_)
  · obtain ⟨d, n, bs, rfl, _⟩ := h
    rfl
  · obtain ⟨d, n, bs, rfl, hd, ok, q⟩ := h
    obtain ⟨hn2, hn8, h30, hok⟩ := id ok
    have hel := evB_len n bs
    refine ⟨_, (pss_cons (ps_expr (pe_glA Like.refl pas_main (by rfl) (pa_cons (pv 0) (pa_cons (pe_int) (pa_cons (pe_gvI Like.refl (by rfl)) (pa_cons (pe_gvI Like.refl (by rfl)) pa_nil))))))
    (pss_cons (ps_set (i := 1) sc_decode_evening.nd rfl (Or.inl rfl) (pe_glA Like.refl pas_main (by rfl) (pa_cons (pv 0) (pa_cons (pe_int) (pa_cons (pe_gvI Like.refl (by rfl)) (pa_cons (pe_atA Like.refl pas_main (pe_gvA Like.refl (by rfl))) pa_nil))))))
    (pss_cons (ps_set (i := 2) sc_decode_evening.nd rfl (Or.inl rfl) (pe_glA Like.refl pas_main (by rfl) (pa_cons (pv 0) (pa_cons (pe_int) (pa_cons (pe_int) (pa_cons (pe_atA Like.refl pas_main (pe_gvA Like.refl (by rfl))) pa_nil))))))
    (pss_cons (ps_set (i := 3) sc_decode_evening.nd rfl (Or.inl rfl) (pe_int))
    (pss_cons (ps_set (i := 4) sc_decode_evening.nd rfl (Or.inl rfl) (pe_lst pa_nil))
    (pss_cons (ps_for own_main rfl (pi_range1 (by rfl) T.z_range (pa_cons (pv 2) pa_nil)) (pg_name (i := 5) sc_decode_evening.nd rfl (Or.inl rfl)) (pss_cons (ps_asg (pe_glA Like.refl pas_main (by rfl) (pa_cons (pv 0) (pa_cons (pv 3) pa_nil))) (pg_tup rfl (pgs_cons (pg_name (i := 6) sc_decode_evening.nd rfl (Or.inl rfl)) (pgs_cons (pg_name (i := 3) sc_decode_evening.nd rfl (Or.inl rfl)) pgs_nil))))
    (pss_cons (ps_set (i := 7) sc_decode_evening.nd rfl (Or.inl rfl) (pe_glA Like.refl pas_main (by rfl) (pa_cons (pe_glA Like.refl pas_main (by rfl) (pa_cons (pv 0) (pa_cons (pv 3) (pa_cons (pe_int) (pa_cons (pe_opA Like.refl pas_main (pe_opA Like.refl pas_main (pe_int) (pv 1)) (pe_int)) pa_nil))))) pa_nil)))
    (pss_cons (ps_expr (pe_bm PySem.F.plainAttrs_list PySem.F.slot_list_append PySem.F.type_list_append mt_append (pv 4) (pa_cons (pe_glS2 Like.refl pas_main (by rfl) (pa_cons (pv 6) (pa_starA Like.refl (pv 7) pa_nil))) pa_nil)))
    (pss_one (ps_augA (i := 3) Like.refl pas_main sc_decode_evening.nd rfl (Or.inl rfl) (pe_int)))))))
    (pss_cons (ps_set (i := 8) sc_decode_evening.nd rfl (Or.inl rfl) (pe_glA Like.refl pas_main (by rfl) (pa_cons (pe_slice sl_list (pv 0) po_none (po_some (pv 3))) pa_nil)))
    (pss_cons (ps_expr (pe_glA Like.refl pas_main (by rfl) (pa_cons (pv 0) (pa_cons (pv 3) (pa_cons (pv 8) (pa_cons (pv 8) pa_nil))))))
    (pss_cons (ps_if (pt_cmpA Like.refl pas_main (pe_biA (id := "len") Like.refl pas_main (by rfl) (by decide +kernel) (pa_cons (pv 0) pa_nil)) (pe_opA Like.refl pas_main (pv 3) (pe_int)) (nomark _)) (pss_one (ps_never)) pss_nil)
    (pss_one (ps_ret (pe_glS2 Like.refl pas_main (by rfl) (pa_cons (pv 1) (pa_starA Like.refl (pv 4) pa_nil)))))))))))))), ?_⟩
    walk_at "go"
    refine w_gvI T.i_FIRST_BYTE.choose_spec ?_
    walk_at "go"
    refine w_gvI T.i_FIRST_BYTE.choose_spec ?_
    walk_at "go"
    refine s_fn GY (hr.mono (by decide)) ⟨d, 0, 111, 111, 111, _, rfl, hd, rfl, by decide, by decide, ?_⟩
    walk_at "go"
    refine w_gvI T.i_MIN_SEAT_COUNT.choose_spec ?_
    walk_at "go"
    refine s_cval T.cr_Bill T.cv_Bill_MAX_SEATS.choose_spec ?_
    walk_at "go"
    refine s_fn GY (hr.mono (by decide)) ⟨d, 1, 2, 8, n, _, rfl, hd, rfl, by omega, by omega, ?_⟩
    walk_at "go"
    refine s_cval T.cr_Evening T.cv_Evening_MAX_BILLS.choose_spec ?_
    walk_at "go"
    refine s_fn GY (hr.mono (by decide)) ⟨d, 2, 0, 30, bs.length, _, rfl, hd, rfl, by omega, by omega, ?_⟩
    walk_at "go"
    refine ⟨by show 0 ≤ sizeLine; decide, fun l hl => ?_⟩
    have s0 := same_new (o := .lst []) hl
    walk_at "go"
    refine f_rng (n := bs.length) (fun k σ H' => Same H H' ∧ ∃ qs x5 x6 x7 x8, σ = [some (.ref d), some (.int n), some (.int (bs.length : Nat)), some (.int ((3 + (rowsB (bs.take k)).length : Nat) : Int)), some (.ref l), x5, x6, x7, x8] ∧ H' l = some (.lst (qs.map V.ref)) ∧ BisAt a.c_Bill H' qs (bs.take k)) (fun R k => by walk_at "go"; exact k) (by omega)
      ⟨s0, [], none, none, none, none, rfl, upd_same, rfl, fun i p b z => by simp at z⟩ (fun k σ H' hk pv => ?_) (fun σ H' pv => ?_)
    · obtain ⟨s1, qs, x5, x6, x7, x8, rfl, hL, hq⟩ := pv
      obtain ⟨b, eb⟩ : ∃ b, bs[k]? = some b := ⟨_, List.getElem?_eq_getElem hk⟩
      have hb := hok b (List.mem_of_getElem? eb)
      obtain ⟨ns, hns, ens⟩ := asc_mem 8 0 b.2 hb.1.2.2.1 rfl
      have ebit : bitI b.2 = (bitSum ns : Nat) := by rw [ens]; exact bitI_cast ns
      obtain ⟨hn1, hn3⟩ := ascs_bits ns hns
      have hb1 : 1 ≤ bitSum ns := hn1 (fun z => hb.1.2.2.2 (by rw [ens, z]; rfl))
      have hb2 : bitSum ns < 2 ^ n := hn3 n (List.mem_range.2 (by omega)) fun s hs => by
        have := hb.2 (Int.ofNat s) (by rw [ens]; exact List.mem_map.2 ⟨s, hs, rfl⟩)
        have e : Int.ofNat s = (s : Int) := rfl
        omega
      have es := evB_split (n := n) eb [chk (evB n bs)]
      generalize hpre : [111, (n : Int), (bs.length : Int)] ++ rowsB (bs.take k) = pre at *
      have hpl : pre.length = 3 + (rowsB (bs.take k)).length := by rw [← hpre, List.length_append]; rfl
      have hd' : H d = some (.lst ((pre ++ (vb 6 b.1 ++ (bitI b.2 :: (rowsB (bs.drop (k + 1)) ++ [chk (evB n bs)])))).map V.int)) := by rw [hd, es]
      refine w_name ?_
      dsimp only [List.set]
      walk_at "go"
      refine s_fn GA (hr.mono (by decide)) ⟨d, pre, _, b.1, by rw [hpl], s1 _ _ hd', hb.1.1, hb.1.2.1, fun t H2 ht s2 h2 => ?_⟩
      refine g_pair (SqT.of h2) ?_
      dsimp only [List.set]
      walk_at "go"
      refine s_oneShl (by omega) ?_
      walk_at "go"
      refine s_fn GY (hr.mono (by decide)) ⟨d, pre.length + (vb 6 b.1).length, 1, 2 ^ n - 1, bitI b.2, _, rfl, s2 _ _ (s1 _ _ hd'), by rw [← List.append_assoc, List.getElem?_append_right (by rw [List.length_append]; exact Nat.le_refl _), List.length_append, Nat.sub_self]; rfl, by omega, ?_, ?_⟩
      · have e : ((2 ^ n : Nat) : Int) = (2 : Int) ^ n := PySem.W.kbt_cast n
        rw [ebit, ← e]
        omega
      rw [ebit]
      refine s_fn GS (hr.mono (by decide)) ⟨ns, rfl, hns, fun t3 H3 ht3 s3 h3 => ?_⟩
      rw [← ens] at h3
      walk_at "go"
      refine w_bm ?_
      walk_at "go"
      have hL3 := s3 _ _ (s2 _ _ hL)
      refine ⟨.inl ⟨rfl, _, SqL.of hL3⟩, ?_⟩
      walk_at "go"
      refine ⟨.ref t3, rfl, t3, _, rfl, .inr (SqL.of h3), ?_⟩
      walk_at "go"
      show ∃ r, CaD _ E (.ref a.c_Bill) r ∧ r (.int b.1 :: (b.2.map V.int ++ [])) _ _
      rw [List.append_nil]
      refine s_bill T GB (hr.mono (by decide)) hb.1 (by have := ok_len hb.1; omega) fun p2 H4 hp2 s4 bi => ?_
      walk_at "go"
      have hL4 := s4 _ _ hL3
      refine ⟨l, _, _, rfl, rfl, hL4, by rw [List.length_map, hq.1, List.length_take]; exact Nat.lt_of_lt_of_le (show min k bs.length < 100 by omega) (by decide), ?_⟩
      walk_at "go"
      refine w_augI rfl ?_
      walk_at "go"
      refine s_iadd ?_
      walk_at "go"
      have sA := ((s1.trans s2).trans s3).trans s4
      have eidx : ((pre.length + (vb 6 b.1).length : Nat) : Int) + 1 = ((3 + (rowsB (bs.take (k + 1))).length : Nat) : Int) := by
        rw [List.take_add_one, eb]
        show _ = ((3 + (rowsB (bs.take k ++ [b])).length : Nat) : Int)
        rw [rowsB_snoc, hpl, List.length_append, List.length_append, List.length_singleton]
        omega
      refine ⟨same_mut sA hl, qs ++ [p2], some (.int k), some (.int b.1), some (.ref t3), x8, by rw [← eidx]; rfl, by rw [upd_same, List.map_append]; rfl, ?_⟩
      · rw [List.take_add_one, eb]
        have hq4 := ((hq.same s2).same s3).same s4
        have hq5 : BisAt a.c_Bill H4 (qs ++ [p2]) (bs.take k ++ [b]) := hq4.app ⟨rfl, fun i p b e1 e2 => by
            cases i with
            | zero => cases e1; cases e2; exact bi
            | succ i => simp at e1⟩
        refine ⟨hq5.1, fun i p b e1 e2 => ?_⟩
        obtain ⟨dx, u, h1, h2⟩ := hq5.2 i p b e1 e2
        exact ⟨dx, u, by rw [upd_ne (fun z => by rw [z, hL4] at h1; cases h1)]; exact h1, by rw [upd_ne (fun z => by rw [z, hL4] at h2; cases h2)]; exact h2⟩
    · obtain ⟨s1, qs, x5, x6, x7, x8, rfl, hL, hq⟩ := pv
      rw [List.take_of_length_le (Nat.le_refl _)] at hq ⊢
      have hl3 : 3 + (rowsB bs).length = (evB n bs).length := by unfold evB; rw [List.length_append]; rfl
      rw [hl3]
      walk_at "go"
      refine w_slt ?_
      walk_at "go"
      refine ⟨_, rfl, d, _, rfl, SqL.of (s1 _ _ hd), fun l2 hl2 => ?_⟩
      rw [cutV_to _ (by omega), Int.toNat_natCast, ← List.map_take, List.take_append_of_le_length (Nat.le_refl _), List.take_of_length_le (Nat.le_refl _)]
      have s2 := s1.trans (same_new (o := .lst ((evB n bs).map V.int)) hl2)
      have hL2 := (same_new (o := .lst ((evB n bs).map V.int)) hl2) _ _ hL
      have hq2 := hq.same (same_new (o := .lst ((evB n bs).map V.int)) hl2)
      walk_at "go"
      refine s_fn GK (hr.mono (by decide)) ⟨l2, evB n bs, rfl, upd_same, by omega, fun H3 s3 => ?_⟩
      walk_at "go"
      refine s_fn GY (hr.mono (by decide)) ⟨d, (evB n bs).length, chk (evB n bs), chk (evB n bs), chk (evB n bs), _, rfl, s3 _ _ (s2 _ _ hd), by rw [List.getElem?_append_right (Nat.le_refl _), Nat.sub_self]; rfl, Int.le_refl _, Int.le_refl _, ?_⟩
      walk_at "go"
      refine s_lenL (SqL.of (s3 _ _ (s2 _ _ hd))) ?_
      rw [List.length_map, List.length_append]
      walk_at "go"
      rw [decide_eq_false (show ¬ ((((evB n bs).length + [chk (evB n bs)].length : Nat) : Int) > (((evB n bs).length : Nat) : Int) + 1) by simp)]
      walk_at "go"
      refine ⟨.ref l, rfl, l, _, rfl, .inr (SqL.of (s3 _ _ hL2)), ?_⟩
      walk_at "go"
      show ∃ r, CaD _ E (.ref a.c_Evening) r ∧ r (.int (n : Nat) :: (qs.map V.ref ++ [])) _ _
      rw [List.append_nil]
      exact s_evening T GI (hr.mono (by decide)) (hq2.same s3) ok fun p2 H4 hp2 s5 ev => q p2 H4 ((s2.trans s3).free hp2) ((s2.trans s3).trans s5) ev
end

end Odd

namespace Odd
open PySem PySem.Spec PyProof.Rows L2
/-! tactics of this text: st one step, go as many as go -/
local macro_rules | `(tactic| walk_at "ar") => `(tactic| first | assumption | omega | (show (_ : Int) < _; omega) | decide)
local macro_rules | `(tactic| walk_at "st") => `(tactic| first
  | with_reducible refine' w_seq ?_
  | with_reducible refine' w_asg ?_
  | with_reducible refine' w_name ?_
  | with_reducible refine' w_c ?_
  | with_reducible refine' w_op ?_
  | with_reducible refine' w_ix ?_
  | with_reducible refine' w_at ?_
  | with_reducible refine' w_cons ?_
  | with_reducible refine' w_nil ?_
  | with_reducible refine' w_ret ?_
  | with_reducible refine' w_if ?_
  | with_reducible refine' w_test ?_
  | with_reducible refine' w_tr ?_
  | with_reducible refine' w_un ?_
  | with_reducible refine' w_andV ?_
  | with_reducible refine' w_orV ?_
  | with_reducible refine' w_notA ?_
  | with_reducible refine' w_ch ?_
  | with_reducible refine' w_and ?_
  | with_reducible refine' w_or ?_
  | with_reducible refine' w_not ?_
  | with_reducible refine' w_ifx ?_
  | with_reducible refine' w_tup ?_
  | with_reducible refine' w_lst ?_
  | with_reducible refine' w_next ?_
  | with_reducible refine' w_drop ?_
  | with_reducible refine' w_retN ?_
  | ((with_reducible refine' w_var ?h ?_); (case h => exact rfl))
  | ((with_reducible refine' w_bi ?h ?_); (case h => walk_at "mg"))
  | ((with_reducible refine' w_bv ?h ?_); (case h => walk_at "mg"))
  | ((with_reducible refine' w_gv ?h ?_); (case h => walk_at "mg"))
  | ((with_reducible refine' w_gl ?h ?k ?_); (case h => walk_at "mg"); (case k => walk_at "kp"))
  | ((with_reducible refine' w_glS ?h ?k ?_); (case h => walk_at "mg"); (case k => walk_at "kp"))
  | with_reducible refine' bl_ex ?_
  | with_reducible refine' iteT ?_
  | with_reducible refine' iteF ?_
  | with_reducible refine' ite_nf ?_
  | with_reducible refine' ite_nt ?_
  | with_reducible refine' s_add ?_
  | with_reducible refine' s_sub ?_
  | with_reducible refine' s_lt ?_
  | with_reducible refine' s_le ?_
  | with_reducible refine' s_gt ?_
  | with_reducible refine' s_ge ?_
  | with_reducible refine' s_eqI ?_
  | with_reducible refine' s_neI ?_
  | with_reducible refine' s_eqB ?_
  | with_reducible refine' s_neB ?_
  | with_reducible refine' s_truB ?_
  | with_reducible refine' s_truI ?_
  | with_reducible refine' s_neg ?_
  | ((with_reducible refine' s_mod ?h ?_); (case h => walk_at "ar")))
local macro_rules | `(tactic| walk_at "go") => `(tactic| repeat walk_at "st")

local macro_rules | `(tactic| walk_at "mg") => `(tactic| first | assumption | exact Facts.z_TypeError (by assumption) | exact Facts.z_bool (by assumption) | exact Facts.z_classmethod (by assumption) | exact Facts.z_dict (by assumption) | exact Facts.z_divmod (by assumption) | exact Facts.z_enumerate (by assumption) | exact Facts.z_int (by assumption) | exact Facts.z_isinstance (by assumption) | exact Facts.z_len (by assumption) | exact Facts.z_list (by assumption) | exact Facts.z_max (by assumption) | exact Facts.z_min (by assumption) | exact Facts.z_property (by assumption) | exact Facts.z_range (by assumption) | exact Facts.z_sorted (by assumption) | exact Facts.z_str (by assumption) | exact Facts.z_sum (by assumption) | exact Facts.z_super (by assumption) | exact Facts.z_tuple (by assumption) | exact Facts.z_zip (by assumption) | exact Facts.g__wall (by assumption) | exact Facts.g_is_between (by assumption) | exact Facts.g_is_digits (by assumption) | exact Facts.g_seats_of (by assumption) | exact Facts.g_check_amount (by assumption) | exact Facts.g_check_seats (by assumption) | exact Facts.g_check_seat_count (by assumption) | exact Facts.g_check_bills (by assumption) | exact Facts.g_check_mark (by assumption) | exact Facts.g_no_shares (by assumption) | exact Facts.g_seats_behind (by assumption) | exact Facts.g_split_bill (by assumption) | exact Facts.g_title_line (by assumption) | exact Facts.g_line_of (by assumption) | exact Facts.g_seat_line (by assumption) | exact Facts.g_receipt (by assumption) | exact Facts.g_cents_of_line (by assumption) | exact Facts.g_mark_of_line (by assumption) | exact Facts.g_parse_receipt (by assumption) | exact Facts.g_amount_bytes (by assumption) | exact Facts.g_checksum (by assumption) | exact Facts.g_encode_evening (by assumption) | exact Facts.g_byte_at (by assumption) | exact Facts.g_amount_at (by assumption) | exact Facts.g_decode_evening (by assumption) | exact Facts.g_row_of (by assumption) | exact Facts.g_format_evening (by assumption) | exact Facts.g_is_number (by assumption) | exact Facts.g_check_row (by assumption) | exact Facts.g_numbers_of_row (by assumption) | exact Facts.g_parse_evening (by assumption) | exact Facts.g__law_mix (by assumption) | exact Facts.g__law_next (by assumption) | exact Facts.g__law_alike (by assumption) | exact Facts.g__law_bill (by assumption) | exact Facts.g__law_bills (by assumption) | exact Facts.g__law_text (by assumption) | exact Facts.g__law_pay (by assumption) | exact Facts.g__law_paid (by assumption) | exact Facts.g__law_money (by assumption) | exact Facts.g__law_lines (by assumption) | exact Facts.g_law (by assumption) | exact Facts.g_Shares (by assumption) | exact Facts.g_Bill (by assumption) | exact Facts.g_Evening (by assumption))
local macro_rules | `(tactic| walk_at "kp") => `(tactic| first | assumption | exact (Facts.mk_Shares (by assumption)).kp | exact (Facts.mk_Bill (by assumption)).kp | exact (Facts.mk_Evening (by assumption)).kp | exact Fun.kp (Facts.u__wall (by assumption)).choose_spec | exact Fun.kp (Facts.u_is_between (by assumption)).choose_spec | exact Fun.kp (Facts.u_is_digits (by assumption)).choose_spec | exact Fun.kp (Facts.u_seats_of (by assumption)).choose_spec | exact Fun.kp (Facts.u_check_amount (by assumption)).choose_spec | exact Fun.kp (Facts.u_check_seats (by assumption)).choose_spec | exact Fun.kp (Facts.u_check_seat_count (by assumption)).choose_spec | exact Fun.kp (Facts.u_check_bills (by assumption)).choose_spec | exact Fun.kp (Facts.u_check_mark (by assumption)).choose_spec | exact Fun.kp (Facts.u_no_shares (by assumption)).choose_spec | exact Fun.kp (Facts.u_seats_behind (by assumption)).choose_spec | exact Fun.kp (Facts.u_split_bill (by assumption)).choose_spec | exact Fun.kp (Facts.u_title_line (by assumption)).choose_spec | exact Fun.kp (Facts.u_line_of (by assumption)).choose_spec | exact Fun.kp (Facts.u_seat_line (by assumption)).choose_spec | exact Fun.kp (Facts.u_receipt (by assumption)).choose_spec | exact Fun.kp (Facts.u_cents_of_line (by assumption)).choose_spec | exact Fun.kp (Facts.u_mark_of_line (by assumption)).choose_spec | exact Fun.kp (Facts.u_parse_receipt (by assumption)).choose_spec | exact Fun.kp (Facts.u_amount_bytes (by assumption)).choose_spec | exact Fun.kp (Facts.u_checksum (by assumption)).choose_spec | exact Fun.kp (Facts.u_encode_evening (by assumption)).choose_spec | exact Fun.kp (Facts.u_byte_at (by assumption)).choose_spec | exact Fun.kp (Facts.u_amount_at (by assumption)).choose_spec | exact Fun.kp (Facts.u_decode_evening (by assumption)).choose_spec | exact Fun.kp (Facts.u_row_of (by assumption)).choose_spec | exact Fun.kp (Facts.u_format_evening (by assumption)).choose_spec | exact Fun.kp (Facts.u_is_number (by assumption)).choose_spec | exact Fun.kp (Facts.u_check_row (by assumption)).choose_spec | exact Fun.kp (Facts.u_numbers_of_row (by assumption)).choose_spec | exact Fun.kp (Facts.u_parse_evening (by assumption)).choose_spec | exact Fun.kp (Facts.u__law_mix (by assumption)).choose_spec | exact Fun.kp (Facts.u__law_next (by assumption)).choose_spec | exact Fun.kp (Facts.u__law_alike (by assumption)).choose_spec | exact Fun.kp (Facts.u__law_bill (by assumption)).choose_spec | exact Fun.kp (Facts.u__law_bills (by assumption)).choose_spec | exact Fun.kp (Facts.u__law_text (by assumption)).choose_spec | exact Fun.kp (Facts.u__law_pay (by assumption)).choose_spec | exact Fun.kp (Facts.u__law_paid (by assumption)).choose_spec | exact Fun.kp (Facts.u__law_money (by assumption)).choose_spec | exact Fun.kp (Facts.u__law_lines (by assumption)).choose_spec | exact Fun.kp (Facts.u_law (by assumption)).choose_spec)
/-! ### money as the law writes it -/
section
variable {P : Program} {w : World} {K : PySem.W.Frag} {mg : Str → Option Value} {base : Heap} {a : Ad}
/-- ',' and three digits -/
def grp3 (p : Int) : Str := (("," : Str) ++ signs 48 (3 - ((numS p).length : Int)).toNat) ++ numS p
def mon : Nat → Int → Str → Str
  | 0, x, g => numS x ++ g
  | f + 1, x, g => if x > 999 then mon f (x / 1000) (grp3 (x - x / 1000 * 1000) ++ g) else numS x ++ g
def moneyV (c : Int) : Str := ((mon 5 (c / 100) "" ++ ("." : Str)) ++ signs 48 (2 - ((numS (c - c / 100 * 100)).length : Int)).toNat) ++ numS (c - c / 100 * 100)
theorem mon_small {f : Nat} {x : Int} {g : Str} (h : ¬ x > 999) : mon f x g = numS x ++ g := by
  cases f with
  | zero => rfl
  | succ f => unfold mon; rw [if_neg h]
theorem mon_big {f : Nat} {x : Int} {g : Str} (h : x > 999) (hb : x < 1000 ^ (f + 1)) : ∃ k, f = k + 1 ∧ mon f x g = mon k (x / 1000) (grp3 (x - x / 1000 * 1000) ++ g) ∧ x / 1000 < 1000 ^ (k + 1) := by
  cases f with
  | zero => exact absurd hb (by rw [Int.pow_succ, Int.pow_zero]; omega)
  | succ k =>
    refine ⟨k, rfl, ?_, ?_⟩
    · show (if x > 999 then _ else _) = _
      rw [if_pos h]
    · exact Int.ediv_lt_of_lt_mul (by decide) (by rw [← Int.pow_succ]; exact hb)
theorem str_len_app (x y : Str) : (x ++ y).length = x.length + y.length := by
  show (x.cps ++ y.cps).size = _
  rw [Array.size_append]
  rfl
def spMoney : Sp := fun vs H Q _ => ∃ c : Int, vs = [.int c] ∧ 0 ≤ c ∧ c < 10 ^ 15 ∧ Q (.str (moneyV c)) H
theorem ok_money (T : Facts K mg a) : FnR P w K mg base (L2.CX P w) 1 a.f__law_money spMoney := by
  obtain ⟨fd, F⟩ := T.u__law_money
  refine fnr_ok F sc__law_money (F.binds fun _ _ _ _ _ _ us hl => match us, hl with | [_], _ => rfl) (fun vs H Q E h => ?_) (fun cdv A outer s H vs Q E hr h => ?_)
  · obtain ⟨c, rfl, _⟩ := h
    rfl
  · obtain ⟨c, rfl, h0, h1, q⟩ := h
    have e15 : (10 : Int) ^ 15 = 1000000000000000 := by decide
    have e13 : (10 : Int) ^ 13 = 10000000000000 := by decide
    have lim : (1000 : Nat) ≤ sizeLine := by decide
    have e18 : ∀ {x : Int}, x < 10 ^ 15 → x < 1000 ^ (5 + 1) := fun {x} hx => by
      have e : (1000 : Int) ^ (5 + 1) = 1000000000000000000 := by decide
      omega
    refine ⟨_, (pss_cons (ps_par3 (i := 1) (j := 2) (l := 3) rfl sc__law_money.nd rfl rfl rfl (by decide) (by decide) (by decide) rfl rfl rfl (pa_cons (pe_opA Like.refl pas_main (pv 0) (pe_int)) (pa_cons (pe_opA Like.refl pas_main (pv 0) (pe_opA Like.refl pas_main (pe_opA Like.refl pas_main (pv 0) (pe_int)) (pe_int))) (pa_cons (pe_str) pa_nil))) (by rfl))
    (pss_cons (ps_while own_main (pt_cmpA Like.refl pas_main (pv 1) (pe_int) (nomark _)) (pss_cons (ps_set (i := 4) sc__law_money.nd rfl (Or.inl rfl) (pe_tyA (T := "str") Like.refl pas_main (by rfl) (by decide +kernel) (pa_cons (pe_opA Like.refl pas_main (pv 1) (pe_opA Like.refl pas_main (pe_opA Like.refl pas_main (pv 1) (pe_int)) (pe_int))) pa_nil)))
    (pss_one (ps_par (i := 3) (j := 1) rfl sc__law_money.nd rfl rfl (by decide) rfl rfl (pa_cons (pe_opA Like.refl pas_main (pe_opA Like.refl pas_main (pe_opA Like.refl pas_main (pe_str) (pe_opA Like.refl pas_main (pe_str) (pe_opA Like.refl pas_main (pe_int) (pe_biA (id := "len") Like.refl pas_main (by rfl) (by decide +kernel) (pa_cons (pv 4) pa_nil))))) (pv 4)) (pv 3)) (pa_cons (pe_opA Like.refl pas_main (pv 1) (pe_int)) pa_nil)) (by rfl)))))
    (pss_one (ps_ret (pe_opA Like.refl pas_main (pe_opA Like.refl pas_main (pe_opA Like.refl pas_main (pe_opA Like.refl pas_main (pe_tyA (T := "str") Like.refl pas_main (by rfl) (by decide +kernel) (pa_cons (pv 1) pa_nil)) (pv 3)) (pe_str)) (pe_opA Like.refl pas_main (pe_str) (pe_opA Like.refl pas_main (pe_int) (pe_biA (id := "len") Like.refl pas_main (by rfl) (by decide +kernel) (pa_cons (pe_tyA (T := "str") Like.refl pas_main (by rfl) (by decide +kernel) (pa_cons (pv 2) pa_nil)) pa_nil))))) (pe_tyA (T := "str") Like.refl pas_main (by rfl) (by decide +kernel) (pa_cons (pv 2) pa_nil))))))), ?_⟩
    walk_at "go"
    refine w_par3 ?_
    walk_at "go"
    refine s_fdiv ⟨by decide, by decide⟩ ?_
    walk_at "go"
    refine s_fdiv ⟨by decide, by decide⟩ ?_
    walk_at "go"
    refine s_mul (.inr ⟨by decide, by decide⟩) ?_
    walk_at "go"
    refine ⟨_, _, _, rfl, ?_⟩
    dsimp only [List.set]
    have r0 : 0 ≤ c - c / 100 * 100 := by omega
    have r1 : c - c / 100 * 100 < 100 := by omega
    obtain ⟨rl, rl1⟩ := numS_len r0 (by omega)
    generalize hrest : c - c / 100 * 100 = rest at *
    have done : ∀ X : Str, X = mon 5 (c / 100) "" → Q (.str (((X ++ ("." : Str)) ++ signs 48 (2 - ((numS rest).length : Int)).toNat) ++ numS rest)) H := fun X e => by
      rw [e]
      unfold moneyV at q
      rw [hrest] at q
      exact q
    walk_at "go"
    refine ⟨fun mm σ H3 => ∃ (f : Nat) (x : Int) (g : Str), mm = f ∧ f ≤ 5 ∧ 0 ≤ x ∧ x < 10 ^ 13 ∧ x < 1000 ^ (f + 1) ∧ g.length + 17 * f ≤ 100 ∧ mon 5 (c / 100) "" = mon f x g ∧ H3 = H ∧ ∃ x4, σ = [some (.int c), some (.int x), some (.int rest), some (.str g), x4],
      ⟨5, 5, c / 100, "", rfl, by decide, by omega, by omega, e18 (by omega), by decide, rfl, rfl, none, rfl⟩, ?_⟩
    rintro mm σ H3 ⟨f, x, g, rfl, hf, x0, x1, xb, gl, eq, rfl, x4, rfl⟩
    walk_at "go"
    refine ite_d (fun hbig => ?_) (fun hsm => ?_)
    · obtain ⟨k, rfl, em, xb2⟩ := mon_big (g := g) hbig xb
      have p0 : 0 ≤ x - x / 1000 * 1000 := by omega
      have p1 : x - x / 1000 * 1000 < 1000 := by omega
      obtain ⟨pl, pl1⟩ := numS_len p0 (by omega)
      refine ⟨fun σ' H4 => ∃ m', m' < k + 1 ∧ ∃ (f : Nat) (x : Int) (g : Str), m' = f ∧ f ≤ 5 ∧ 0 ≤ x ∧ x < 10 ^ 13 ∧ x < 1000 ^ (f + 1) ∧ g.length + 17 * f ≤ 100 ∧ mon 5 (c / 100) "" = mon f x g ∧ H4 = H3 ∧ ∃ x4, σ' = [some (.int c), some (.int x), some (.int rest), some (.str g), x4], fun _ _ h => h, ?_⟩
      walk_at "go"
      refine s_fdiv ⟨by decide, by decide⟩ ?_
      walk_at "go"
      refine s_mul (.inr ⟨by decide, by decide⟩) ?_
      walk_at "go"
      refine s_strI (log_small p0 (by omega)) ?_
      walk_at "go"
      dsimp only [List.set]
      refine w_par ?_
      walk_at "go"
      refine s_lenStr (x := numS (x - x / 1000 * 1000)) (Nat.le_trans pl (by decide)) ?_
      walk_at "go"
      refine s_sign (c := 48) (by omega) (by omega) ?_
      have sl : (signs 48 (3 - ((numS (x - x / 1000 * 1000)).length : Int)).toNat).length ≤ 3 := by rw [signs_len]; omega
      refine s_catS (Nat.le_trans (show ("," : Str).length + (signs 48 (3 - ((numS (x - x / 1000 * 1000)).length : Int)).toNat).length ≤ 1000 by rw [show ("," : Str).length = 1 from rfl]; omega) lim) ?_
      walk_at "go"
      refine s_catS (y := numS (x - x / 1000 * 1000)) (Nat.le_trans (show _ ≤ 1000 by rw [str_len_app, show ("," : Str).length = 1 from rfl]; omega) lim) ?_
      walk_at "go"
      have gl3 : (grp3 (x - x / 1000 * 1000)).length ≤ 17 := by
        unfold grp3
        rw [str_len_app, str_len_app, show ("," : Str).length = 1 from rfl]
        omega
      refine s_catS (x := grp3 (x - x / 1000 * 1000)) (Nat.le_trans (show _ ≤ 1000 by omega) lim) ?_
      walk_at "go"
      refine s_fdiv ⟨by decide, by decide⟩ ?_
      walk_at "go"
      refine ⟨_, _, rfl, ?_⟩
      dsimp only [List.set]
      exact ⟨k, by omega, k, x / 1000, grp3 (x - x / 1000 * 1000) ++ g, rfl, by omega, by omega, by omega, xb2, by rw [str_len_app]; omega, eq.trans em, rfl, _, rfl⟩
    · rw [mon_small hsm] at eq
      obtain ⟨wl, _⟩ := numS_len x0 x1
      walk_at "go"
      refine s_strI (log_small x0 x1) ?_
      walk_at "go"
      refine s_catS (x := numS x) (Nat.le_trans (show _ ≤ 1000 by omega) lim) ?_
      walk_at "go"
      have l1 : (numS x ++ g).length ≤ 113 := by rw [str_len_app]; omega
      refine s_catS (Nat.le_trans (show (numS x ++ g).length + ("." : Str).length ≤ 1000 by rw [show ("." : Str).length = 1 from rfl]; omega) lim) ?_
      walk_at "go"
      refine s_strI (log_small r0 (by omega)) ?_
      walk_at "go"
      refine s_lenStr (x := numS rest) (Nat.le_trans rl (by decide)) ?_
      walk_at "go"
      refine s_sign (c := 48) (by omega) (by omega) ?_
      have sl : (signs 48 (2 - ((numS rest).length : Int)).toNat).length ≤ 2 := by rw [signs_len]; omega
      have l2 : ((numS x ++ g) ++ ("." : Str)).length ≤ 114 := by rw [str_len_app, show ("." : Str).length = 1 from rfl]; omega
      refine s_catS (x := (numS x ++ g) ++ ("." : Str)) (Nat.le_trans (show _ ≤ 1000 by omega) lim) ?_
      walk_at "go"
      refine s_strI (log_small r0 (by omega)) ?_
      walk_at "go"
      have l3 : (((numS x ++ g) ++ ("." : Str)) ++ signs 48 (2 - ((numS rest).length : Int)).toNat).length ≤ 116 := by rw [str_len_app]; omega
      refine s_catS (x := ((numS x ++ g) ++ ("." : Str)) ++ signs 48 (2 - ((numS rest).length : Int)).toNat) (y := numS rest) (Nat.le_trans (show _ ≤ 1000 by omega) lim) ?_
      exact done _ eq.symm
end

end Odd

namespace Odd
open PySem PySem.Spec PyProof.Rows L2
/-! tactics of this text: st one step, go as many as go -/
local macro_rules | `(tactic| walk_at "ar") => `(tactic| first | assumption | omega | (show (_ : Int) < _; omega) | decide)
local macro_rules | `(tactic| walk_at "st") => `(tactic| first
  | with_reducible refine' w_seq ?_
  | with_reducible refine' w_asg ?_
  | with_reducible refine' w_name ?_
  | with_reducible refine' w_c ?_
  | with_reducible refine' w_op ?_
  | with_reducible refine' w_ix ?_
  | with_reducible refine' w_at ?_
  | with_reducible refine' w_cons ?_
  | with_reducible refine' w_nil ?_
  | with_reducible refine' w_ret ?_
  | with_reducible refine' w_if ?_
  | with_reducible refine' w_test ?_
  | with_reducible refine' w_tr ?_
  | with_reducible refine' w_un ?_
  | with_reducible refine' w_andV ?_
  | with_reducible refine' w_orV ?_
  | with_reducible refine' w_notA ?_
  | with_reducible refine' w_ch ?_
  | with_reducible refine' w_and ?_
  | with_reducible refine' w_or ?_
  | with_reducible refine' w_not ?_
  | with_reducible refine' w_ifx ?_
  | with_reducible refine' w_tup ?_
  | with_reducible refine' w_lst ?_
  | with_reducible refine' w_next ?_
  | with_reducible refine' w_drop ?_
  | with_reducible refine' w_retN ?_
  | ((with_reducible refine' w_var ?h ?_); (case h => exact rfl))
  | ((with_reducible refine' w_bi ?h ?_); (case h => walk_at "mg"))
  | ((with_reducible refine' w_bv ?h ?_); (case h => walk_at "mg"))
  | ((with_reducible refine' w_gv ?h ?_); (case h => walk_at "mg"))
  | ((with_reducible refine' w_gl ?h ?k ?_); (case h => walk_at "mg"); (case k => walk_at "kp"))
  | ((with_reducible refine' w_glS ?h ?k ?_); (case h => walk_at "mg"); (case k => walk_at "kp"))
  | with_reducible refine' bl_ex ?_
  | with_reducible refine' iteT ?_
  | with_reducible refine' iteF ?_
  | with_reducible refine' ite_nf ?_
  | with_reducible refine' ite_nt ?_
  | with_reducible refine' s_add ?_
  | with_reducible refine' s_sub ?_
  | with_reducible refine' s_lt ?_
  | with_reducible refine' s_le ?_
  | with_reducible refine' s_gt ?_
  | with_reducible refine' s_ge ?_
  | with_reducible refine' s_eqI ?_
  | with_reducible refine' s_neI ?_
  | with_reducible refine' s_eqB ?_
  | with_reducible refine' s_neB ?_
  | with_reducible refine' s_truB ?_
  | with_reducible refine' s_truI ?_
  | with_reducible refine' s_neg ?_
  | ((with_reducible refine' s_mod ?h ?_); (case h => walk_at "ar")))
local macro_rules | `(tactic| walk_at "go") => `(tactic| repeat walk_at "st")

local macro_rules | `(tactic| walk_at "mg") => `(tactic| first | assumption | exact Facts.z_TypeError (by assumption) | exact Facts.z_bool (by assumption) | exact Facts.z_classmethod (by assumption) | exact Facts.z_dict (by assumption) | exact Facts.z_divmod (by assumption) | exact Facts.z_enumerate (by assumption) | exact Facts.z_int (by assumption) | exact Facts.z_isinstance (by assumption) | exact Facts.z_len (by assumption) | exact Facts.z_list (by assumption) | exact Facts.z_max (by assumption) | exact Facts.z_min (by assumption) | exact Facts.z_property (by assumption) | exact Facts.z_range (by assumption) | exact Facts.z_sorted (by assumption) | exact Facts.z_str (by assumption) | exact Facts.z_sum (by assumption) | exact Facts.z_super (by assumption) | exact Facts.z_tuple (by assumption) | exact Facts.z_zip (by assumption) | exact Facts.g__wall (by assumption) | exact Facts.g_is_between (by assumption) | exact Facts.g_is_digits (by assumption) | exact Facts.g_seats_of (by assumption) | exact Facts.g_check_amount (by assumption) | exact Facts.g_check_seats (by assumption) | exact Facts.g_check_seat_count (by assumption) | exact Facts.g_check_bills (by assumption) | exact Facts.g_check_mark (by assumption) | exact Facts.g_no_shares (by assumption) | exact Facts.g_seats_behind (by assumption) | exact Facts.g_split_bill (by assumption) | exact Facts.g_title_line (by assumption) | exact Facts.g_line_of (by assumption) | exact Facts.g_seat_line (by assumption) | exact Facts.g_receipt (by assumption) | exact Facts.g_cents_of_line (by assumption) | exact Facts.g_mark_of_line (by assumption) | exact Facts.g_parse_receipt (by assumption) | exact Facts.g_amount_bytes (by assumption) | exact Facts.g_checksum (by assumption) | exact Facts.g_encode_evening (by assumption) | exact Facts.g_byte_at (by assumption) | exact Facts.g_amount_at (by assumption) | exact Facts.g_decode_evening (by assumption) | exact Facts.g_row_of (by assumption) | exact Facts.g_format_evening (by assumption) | exact Facts.g_is_number (by assumption) | exact Facts.g_check_row (by assumption) | exact Facts.g_numbers_of_row (by assumption) | exact Facts.g_parse_evening (by assumption) | exact Facts.g__law_mix (by assumption) | exact Facts.g__law_next (by assumption) | exact Facts.g__law_alike (by assumption) | exact Facts.g__law_bill (by assumption) | exact Facts.g__law_bills (by assumption) | exact Facts.g__law_text (by assumption) | exact Facts.g__law_pay (by assumption) | exact Facts.g__law_paid (by assumption) | exact Facts.g__law_money (by assumption) | exact Facts.g__law_lines (by assumption) | exact Facts.g_law (by assumption) | exact Facts.g_Shares (by assumption) | exact Facts.g_Bill (by assumption) | exact Facts.g_Evening (by assumption))
local macro_rules | `(tactic| walk_at "kp") => `(tactic| first | assumption | exact (Facts.mk_Shares (by assumption)).kp | exact (Facts.mk_Bill (by assumption)).kp | exact (Facts.mk_Evening (by assumption)).kp | exact Fun.kp (Facts.u__wall (by assumption)).choose_spec | exact Fun.kp (Facts.u_is_between (by assumption)).choose_spec | exact Fun.kp (Facts.u_is_digits (by assumption)).choose_spec | exact Fun.kp (Facts.u_seats_of (by assumption)).choose_spec | exact Fun.kp (Facts.u_check_amount (by assumption)).choose_spec | exact Fun.kp (Facts.u_check_seats (by assumption)).choose_spec | exact Fun.kp (Facts.u_check_seat_count (by assumption)).choose_spec | exact Fun.kp (Facts.u_check_bills (by assumption)).choose_spec | exact Fun.kp (Facts.u_check_mark (by assumption)).choose_spec | exact Fun.kp (Facts.u_no_shares (by assumption)).choose_spec | exact Fun.kp (Facts.u_seats_behind (by assumption)).choose_spec | exact Fun.kp (Facts.u_split_bill (by assumption)).choose_spec | exact Fun.kp (Facts.u_title_line (by assumption)).choose_spec | exact Fun.kp (Facts.u_line_of (by assumption)).choose_spec | exact Fun.kp (Facts.u_seat_line (by assumption)).choose_spec | exact Fun.kp (Facts.u_receipt (by assumption)).choose_spec | exact Fun.kp (Facts.u_cents_of_line (by assumption)).choose_spec | exact Fun.kp (Facts.u_mark_of_line (by assumption)).choose_spec | exact Fun.kp (Facts.u_parse_receipt (by assumption)).choose_spec | exact Fun.kp (Facts.u_amount_bytes (by assumption)).choose_spec | exact Fun.kp (Facts.u_checksum (by assumption)).choose_spec | exact Fun.kp (Facts.u_encode_evening (by assumption)).choose_spec | exact Fun.kp (Facts.u_byte_at (by assumption)).choose_spec | exact Fun.kp (Facts.u_amount_at (by assumption)).choose_spec | exact Fun.kp (Facts.u_decode_evening (by assumption)).choose_spec | exact Fun.kp (Facts.u_row_of (by assumption)).choose_spec | exact Fun.kp (Facts.u_format_evening (by assumption)).choose_spec | exact Fun.kp (Facts.u_is_number (by assumption)).choose_spec | exact Fun.kp (Facts.u_check_row (by assumption)).choose_spec | exact Fun.kp (Facts.u_numbers_of_row (by assumption)).choose_spec | exact Fun.kp (Facts.u_parse_evening (by assumption)).choose_spec | exact Fun.kp (Facts.u__law_mix (by assumption)).choose_spec | exact Fun.kp (Facts.u__law_next (by assumption)).choose_spec | exact Fun.kp (Facts.u__law_alike (by assumption)).choose_spec | exact Fun.kp (Facts.u__law_bill (by assumption)).choose_spec | exact Fun.kp (Facts.u__law_bills (by assumption)).choose_spec | exact Fun.kp (Facts.u__law_text (by assumption)).choose_spec | exact Fun.kp (Facts.u__law_pay (by assumption)).choose_spec | exact Fun.kp (Facts.u__law_paid (by assumption)).choose_spec | exact Fun.kp (Facts.u__law_money (by assumption)).choose_spec | exact Fun.kp (Facts.u__law_lines (by assumption)).choose_spec | exact Fun.kp (Facts.u_law (by assumption)).choose_spec)
/-! ### the lines of a receipt as the law writes them -/
section
variable {P : Program} {w : World} {K : PySem.W.Frag} {mg : Str → Option Value} {base : Heap} {a : Ad}
def ttl (n : Nat) : Str := ((" table of " : Str) ++ numS (n : Nat)) ++ (" " : Str)
def lft (n : Nat) : Int := (30 - ((ttl n).length : Int)) / 2
def titleV (n : Nat) : Str := (signs 61 (lft n).toNat ++ ttl n) ++ signs 61 (30 - ((ttl n).length : Int) - lft n).toNat
def lineV (i : Nat) (c : Int) : Str := ((numS (i : Nat) ++ ("   " : Str)) ++ signs 32 (26 - ((moneyV c).length : Int)).toNat) ++ moneyV c
def markV (m : Int) : Str := (("mark" : Str) ++ signs 32 25) ++ numS m
def linesV (n : Nat) (cs : List Int) (m : Int) : List Str := (titleV n :: (List.range n).map fun i => lineV i (cs.getD i 0)) ++ [markV m]
theorem mon_len : ∀ (f : Nat) (x : Int) (g : Str), 0 ≤ x → x < 10 ^ 13 → (mon f x g).length ≤ 13 + g.length + 17 * f
  | 0, x, g, h0, h1 => by
    have := (numS_len h0 h1).1
    show (numS x ++ g).length ≤ _
    rw [str_len_app]
    omega
  | f + 1, x, g, h0, h1 => by
    have e13 : (10 : Int) ^ 13 = 10000000000000 := by decide
    unfold mon
    split
    · have ih := mon_len f (x / 1000) (grp3 (x - x / 1000 * 1000) ++ g) (by omega) (by omega)
      have gl3 : (grp3 (x - x / 1000 * 1000)).length ≤ 17 := by
        have p := numS_len (i := x - x / 1000 * 1000) (by omega) (by omega)
        unfold grp3
        rw [str_len_app, str_len_app, signs_len, show ("," : Str).length = 1 from rfl]
        omega
      rw [str_len_app] at ih
      omega
    · have := (numS_len h0 h1).1
      rw [str_len_app]
      omega
theorem money_len {c : Int} (h0 : 0 ≤ c) (h1 : c < 10 ^ 15) : (moneyV c).length ≤ 120 := by
  have e15 : (10 : Int) ^ 15 = 1000000000000000 := by decide
  have e13 : (10 : Int) ^ 13 = 10000000000000 := by decide
  have hm := mon_len 5 (c / 100) "" (by omega) (by omega)
  have hr := numS_len (i := c - c / 100 * 100) (by omega) (by omega)
  unfold moneyV
  rw [str_len_app, str_len_app, str_len_app, signs_len, show ("." : Str).length = 1 from rfl]
  rw [show ("" : Str).length = 0 from rfl] at hm
  omega
theorem one_len {i : Nat} (h : i < 10) : (numS (i : Nat)).length ≤ 13 := by
  have e13 : (10 : Int) ^ 13 = 10000000000000 := by decide
  exact (numS_len (i := (i : Int)) (by omega) (by omega)).1
def spLines : Sp := fun vs H Q _ => ∃ (n : Nat) (l : Addr) (cs : List Int) (m : Nat), vs = [.int n, .ref l, .int m] ∧ H l = some (.lst (cs.map V.int)) ∧ cs.length = n ∧ n ≤ 8 ∧ m < 8 ∧ (∀ c ∈ cs, 0 ≤ c ∧ c < 10 ^ 15) ∧ ∀ p H', H p = none → Same H H' → H' p = some (.lst ((linesV n cs m).map V.str)) → Q (.ref p) H'
theorem ok_lines (T : Facts K mg a) : FnR P w K mg base (L2.CX P w) 2 a.f__law_lines spLines := by
  obtain ⟨fd, F⟩ := T.u__law_lines
  have GM : FnR P w K mg base (L2.CX P w) 1 a.f__law_money spMoney := ok_money T
  refine fnr_ok F sc__law_lines (F.binds fun _ _ _ _ _ _ us hl => match us, hl with | [_, _, _], _ => rfl) (fun vs H Q E h => ?_) (fun cdv A outer s H vs Q E hr h => ?_)
  · obtain ⟨n, l, cs, m, rfl, _⟩ := h
    rfl
  · obtain ⟨n, l, cs, m, rfl, hl, hcl, hn8, hm8, hcs, q⟩ := h
    have e13 : (10 : Int) ^ 13 = 10000000000000 := by decide
    have lim : (1000 : Nat) ≤ sizeLine := by decide
    have nl := one_len (i := n) (by omega)
    have ml := one_len (i := m) (by omega)
    have tl0 : (ttl n).length ≤ 24 := by
      unfold ttl
      rw [str_len_app, str_len_app, show (" table of " : Str).length = 10 from rfl, show (" " : Str).length = 1 from rfl]
      omega
    have lf : 0 ≤ lft n ∧ lft n ≤ 15 := by unfold lft; omega
    refine ⟨_, (pss_cons (ps_set (i := 3) sc__law_lines.nd rfl (Or.inl rfl) (pe_opA Like.refl pas_main (pe_opA Like.refl pas_main (pe_str) (pe_tyA (T := "str") Like.refl pas_main (by rfl) (by decide +kernel) (pa_cons (pv 0) pa_nil))) (pe_str)))
    (pss_cons (ps_set (i := 4) sc__law_lines.nd rfl (Or.inl rfl) (pe_opA Like.refl pas_main (pe_opA Like.refl pas_main (pe_int) (pe_biA (id := "len") Like.refl pas_main (by rfl) (by decide +kernel) (pa_cons (pv 3) pa_nil))) (pe_int)))
    (pss_cons (ps_set (i := 5) sc__law_lines.nd rfl (Or.inl rfl) (pe_lst (pa_cons (pe_opA Like.refl pas_main (pe_opA Like.refl pas_main (pe_opA Like.refl pas_main (pe_str) (pv 4)) (pv 3)) (pe_opA Like.refl pas_main (pe_str) (pe_opA Like.refl pas_main (pe_opA Like.refl pas_main (pe_int) (pe_biA (id := "len") Like.refl pas_main (by rfl) (by decide +kernel) (pa_cons (pv 3) pa_nil))) (pv 4)))) pa_nil)))
    (pss_cons (ps_for own_main rfl (pi_range1 (by rfl) T.z_range (pa_cons (pv 0) pa_nil)) (pg_name (i := 6) sc__law_lines.nd rfl (Or.inl rfl)) (pss_cons (ps_set (i := 7) sc__law_lines.nd rfl (Or.inl rfl) (pe_glA Like.refl pas_main (by rfl) (pa_cons (pe_ixA Like.refl pas_main (pv 1) (pv 6)) pa_nil)))
    (pss_one (ps_expr (pe_bm PySem.F.plainAttrs_list PySem.F.slot_list_append PySem.F.type_list_append mt_append (pv 5) (pa_cons (pe_opA Like.refl pas_main (pe_opA Like.refl pas_main (pe_opA Like.refl pas_main (pe_tyA (T := "str") Like.refl pas_main (by rfl) (by decide +kernel) (pa_cons (pv 6) pa_nil)) (pe_str)) (pe_opA Like.refl pas_main (pe_str) (pe_opA Like.refl pas_main (pe_int) (pe_biA (id := "len") Like.refl pas_main (by rfl) (by decide +kernel) (pa_cons (pv 7) pa_nil))))) (pv 7)) pa_nil))))))
    (pss_one (ps_ret (pe_opA Like.refl pas_main (pv 5) (pe_lst (pa_cons (pe_opA Like.refl pas_main (pe_opA Like.refl pas_main (pe_str) (pe_opA Like.refl pas_main (pe_str) (pe_int))) (pe_tyA (T := "str") Like.refl pas_main (by rfl) (by decide +kernel) (pa_cons (pv 2) pa_nil))) pa_nil))))))))), ?_⟩
    walk_at "go"
    refine s_strI (log_small (by omega) (by omega)) ?_
    walk_at "go"
    refine s_catS (x := (" table of " : Str)) (y := numS (n : Nat)) (Nat.le_trans (show _ ≤ 1000 by rw [show (" table of " : Str).length = 10 from rfl]; omega) lim) ?_
    walk_at "go"
    refine s_catS (Nat.le_trans (show ((" table of " : Str) ++ numS (n : Nat)).length + (" " : Str).length ≤ 1000 by rw [str_len_app, show (" table of " : Str).length = 10 from rfl, show (" " : Str).length = 1 from rfl]; omega) lim) ?_
    change Ends.nx _ _ _
    walk_at "go"
    refine s_lenStr (x := ttl n) (Nat.le_trans (show _ ≤ 1000 by omega) lim) ?_
    walk_at "go"
    refine s_fdiv ⟨by decide, by decide⟩ ?_
    walk_at "go"
    refine s_sign (c := 61) (n := lft n) (by omega) (by omega) ?_
    walk_at "go"
    have l1 : (signs 61 (lft n).toNat).length ≤ 15 := by rw [signs_len]; omega
    refine s_catS (x := signs 61 (lft n).toNat) (y := ttl n) (Nat.le_trans (show _ ≤ 1000 by omega) lim) ?_
    walk_at "go"
    refine s_lenStr (x := ttl n) (Nat.le_trans (show _ ≤ 1000 by omega) lim) ?_
    walk_at "go"
    refine s_sign (c := 61) (n := 30 - ((ttl n).length : Int) - lft n) (by omega) (by omega) ?_
    have l2 : (signs 61 (30 - ((ttl n).length : Int) - lft n).toNat).length ≤ 30 := by rw [signs_len]; omega
    refine s_catS (x := signs 61 (lft n).toNat ++ ttl n) (y := signs 61 (30 - ((ttl n).length : Int) - lft n).toNat) (Nat.le_trans (show _ ≤ 1000 by rw [str_len_app]; omega) lim) ?_
    walk_at "go"
    refine ⟨by show 1 ≤ sizeLine; decide, fun g hg => ?_⟩
    have s0 := same_new (o := .lst [.str (titleV n)]) hg
    walk_at "go"
    refine f_rng (n := n) (fun k σ H' => Same H H' ∧ ∃ x6 x7, σ = [some (.int (n : Nat)), some (.ref l), some (.int (m : Nat)), some (.str (ttl n)), some (.int (lft n)), some (.ref g), x6, x7] ∧ H' g = some (.lst ((titleV n :: (List.range k).map fun i => lineV i (cs.getD i 0)).map V.str))) (fun R k => by walk_at "go"; exact k) (by omega)
      ⟨s0, none, none, rfl, by rw [upd_same]; rfl⟩ (fun k σ H1 hk pv => ?_) (fun σ H1 pv => ?_)
    · obtain ⟨s1, x6, x7, rfl, hG⟩ := pv
      obtain ⟨c, ec⟩ : ∃ c, cs[k]? = some c := ⟨_, List.getElem?_eq_getElem (by omega)⟩
      have hc := hcs c (List.mem_of_getElem? ec)
      have mlen := money_len hc.1 hc.2
      have kl := one_len (i := k) (by omega)
      refine w_name ?_
      dsimp only [List.set]
      walk_at "go"
      refine s_ixL (SqL.of (s1 _ _ hl)) (v := .int c) (at_of (j := k) rfl (by rw [List.getElem?_map, ec]; rfl)) ?_
      refine s_fn GM hr ⟨c, rfl, hc.1, hc.2, ?_⟩
      walk_at "go"
      dsimp only [List.set]
      walk_at "go"
      refine w_bm ?_
      walk_at "go"
      refine ⟨.inl ⟨rfl, _, SqL.of hG⟩, ?_⟩
      walk_at "go"
      refine s_strI (log_small (by omega) (by omega)) ?_
      walk_at "go"
      refine s_catS (x := numS (k : Nat)) (Nat.le_trans (show _ ≤ 1000 by rw [show ("   " : Str).length = 3 from rfl]; omega) lim) ?_
      walk_at "go"
      refine s_lenStr (x := moneyV c) (Nat.le_trans (show _ ≤ 1000 by omega) lim) ?_
      walk_at "go"
      refine s_sign (c := 32) (by omega) (by omega) ?_
      have l3 : (signs 32 (26 - ((moneyV c).length : Int)).toNat).length ≤ 26 := by rw [signs_len]; omega
      refine s_catS (x := numS (k : Nat) ++ ("   " : Str)) (Nat.le_trans (show _ ≤ 1000 by rw [str_len_app, show ("   " : Str).length = 3 from rfl]; omega) lim) ?_
      walk_at "go"
      refine s_catS (x := (numS (k : Nat) ++ ("   " : Str)) ++ signs 32 (26 - ((moneyV c).length : Int)).toNat) (y := moneyV c) (Nat.le_trans (show _ ≤ 1000 by rw [str_len_app, str_len_app, show ("   " : Str).length = 3 from rfl]; omega) lim) ?_
      walk_at "go"
      refine ⟨g, _, _, rfl, rfl, hG, by rw [List.length_map, List.length_cons, List.length_map, List.length_range]; exact Nat.lt_of_lt_of_le (show k + 1 < 100 by omega) (by decide), ?_⟩
      walk_at "go"
      refine ⟨same_mut s1 hg, _, _, rfl, ?_⟩
      have ed : cs.getD k 0 = c := by rw [List.getD_eq_getElem?_getD, ec]; rfl
      rw [upd_same, List.range_succ, List.map_append, List.map_singleton, ed, ← List.cons_append, List.map_append]
      rfl
    · obtain ⟨s1, x6, x7, rfl, hG⟩ := pv
      walk_at "go"
      refine s_sign (c := 32) (by decide) (by decide) ?_
      refine s_catS (x := ("mark" : Str)) (Nat.le_trans (show _ ≤ 1000 by rw [signs_len, show ("mark" : Str).length = 4 from rfl]; decide) lim) ?_
      walk_at "go"
      refine s_strI (log_small (by omega) (by omega)) ?_
      walk_at "go"
      refine s_catS (x := ("mark" : Str) ++ signs 32 25) (y := numS (m : Nat)) (Nat.le_trans (show _ ≤ 1000 by rw [str_len_app, signs_len, show ("mark" : Str).length = 4 from rfl]; omega) lim) ?_
      walk_at "go"
      refine ⟨by show 1 ≤ sizeLine; decide, fun u hu => ?_⟩
      have s2 := s1.trans (same_new (o := .lst [.str (markV m)]) hu)
      refine s_cat ((same_new (o := .lst [.str (markV m)]) hu) _ _ hG) upd_same (by rw [List.length_map, List.length_cons, List.length_map, List.length_range]; exact Nat.le_trans (show n + 1 + 1 ≤ 100 by omega) (by decide)) fun p hp => ?_
      refine q p _ (s2.free hp) (s2.trans (same_new hp)) ?_
      rw [upd_same]
      unfold linesV
      rw [List.map_append]
      rfl
end

end Odd

namespace Odd
open PySem PySem.Spec PyProof.Rows L2
/-! tactics of this text: st one step, go as many as go -/
local macro_rules | `(tactic| walk_at "ar") => `(tactic| first | assumption | omega | (show (_ : Int) < _; omega) | decide)
local macro_rules | `(tactic| walk_at "st") => `(tactic| first
  | with_reducible refine' w_seq ?_
  | with_reducible refine' w_asg ?_
  | with_reducible refine' w_name ?_
  | with_reducible refine' w_c ?_
  | with_reducible refine' w_op ?_
  | with_reducible refine' w_ix ?_
  | with_reducible refine' w_at ?_
  | with_reducible refine' w_cons ?_
  | with_reducible refine' w_nil ?_
  | with_reducible refine' w_ret ?_
  | with_reducible refine' w_if ?_
  | with_reducible refine' w_test ?_
  | with_reducible refine' w_tr ?_
  | with_reducible refine' w_un ?_
  | with_reducible refine' w_andV ?_
  | with_reducible refine' w_orV ?_
  | with_reducible refine' w_notA ?_
  | with_reducible refine' w_ch ?_
  | with_reducible refine' w_and ?_
  | with_reducible refine' w_or ?_
  | with_reducible refine' w_not ?_
  | with_reducible refine' w_ifx ?_
  | with_reducible refine' w_tup ?_
  | with_reducible refine' w_lst ?_
  | with_reducible refine' w_next ?_
  | with_reducible refine' w_drop ?_
  | with_reducible refine' w_retN ?_
  | ((with_reducible refine' w_var ?h ?_); (case h => exact rfl))
  | ((with_reducible refine' w_bi ?h ?_); (case h => walk_at "mg"))
  | ((with_reducible refine' w_bv ?h ?_); (case h => walk_at "mg"))
  | ((with_reducible refine' w_gv ?h ?_); (case h => walk_at "mg"))
  | ((with_reducible refine' w_gl ?h ?k ?_); (case h => walk_at "mg"); (case k => walk_at "kp"))
  | ((with_reducible refine' w_glS ?h ?k ?_); (case h => walk_at "mg"); (case k => walk_at "kp"))
  | with_reducible refine' bl_ex ?_
  | with_reducible refine' iteT ?_
  | with_reducible refine' iteF ?_
  | with_reducible refine' ite_nf ?_
  | with_reducible refine' ite_nt ?_
  | with_reducible refine' s_add ?_
  | with_reducible refine' s_sub ?_
  | with_reducible refine' s_lt ?_
  | with_reducible refine' s_le ?_
  | with_reducible refine' s_gt ?_
  | with_reducible refine' s_ge ?_
  | with_reducible refine' s_eqI ?_
  | with_reducible refine' s_neI ?_
  | with_reducible refine' s_eqB ?_
  | with_reducible refine' s_neB ?_
  | with_reducible refine' s_truB ?_
  | with_reducible refine' s_truI ?_
  | with_reducible refine' s_neg ?_
  | ((with_reducible refine' s_mod ?h ?_); (case h => walk_at "ar")))
local macro_rules | `(tactic| walk_at "go") => `(tactic| repeat walk_at "st")

local macro_rules | `(tactic| walk_at "mg") => `(tactic| first | assumption | exact Facts.z_TypeError (by assumption) | exact Facts.z_bool (by assumption) | exact Facts.z_classmethod (by assumption) | exact Facts.z_dict (by assumption) | exact Facts.z_divmod (by assumption) | exact Facts.z_enumerate (by assumption) | exact Facts.z_int (by assumption) | exact Facts.z_isinstance (by assumption) | exact Facts.z_len (by assumption) | exact Facts.z_list (by assumption) | exact Facts.z_max (by assumption) | exact Facts.z_min (by assumption) | exact Facts.z_property (by assumption) | exact Facts.z_range (by assumption) | exact Facts.z_sorted (by assumption) | exact Facts.z_str (by assumption) | exact Facts.z_sum (by assumption) | exact Facts.z_super (by assumption) | exact Facts.z_tuple (by assumption) | exact Facts.z_zip (by assumption) | exact Facts.g__wall (by assumption) | exact Facts.g_is_between (by assumption) | exact Facts.g_is_digits (by assumption) | exact Facts.g_seats_of (by assumption) | exact Facts.g_check_amount (by assumption) | exact Facts.g_check_seats (by assumption) | exact Facts.g_check_seat_count (by assumption) | exact Facts.g_check_bills (by assumption) | exact Facts.g_check_mark (by assumption) | exact Facts.g_no_shares (by assumption) | exact Facts.g_seats_behind (by assumption) | exact Facts.g_split_bill (by assumption) | exact Facts.g_title_line (by assumption) | exact Facts.g_line_of (by assumption) | exact Facts.g_seat_line (by assumption) | exact Facts.g_receipt (by assumption) | exact Facts.g_cents_of_line (by assumption) | exact Facts.g_mark_of_line (by assumption) | exact Facts.g_parse_receipt (by assumption) | exact Facts.g_amount_bytes (by assumption) | exact Facts.g_checksum (by assumption) | exact Facts.g_encode_evening (by assumption) | exact Facts.g_byte_at (by assumption) | exact Facts.g_amount_at (by assumption) | exact Facts.g_decode_evening (by assumption) | exact Facts.g_row_of (by assumption) | exact Facts.g_format_evening (by assumption) | exact Facts.g_is_number (by assumption) | exact Facts.g_check_row (by assumption) | exact Facts.g_numbers_of_row (by assumption) | exact Facts.g_parse_evening (by assumption) | exact Facts.g__law_mix (by assumption) | exact Facts.g__law_next (by assumption) | exact Facts.g__law_alike (by assumption) | exact Facts.g__law_bill (by assumption) | exact Facts.g__law_bills (by assumption) | exact Facts.g__law_text (by assumption) | exact Facts.g__law_pay (by assumption) | exact Facts.g__law_paid (by assumption) | exact Facts.g__law_money (by assumption) | exact Facts.g__law_lines (by assumption) | exact Facts.g_law (by assumption) | exact Facts.g_Shares (by assumption) | exact Facts.g_Bill (by assumption) | exact Facts.g_Evening (by assumption))
local macro_rules | `(tactic| walk_at "kp") => `(tactic| first | assumption | exact (Facts.mk_Shares (by assumption)).kp | exact (Facts.mk_Bill (by assumption)).kp | exact (Facts.mk_Evening (by assumption)).kp | exact Fun.kp (Facts.u__wall (by assumption)).choose_spec | exact Fun.kp (Facts.u_is_between (by assumption)).choose_spec | exact Fun.kp (Facts.u_is_digits (by assumption)).choose_spec | exact Fun.kp (Facts.u_seats_of (by assumption)).choose_spec | exact Fun.kp (Facts.u_check_amount (by assumption)).choose_spec | exact Fun.kp (Facts.u_check_seats (by assumption)).choose_spec | exact Fun.kp (Facts.u_check_seat_count (by assumption)).choose_spec | exact Fun.kp (Facts.u_check_bills (by assumption)).choose_spec | exact Fun.kp (Facts.u_check_mark (by assumption)).choose_spec | exact Fun.kp (Facts.u_no_shares (by assumption)).choose_spec | exact Fun.kp (Facts.u_seats_behind (by assumption)).choose_spec | exact Fun.kp (Facts.u_split_bill (by assumption)).choose_spec | exact Fun.kp (Facts.u_title_line (by assumption)).choose_spec | exact Fun.kp (Facts.u_line_of (by assumption)).choose_spec | exact Fun.kp (Facts.u_seat_line (by assumption)).choose_spec | exact Fun.kp (Facts.u_receipt (by assumption)).choose_spec | exact Fun.kp (Facts.u_cents_of_line (by assumption)).choose_spec | exact Fun.kp (Facts.u_mark_of_line (by assumption)).choose_spec | exact Fun.kp (Facts.u_parse_receipt (by assumption)).choose_spec | exact Fun.kp (Facts.u_amount_bytes (by assumption)).choose_spec | exact Fun.kp (Facts.u_checksum (by assumption)).choose_spec | exact Fun.kp (Facts.u_encode_evening (by assumption)).choose_spec | exact Fun.kp (Facts.u_byte_at (by assumption)).choose_spec | exact Fun.kp (Facts.u_amount_at (by assumption)).choose_spec | exact Fun.kp (Facts.u_decode_evening (by assumption)).choose_spec | exact Fun.kp (Facts.u_row_of (by assumption)).choose_spec | exact Fun.kp (Facts.u_format_evening (by assumption)).choose_spec | exact Fun.kp (Facts.u_is_number (by assumption)).choose_spec | exact Fun.kp (Facts.u_check_row (by assumption)).choose_spec | exact Fun.kp (Facts.u_numbers_of_row (by assumption)).choose_spec | exact Fun.kp (Facts.u_parse_evening (by assumption)).choose_spec | exact Fun.kp (Facts.u__law_mix (by assumption)).choose_spec | exact Fun.kp (Facts.u__law_next (by assumption)).choose_spec | exact Fun.kp (Facts.u__law_alike (by assumption)).choose_spec | exact Fun.kp (Facts.u__law_bill (by assumption)).choose_spec | exact Fun.kp (Facts.u__law_bills (by assumption)).choose_spec | exact Fun.kp (Facts.u__law_text (by assumption)).choose_spec | exact Fun.kp (Facts.u__law_pay (by assumption)).choose_spec | exact Fun.kp (Facts.u__law_paid (by assumption)).choose_spec | exact Fun.kp (Facts.u__law_money (by assumption)).choose_spec | exact Fun.kp (Facts.u__law_lines (by assumption)).choose_spec | exact Fun.kp (Facts.u_law (by assumption)).choose_spec)
/-! ### the lines of a receipt as the program writes them -/
section
variable {P : Program} {w : World} {K : PySem.W.Frag} {mg : Str → Option Value} {base : Heap} {a : Ad}
theorem str_nil_app (x : Str) : Str.empty ++ x = x := by
  show (⟨#[] ++ x.cps⟩ : Str) = x
  simp
def spTitle : Sp := fun vs H Q _ => ∃ n : Nat, vs = [.int n] ∧ n ≤ 8 ∧ Q (.str (titleV n)) H
theorem ok_title (T : Facts K mg a) : FnR P w K mg base (L2.CX P w) 1 a.f_title_line spTitle := by
  obtain ⟨fd, F⟩ := T.u_title_line
  refine fnr_ok F sc_title_line (F.binds fun _ _ _ _ _ _ us hl => match us, hl with | [_], _ => rfl) (fun vs H Q E h => ?_) (fun cdv A outer s H vs Q E hr h => ?_)
  · obtain ⟨n, rfl, _⟩ := h
    rfl
  · obtain ⟨n, rfl, hn8, q⟩ := h
    have e13 : (10 : Int) ^ 13 = 10000000000000 := by decide
    have lim : (1000 : Nat) ≤ sizeLine := by decide
    have nl := one_len (i := n) (by omega)
    have tl0 : (ttl n).length ≤ 24 := by
      unfold ttl
      rw [str_len_app, str_len_app, show (" table of " : Str).length = 10 from rfl, show (" " : Str).length = 1 from rfl]
      omega
    have lf : 0 ≤ lft n ∧ lft n ≤ 15 := by unfold lft; omega
    refine ⟨_, (pss_cons (ps_set (i := 1) sc_title_line.nd rfl (Or.inl rfl) (pe_joined (.cons (pe_str) (.cons (pe_fmt (pv 0)) (.cons (pe_str) .nil)))))
    (pss_cons (ps_set (i := 2) sc_title_line.nd rfl (Or.inl rfl) (pe_opA Like.refl pas_main (pe_gvI Like.refl (by rfl)) (pe_biA (id := "len") Like.refl pas_main (by rfl) (by decide +kernel) (pa_cons (pv 1) pa_nil))))
    (pss_cons (ps_set (i := 3) sc_title_line.nd rfl (Or.inl rfl) (pe_opA Like.refl pas_main (pv 2) (pe_int)))
    (pss_one (ps_ret (pe_opA Like.refl pas_main (pe_opA Like.refl pas_main (pe_opA Like.refl pas_main (pe_str) (pv 3)) (pv 1)) (pe_opA Like.refl pas_main (pe_str) (pe_opA Like.refl pas_main (pv 2) (pv 3))))))))), ?_⟩
    walk_at "go"
    refine w_js ?_
    walk_at "go"
    refine ⟨" table of ", rfl, by rw [str_nil_app]; exact Nat.le_trans (show (" table of " : Str).length ≤ 1000 by decide) lim, ?_⟩
    rw [str_nil_app]
    refine w_js (w_fmt ?_)
    walk_at "go"
    refine .inr ⟨_, rfl, log_small (by omega) (by omega), numS (n : Nat), rfl, Nat.le_trans (show _ ≤ 1000 by rw [str_len_app, show (" table of " : Str).length = 10 from rfl]; omega) lim, ?_⟩
    refine w_js ?_
    walk_at "go"
    refine ⟨" ", rfl, Nat.le_trans (show (ttl n).length ≤ 1000 by omega) lim, ?_⟩
    refine w_js0 ?_
    change Ends.nx _ _ _
    walk_at "go"
    refine w_gvI T.i_LINE_SIGNS.choose_spec ?_
    walk_at "go"
    refine s_lenStr (x := ttl n) (Nat.le_trans (show _ ≤ 1000 by omega) lim) ?_
    walk_at "go"
    refine s_fdiv ⟨by decide, by decide⟩ ?_
    walk_at "go"
    refine s_sign (c := 61) (n := lft n) (by omega) (by omega) ?_
    walk_at "go"
    have l1 : (signs 61 (lft n).toNat).length ≤ 15 := by rw [signs_len]; omega
    refine s_catS (x := signs 61 (lft n).toNat) (y := ttl n) (Nat.le_trans (show _ ≤ 1000 by omega) lim) ?_
    walk_at "go"
    refine s_sign (c := 61) (n := 30 - ((ttl n).length : Int) - lft n) (by omega) (by omega) ?_
    have l2 : (signs 61 (30 - ((ttl n).length : Int) - lft n).toNat).length ≤ 30 := by rw [signs_len]; omega
    refine s_catS (x := signs 61 (lft n).toNat ++ ttl n) (y := signs 61 (30 - ((ttl n).length : Int) - lft n).toNat) (Nat.le_trans (show _ ≤ 1000 by rw [str_len_app]; omega) lim) ?_
    exact q
end

end Odd

namespace Odd
open PySem PySem.Spec PyProof.Rows L2
/-! tactics of this text: st one step, go as many as go -/
local macro_rules | `(tactic| walk_at "ar") => `(tactic| first | assumption | omega | (show (_ : Int) < _; omega) | decide)
local macro_rules | `(tactic| walk_at "st") => `(tactic| first
  | with_reducible refine' w_seq ?_
  | with_reducible refine' w_asg ?_
  | with_reducible refine' w_name ?_
  | with_reducible refine' w_c ?_
  | with_reducible refine' w_op ?_
  | with_reducible refine' w_ix ?_
  | with_reducible refine' w_at ?_
  | with_reducible refine' w_cons ?_
  | with_reducible refine' w_nil ?_
  | with_reducible refine' w_ret ?_
  | with_reducible refine' w_if ?_
  | with_reducible refine' w_test ?_
  | with_reducible refine' w_tr ?_
  | with_reducible refine' w_un ?_
  | with_reducible refine' w_andV ?_
  | with_reducible refine' w_orV ?_
  | with_reducible refine' w_notA ?_
  | with_reducible refine' w_ch ?_
  | with_reducible refine' w_and ?_
  | with_reducible refine' w_or ?_
  | with_reducible refine' w_not ?_
  | with_reducible refine' w_ifx ?_
  | with_reducible refine' w_tup ?_
  | with_reducible refine' w_lst ?_
  | with_reducible refine' w_next ?_
  | with_reducible refine' w_drop ?_
  | with_reducible refine' w_retN ?_
  | ((with_reducible refine' w_var ?h ?_); (case h => exact rfl))
  | ((with_reducible refine' w_bi ?h ?_); (case h => walk_at "mg"))
  | ((with_reducible refine' w_bv ?h ?_); (case h => walk_at "mg"))
  | ((with_reducible refine' w_gv ?h ?_); (case h => walk_at "mg"))
  | ((with_reducible refine' w_gl ?h ?k ?_); (case h => walk_at "mg"); (case k => walk_at "kp"))
  | ((with_reducible refine' w_glS ?h ?k ?_); (case h => walk_at "mg"); (case k => walk_at "kp"))
  | with_reducible refine' bl_ex ?_
  | with_reducible refine' iteT ?_
  | with_reducible refine' iteF ?_
  | with_reducible refine' ite_nf ?_
  | with_reducible refine' ite_nt ?_
  | with_reducible refine' s_add ?_
  | with_reducible refine' s_sub ?_
  | with_reducible refine' s_lt ?_
  | with_reducible refine' s_le ?_
  | with_reducible refine' s_gt ?_
  | with_reducible refine' s_ge ?_
  | with_reducible refine' s_eqI ?_
  | with_reducible refine' s_neI ?_
  | with_reducible refine' s_eqB ?_
  | with_reducible refine' s_neB ?_
  | with_reducible refine' s_truB ?_
  | with_reducible refine' s_truI ?_
  | with_reducible refine' s_neg ?_
  | ((with_reducible refine' s_mod ?h ?_); (case h => walk_at "ar")))
local macro_rules | `(tactic| walk_at "go") => `(tactic| repeat walk_at "st")

local macro_rules | `(tactic| walk_at "mg") => `(tactic| first | assumption | exact Facts.z_TypeError (by assumption) | exact Facts.z_bool (by assumption) | exact Facts.z_classmethod (by assumption) | exact Facts.z_dict (by assumption) | exact Facts.z_divmod (by assumption) | exact Facts.z_enumerate (by assumption) | exact Facts.z_int (by assumption) | exact Facts.z_isinstance (by assumption) | exact Facts.z_len (by assumption) | exact Facts.z_list (by assumption) | exact Facts.z_max (by assumption) | exact Facts.z_min (by assumption) | exact Facts.z_property (by assumption) | exact Facts.z_range (by assumption) | exact Facts.z_sorted (by assumption) | exact Facts.z_str (by assumption) | exact Facts.z_sum (by assumption) | exact Facts.z_super (by assumption) | exact Facts.z_tuple (by assumption) | exact Facts.z_zip (by assumption) | exact Facts.g__wall (by assumption) | exact Facts.g_is_between (by assumption) | exact Facts.g_is_digits (by assumption) | exact Facts.g_seats_of (by assumption) | exact Facts.g_check_amount (by assumption) | exact Facts.g_check_seats (by assumption) | exact Facts.g_check_seat_count (by assumption) | exact Facts.g_check_bills (by assumption) | exact Facts.g_check_mark (by assumption) | exact Facts.g_no_shares (by assumption) | exact Facts.g_seats_behind (by assumption) | exact Facts.g_split_bill (by assumption) | exact Facts.g_title_line (by assumption) | exact Facts.g_line_of (by assumption) | exact Facts.g_seat_line (by assumption) | exact Facts.g_receipt (by assumption) | exact Facts.g_cents_of_line (by assumption) | exact Facts.g_mark_of_line (by assumption) | exact Facts.g_parse_receipt (by assumption) | exact Facts.g_amount_bytes (by assumption) | exact Facts.g_checksum (by assumption) | exact Facts.g_encode_evening (by assumption) | exact Facts.g_byte_at (by assumption) | exact Facts.g_amount_at (by assumption) | exact Facts.g_decode_evening (by assumption) | exact Facts.g_row_of (by assumption) | exact Facts.g_format_evening (by assumption) | exact Facts.g_is_number (by assumption) | exact Facts.g_check_row (by assumption) | exact Facts.g_numbers_of_row (by assumption) | exact Facts.g_parse_evening (by assumption) | exact Facts.g__law_mix (by assumption) | exact Facts.g__law_next (by assumption) | exact Facts.g__law_alike (by assumption) | exact Facts.g__law_bill (by assumption) | exact Facts.g__law_bills (by assumption) | exact Facts.g__law_text (by assumption) | exact Facts.g__law_pay (by assumption) | exact Facts.g__law_paid (by assumption) | exact Facts.g__law_money (by assumption) | exact Facts.g__law_lines (by assumption) | exact Facts.g_law (by assumption) | exact Facts.g_Shares (by assumption) | exact Facts.g_Bill (by assumption) | exact Facts.g_Evening (by assumption))
local macro_rules | `(tactic| walk_at "kp") => `(tactic| first | assumption | exact (Facts.mk_Shares (by assumption)).kp | exact (Facts.mk_Bill (by assumption)).kp | exact (Facts.mk_Evening (by assumption)).kp | exact Fun.kp (Facts.u__wall (by assumption)).choose_spec | exact Fun.kp (Facts.u_is_between (by assumption)).choose_spec | exact Fun.kp (Facts.u_is_digits (by assumption)).choose_spec | exact Fun.kp (Facts.u_seats_of (by assumption)).choose_spec | exact Fun.kp (Facts.u_check_amount (by assumption)).choose_spec | exact Fun.kp (Facts.u_check_seats (by assumption)).choose_spec | exact Fun.kp (Facts.u_check_seat_count (by assumption)).choose_spec | exact Fun.kp (Facts.u_check_bills (by assumption)).choose_spec | exact Fun.kp (Facts.u_check_mark (by assumption)).choose_spec | exact Fun.kp (Facts.u_no_shares (by assumption)).choose_spec | exact Fun.kp (Facts.u_seats_behind (by assumption)).choose_spec | exact Fun.kp (Facts.u_split_bill (by assumption)).choose_spec | exact Fun.kp (Facts.u_title_line (by assumption)).choose_spec | exact Fun.kp (Facts.u_line_of (by assumption)).choose_spec | exact Fun.kp (Facts.u_seat_line (by assumption)).choose_spec | exact Fun.kp (Facts.u_receipt (by assumption)).choose_spec | exact Fun.kp (Facts.u_cents_of_line (by assumption)).choose_spec | exact Fun.kp (Facts.u_mark_of_line (by assumption)).choose_spec | exact Fun.kp (Facts.u_parse_receipt (by assumption)).choose_spec | exact Fun.kp (Facts.u_amount_bytes (by assumption)).choose_spec | exact Fun.kp (Facts.u_checksum (by assumption)).choose_spec | exact Fun.kp (Facts.u_encode_evening (by assumption)).choose_spec | exact Fun.kp (Facts.u_byte_at (by assumption)).choose_spec | exact Fun.kp (Facts.u_amount_at (by assumption)).choose_spec | exact Fun.kp (Facts.u_decode_evening (by assumption)).choose_spec | exact Fun.kp (Facts.u_row_of (by assumption)).choose_spec | exact Fun.kp (Facts.u_format_evening (by assumption)).choose_spec | exact Fun.kp (Facts.u_is_number (by assumption)).choose_spec | exact Fun.kp (Facts.u_check_row (by assumption)).choose_spec | exact Fun.kp (Facts.u_numbers_of_row (by assumption)).choose_spec | exact Fun.kp (Facts.u_parse_evening (by assumption)).choose_spec | exact Fun.kp (Facts.u__law_mix (by assumption)).choose_spec | exact Fun.kp (Facts.u__law_next (by assumption)).choose_spec | exact Fun.kp (Facts.u__law_alike (by assumption)).choose_spec | exact Fun.kp (Facts.u__law_bill (by assumption)).choose_spec | exact Fun.kp (Facts.u__law_bills (by assumption)).choose_spec | exact Fun.kp (Facts.u__law_text (by assumption)).choose_spec | exact Fun.kp (Facts.u__law_pay (by assumption)).choose_spec | exact Fun.kp (Facts.u__law_paid (by assumption)).choose_spec | exact Fun.kp (Facts.u__law_money (by assumption)).choose_spec | exact Fun.kp (Facts.u__law_lines (by assumption)).choose_spec | exact Fun.kp (Facts.u_law (by assumption)).choose_spec)
section
variable {P : Program} {w : World} {K : PySem.W.Frag} {mg : Str → Option Value} {base : Heap} {a : Ad}
theorem left_one : ∀ i < 10, intSpecText fLeft ((i : Nat) : Int) = numS (i : Nat) ++ ("   " : Str) := by decide +kernel
theorem right_one : ∀ i < 10, intSpecText fRight ((i : Nat) : Int) = signs 32 25 ++ numS (i : Nat) := by decide +kernel
def spLineOf : Sp := fun vs H Q _ => (∃ (i : Nat) (y : Str), vs = [.int i, .str y] ∧ i < 10 ∧ y.length < 26 ∧ Q (.str ((numS (i : Nat) ++ ("   " : Str)) ++ (signs 32 (26 - y.length) ++ y))) H) ∨ ∃ m : Nat, vs = [.str "mark", .int m] ∧ m < 10 ∧ Q (.str (("mark" : Str) ++ (signs 32 25 ++ numS (m : Nat)))) H
theorem ok_line_of (T : Facts K mg a) : FnR P w K mg base (L2.CX P w) 1 a.f_line_of spLineOf := by
  obtain ⟨fd, F⟩ := T.u_line_of
  refine fnr_ok F sc_line_of (F.binds fun _ _ _ _ _ _ us hl => match us, hl with | [_, _], _ => rfl) (fun vs H Q E h => ?_) (fun cdv A outer s H vs Q E hr h => ?_)
  · rcases h with ⟨i, y, rfl, _⟩ | ⟨m, rfl, _⟩ <;> rfl
  · have lim : (1000 : Nat) ≤ sizeLine := by decide
    have e13 : (10 : Int) ^ 13 = 10000000000000 := by decide
    rcases h with ⟨i, y, rfl, hi, hy, q⟩ | ⟨m, rfl, hm, q⟩
    · have il := one_len hi
      have ll : (numS (i : Nat) ++ ("   " : Str)).length ≤ 16 := by rw [str_len_app, show ("   " : Str).length = 3 from rfl]; omega
      have yl : (signs 32 (26 - y.length) ++ y).length ≤ 26 := by rw [str_len_app, signs_len]; omega
      refine ⟨_, (pss_one (ps_ret (pe_joined (.cons (pe_fmtS (pv 0)) (.cons (pe_fmtS (pv 1)) .nil))))), ?_⟩
      walk_at "go"
      refine w_js (w_fmtS ?_)
      walk_at "go"
      refine .inl ⟨_, fLeft, rfl, log_small (by omega) (by omega), .inr (.inr (.inl ⟨rfl, rfl⟩)), ?_, ?_⟩
      · rw [left_one i hi]; exact Nat.le_trans (show _ ≤ 1000 by omega) lim
      rw [left_one i hi]
      refine ⟨_, rfl, by rw [str_nil_app]; exact Nat.le_trans (show _ ≤ 1000 by omega) lim, ?_⟩
      rw [str_nil_app]
      refine w_js (w_fmtS ?_)
      walk_at "go"
      refine .inr ⟨_, _, rfl, .inl ⟨rfl, hy, rfl⟩, _, rfl, Nat.le_trans (show _ ≤ 1000 by rw [str_len_app]; omega) lim, ?_⟩
      exact w_js0 q
    · have ml := one_len hm
      have rl : (signs 32 25 ++ numS (m : Nat)).length ≤ 38 := by rw [str_len_app, signs_len]; omega
      refine ⟨_, (pss_one (ps_ret (pe_joined (.cons (pe_fmtS (pv 0)) (.cons (pe_fmtS (pv 1)) .nil))))), ?_⟩
      walk_at "go"
      refine w_js (w_fmtS ?_)
      walk_at "go"
      refine .inr ⟨_, _, rfl, .inr ⟨rfl, rfl, rfl⟩, _, rfl, by rw [str_nil_app]; exact Nat.le_trans (show ("mark" : Str).length ≤ 1000 by decide) lim, ?_⟩
      rw [str_nil_app]
      refine w_js (w_fmtS ?_)
      walk_at "go"
      refine .inl ⟨_, fRight, rfl, log_small (by omega) (by omega), .inr (.inr (.inr ⟨rfl, rfl⟩)), ?_, ?_⟩
      · rw [right_one m hm]; exact Nat.le_trans (show _ ≤ 1000 by omega) lim
      rw [right_one m hm]
      refine ⟨_, rfl, Nat.le_trans (show _ ≤ 1000 by rw [str_len_app, show ("mark" : Str).length = 4 from rfl]; omega) lim, ?_⟩
      exact w_js0 q
end

end Odd

namespace Odd
open PySem PySem.Spec PyProof.Rows L2
/-! tactics of this text: st one step, go as many as go -/
local macro_rules | `(tactic| walk_at "ar") => `(tactic| first | assumption | omega | (show (_ : Int) < _; omega) | decide)
local macro_rules | `(tactic| walk_at "st") => `(tactic| first
  | with_reducible refine' w_seq ?_
  | with_reducible refine' w_asg ?_
  | with_reducible refine' w_name ?_
  | with_reducible refine' w_c ?_
  | with_reducible refine' w_op ?_
  | with_reducible refine' w_ix ?_
  | with_reducible refine' w_at ?_
  | with_reducible refine' w_cons ?_
  | with_reducible refine' w_nil ?_
  | with_reducible refine' w_ret ?_
  | with_reducible refine' w_if ?_
  | with_reducible refine' w_test ?_
  | with_reducible refine' w_tr ?_
  | with_reducible refine' w_un ?_
  | with_reducible refine' w_andV ?_
  | with_reducible refine' w_orV ?_
  | with_reducible refine' w_notA ?_
  | with_reducible refine' w_ch ?_
  | with_reducible refine' w_and ?_
  | with_reducible refine' w_or ?_
  | with_reducible refine' w_not ?_
  | with_reducible refine' w_ifx ?_
  | with_reducible refine' w_tup ?_
  | with_reducible refine' w_lst ?_
  | with_reducible refine' w_next ?_
  | with_reducible refine' w_drop ?_
  | with_reducible refine' w_retN ?_
  | ((with_reducible refine' w_var ?h ?_); (case h => exact rfl))
  | ((with_reducible refine' w_bi ?h ?_); (case h => walk_at "mg"))
  | ((with_reducible refine' w_bv ?h ?_); (case h => walk_at "mg"))
  | ((with_reducible refine' w_gv ?h ?_); (case h => walk_at "mg"))
  | ((with_reducible refine' w_gl ?h ?k ?_); (case h => walk_at "mg"); (case k => walk_at "kp"))
  | ((with_reducible refine' w_glS ?h ?k ?_); (case h => walk_at "mg"); (case k => walk_at "kp"))
  | with_reducible refine' bl_ex ?_
  | with_reducible refine' iteT ?_
  | with_reducible refine' iteF ?_
  | with_reducible refine' ite_nf ?_
  | with_reducible refine' ite_nt ?_
  | with_reducible refine' s_add ?_
  | with_reducible refine' s_sub ?_
  | with_reducible refine' s_lt ?_
  | with_reducible refine' s_le ?_
  | with_reducible refine' s_gt ?_
  | with_reducible refine' s_ge ?_
  | with_reducible refine' s_eqI ?_
  | with_reducible refine' s_neI ?_
  | with_reducible refine' s_eqB ?_
  | with_reducible refine' s_neB ?_
  | with_reducible refine' s_truB ?_
  | with_reducible refine' s_truI ?_
  | with_reducible refine' s_neg ?_
  | ((with_reducible refine' s_mod ?h ?_); (case h => walk_at "ar")))
local macro_rules | `(tactic| walk_at "go") => `(tactic| repeat walk_at "st")

local macro_rules | `(tactic| walk_at "mg") => `(tactic| first | assumption | exact Facts.z_TypeError (by assumption) | exact Facts.z_bool (by assumption) | exact Facts.z_classmethod (by assumption) | exact Facts.z_dict (by assumption) | exact Facts.z_divmod (by assumption) | exact Facts.z_enumerate (by assumption) | exact Facts.z_int (by assumption) | exact Facts.z_isinstance (by assumption) | exact Facts.z_len (by assumption) | exact Facts.z_list (by assumption) | exact Facts.z_max (by assumption) | exact Facts.z_min (by assumption) | exact Facts.z_property (by assumption) | exact Facts.z_range (by assumption) | exact Facts.z_sorted (by assumption) | exact Facts.z_str (by assumption) | exact Facts.z_sum (by assumption) | exact Facts.z_super (by assumption) | exact Facts.z_tuple (by assumption) | exact Facts.z_zip (by assumption) | exact Facts.g__wall (by assumption) | exact Facts.g_is_between (by assumption) | exact Facts.g_is_digits (by assumption) | exact Facts.g_seats_of (by assumption) | exact Facts.g_check_amount (by assumption) | exact Facts.g_check_seats (by assumption) | exact Facts.g_check_seat_count (by assumption) | exact Facts.g_check_bills (by assumption) | exact Facts.g_check_mark (by assumption) | exact Facts.g_no_shares (by assumption) | exact Facts.g_seats_behind (by assumption) | exact Facts.g_split_bill (by assumption) | exact Facts.g_title_line (by assumption) | exact Facts.g_line_of (by assumption) | exact Facts.g_seat_line (by assumption) | exact Facts.g_receipt (by assumption) | exact Facts.g_cents_of_line (by assumption) | exact Facts.g_mark_of_line (by assumption) | exact Facts.g_parse_receipt (by assumption) | exact Facts.g_amount_bytes (by assumption) | exact Facts.g_checksum (by assumption) | exact Facts.g_encode_evening (by assumption) | exact Facts.g_byte_at (by assumption) | exact Facts.g_amount_at (by assumption) | exact Facts.g_decode_evening (by assumption) | exact Facts.g_row_of (by assumption) | exact Facts.g_format_evening (by assumption) | exact Facts.g_is_number (by assumption) | exact Facts.g_check_row (by assumption) | exact Facts.g_numbers_of_row (by assumption) | exact Facts.g_parse_evening (by assumption) | exact Facts.g__law_mix (by assumption) | exact Facts.g__law_next (by assumption) | exact Facts.g__law_alike (by assumption) | exact Facts.g__law_bill (by assumption) | exact Facts.g__law_bills (by assumption) | exact Facts.g__law_text (by assumption) | exact Facts.g__law_pay (by assumption) | exact Facts.g__law_paid (by assumption) | exact Facts.g__law_money (by assumption) | exact Facts.g__law_lines (by assumption) | exact Facts.g_law (by assumption) | exact Facts.g_Shares (by assumption) | exact Facts.g_Bill (by assumption) | exact Facts.g_Evening (by assumption))
local macro_rules | `(tactic| walk_at "kp") => `(tactic| first | assumption | exact (Facts.mk_Shares (by assumption)).kp | exact (Facts.mk_Bill (by assumption)).kp | exact (Facts.mk_Evening (by assumption)).kp | exact Fun.kp (Facts.u__wall (by assumption)).choose_spec | exact Fun.kp (Facts.u_is_between (by assumption)).choose_spec | exact Fun.kp (Facts.u_is_digits (by assumption)).choose_spec | exact Fun.kp (Facts.u_seats_of (by assumption)).choose_spec | exact Fun.kp (Facts.u_check_amount (by assumption)).choose_spec | exact Fun.kp (Facts.u_check_seats (by assumption)).choose_spec | exact Fun.kp (Facts.u_check_seat_count (by assumption)).choose_spec | exact Fun.kp (Facts.u_check_bills (by assumption)).choose_spec | exact Fun.kp (Facts.u_check_mark (by assumption)).choose_spec | exact Fun.kp (Facts.u_no_shares (by assumption)).choose_spec | exact Fun.kp (Facts.u_seats_behind (by assumption)).choose_spec | exact Fun.kp (Facts.u_split_bill (by assumption)).choose_spec | exact Fun.kp (Facts.u_title_line (by assumption)).choose_spec | exact Fun.kp (Facts.u_line_of (by assumption)).choose_spec | exact Fun.kp (Facts.u_seat_line (by assumption)).choose_spec | exact Fun.kp (Facts.u_receipt (by assumption)).choose_spec | exact Fun.kp (Facts.u_cents_of_line (by assumption)).choose_spec | exact Fun.kp (Facts.u_mark_of_line (by assumption)).choose_spec | exact Fun.kp (Facts.u_parse_receipt (by assumption)).choose_spec | exact Fun.kp (Facts.u_amount_bytes (by assumption)).choose_spec | exact Fun.kp (Facts.u_checksum (by assumption)).choose_spec | exact Fun.kp (Facts.u_encode_evening (by assumption)).choose_spec | exact Fun.kp (Facts.u_byte_at (by assumption)).choose_spec | exact Fun.kp (Facts.u_amount_at (by assumption)).choose_spec | exact Fun.kp (Facts.u_decode_evening (by assumption)).choose_spec | exact Fun.kp (Facts.u_row_of (by assumption)).choose_spec | exact Fun.kp (Facts.u_format_evening (by assumption)).choose_spec | exact Fun.kp (Facts.u_is_number (by assumption)).choose_spec | exact Fun.kp (Facts.u_check_row (by assumption)).choose_spec | exact Fun.kp (Facts.u_numbers_of_row (by assumption)).choose_spec | exact Fun.kp (Facts.u_parse_evening (by assumption)).choose_spec | exact Fun.kp (Facts.u__law_mix (by assumption)).choose_spec | exact Fun.kp (Facts.u__law_next (by assumption)).choose_spec | exact Fun.kp (Facts.u__law_alike (by assumption)).choose_spec | exact Fun.kp (Facts.u__law_bill (by assumption)).choose_spec | exact Fun.kp (Facts.u__law_bills (by assumption)).choose_spec | exact Fun.kp (Facts.u__law_text (by assumption)).choose_spec | exact Fun.kp (Facts.u__law_pay (by assumption)).choose_spec | exact Fun.kp (Facts.u__law_paid (by assumption)).choose_spec | exact Fun.kp (Facts.u__law_money (by assumption)).choose_spec | exact Fun.kp (Facts.u__law_lines (by assumption)).choose_spec | exact Fun.kp (Facts.u_law (by assumption)).choose_spec)
/-! ### money as the program writes it -/
section
variable {P : Program} {w : World} {K : PySem.W.Frag} {mg : Str → Option Value} {base : Heap} {a : Ad}
theorem tl_grp : ∀ p < 1000, TL.tl (grp3 ((p : Nat) : Int)) = [44, 48 + p / 100, 48 + p / 10 % 10, 48 + p % 10] := by decide +kernel
theorem two_text : ∀ r < 100, intSpecText fTwo ((r : Nat) : Int) = signs 48 (2 - ((numS (r : Nat)).length : Int)).toNat ++ numS (r : Nat) := by decide +kernel
theorem tl_two : ∀ r < 100, TL.tl (signs 48 (2 - ((numS ((r : Nat) : Int)).length : Int)).toNat ++ numS (r : Nat)) = [48 + r / 10, 48 + r % 10] := by decide +kernel
/-- one turn of the law's loop over thousands -/
theorem mon_up {f x : Nat} {g : Str} (h : 1000 ≤ x) (hb : x < 1000 ^ (f + 1)) : ∃ k, f = k + 1 ∧ x / 1000 < 1000 ^ (k + 1) ∧ ∃ g', mon f (x : Nat) g = mon k ((x / 1000 : Nat) : Int) g' ∧ TL.tl g' = [44, 48 + x / 100 % 10, 48 + x / 10 % 10, 48 + x % 10] ++ TL.tl g := by
  have hb' : (x : Int) < 1000 ^ (f + 1) := by
    have e : ((1000 : Int) ^ (f + 1)) = ((1000 ^ (f + 1) : Nat) : Int) := by simp
    rw [e]
    exact Int.ofNat_lt.2 hb
  obtain ⟨k, rfl, em, _⟩ := mon_big (g := g) (show (x : Int) > 999 by omega) hb'
  refine ⟨k, rfl, Nat.div_lt_of_lt_mul (by rw [Nat.pow_succ] at hb; omega), _, em, ?_⟩
  have e1 : (x : Int) - (x : Int) / 1000 * 1000 = ((x % 1000 : Nat) : Int) := by omega
  rw [e1, TL.tl_append, tl_grp _ (Nat.mod_lt _ (by decide))]
  congr 1
  have h1 : x % 1000 / 100 = x / 100 % 10 := by omega
  have h2 : x % 1000 / 10 % 10 = x / 10 % 10 := by omega
  have h3 : x % 1000 % 10 = x % 10 := by omega
  rw [h1, h2, h3]
theorem numL_3 {x : Nat} (h : x < 1000) : (TL.numL x).length ≤ 3 := TL.numL_len (k := 3) (by decide) (by omega)
theorem groups_mon : ∀ (t f x : Nat) (room : Int) (g : Str), (TL.numL x).length < t → x < 1000 ^ (f + 1) → room ≤ 0 →
    groupsFromRight' 3 44 t (TL.numL x).reverse room (TL.tl g) = TL.tl (mon f (x : Nat) g)
  | 0, _, _, _, _, h, _, _ => absurd h (Nat.not_lt_zero _)
  | t + 1, f, x, room, g, ht, hb, hr => by
    unfold groupsFromRight'
    by_cases hx : x < 1000
    · have l3 := numL_3 hx
      have l1 : 1 ≤ (TL.numL x).length := List.length_pos_iff.2 (TL.numL_ne _)
      have en : min 3 (max (max ((TL.numL x).reverse.length : Int) room) 1).toNat = (TL.numL x).length := by rw [List.length_reverse]; omega
      have ed : (TL.numL x).reverse.drop (TL.numL x).length = [] := List.drop_of_length_le (by rw [List.length_reverse]; exact Nat.le_refl _)
      have et : (TL.numL x).reverse.take (TL.numL x).length = (TL.numL x).reverse := List.take_of_length_le (by rw [List.length_reverse]; exact Nat.le_refl _)
      dsimp only
      rw [en, ed, et, List.isEmpty_nil, List.reverse_reverse, List.length_reverse, Nat.sub_self, List.replicate_zero, List.nil_append, mon_small (by omega), TL.tl_append, tl_numS (by omega), Int.toNat_natCast, if_pos (by simp; omega)]
    · obtain ⟨k, rfl, hk, g', em, eg⟩ := mon_up (g := g) (show 1000 ≤ x by omega) hb
      have e3 := numL_step3 (n := x) (by omega)
      have er : (TL.numL x).reverse = (48 + x % 10) :: (48 + x / 10 % 10) :: (48 + x / 100 % 10) :: (TL.numL (x / 1000)).reverse := by rw [e3]; simp
      have len : (TL.numL x).length = (TL.numL (x / 1000)).length + 3 := by rw [e3]; simp
      have en : min 3 (max (max ((TL.numL x).reverse.length : Int) room) 1).toNat = 3 := by rw [List.length_reverse]; omega
      have hne : (TL.numL (x / 1000)).reverse.isEmpty = false := by
        cases h : (TL.numL (x / 1000)).reverse with
        | nil => exact absurd (List.reverse_eq_nil_iff.1 h) (TL.numL_ne _)
        | cons _ _ => rfl
      dsimp only
      rw [en, er]
      show (if (((TL.numL (x / 1000)).reverse.isEmpty && decide (room - ((3 : Nat) : Int) ≤ 0)) = true) then _ else groupsFromRight' 3 44 t (TL.numL (x / 1000)).reverse (room - ((3 : Nat) : Int) - 1) _) = _
      rw [hne, Bool.false_and, if_neg Bool.false_ne_true, em]
      have ih := groups_mon t k (x / 1000) (room - ((3 : Nat) : Int) - 1) g' (by omega) hk (by omega)
      rw [← ih, eg]
      congr 1
      have el : 3 - ((48 + x % 10) :: (48 + x / 10 % 10) :: (48 + x / 100 % 10) :: (TL.numL (x / 1000)).reverse).length = 0 := by simp
      rw [el]
      rfl
theorem comma_text {x : Nat} (h : x < 10 ^ 13) : intSpecText fComma (x : Nat) = mon 5 (x : Nat) "" := by
  refine TL.ext_tl ?_
  have e13 : (10 : Nat) ^ 13 = 10000000000000 := by decide
  have e18 : (1000 : Nat) ^ (5 + 1) = 1000000000000000000 := by decide
  rw [← groups_mon ((TL.numL x).length + (0 : Int).toNat + 1) 5 x 0 "" (by omega) (by omega) (Int.le_refl _)]
  unfold intSpecText
  have em : ((Nat.toDigits 10 ((x : Nat) : Int).natAbs).map fun c => (if (100 : Nat) == 88 then c.toUpper else c).toNat) = TL.numL x := by
    rw [Int.natAbs_natCast]
    rfl
  rw [em, decide_eq_false (show ¬ ((x : Nat) : Int) < 0 by omega)]
  have hne : (TL.numL x).isEmpty = false := by
    cases h : TL.numL x with
    | nil => exact absurd h (TL.numL_ne _)
    | cons _ _ => rfl
  unfold intField'
  rw [hne]
  show List.replicate _ _ ++ [] ++ [] ++ List.replicate 0 _ ++ groupsFromRight' 3 44 ((TL.numL x).length + (0 : Int).toNat + 1) (TL.numL x).reverse 0 [] ++ [] ++ List.replicate 0 _ = _
  have ez : ∀ L : List Nat, ((-1 : Int) - ((0 : Nat) : Int) - (L.length : Int)).toNat = 0 := fun L => by omega
  have e0 : ∀ (n : Nat) (L : List Nat), n = 0 → List.replicate n 32 ++ [] ++ [] ++ List.replicate 0 32 ++ L ++ [] ++ List.replicate 0 32 = L := fun n L e => by subst e; simp
  exact e0 _ _ (by show ((-1 : Int) - _ - _).toNat = 0; omega)
/-- how long it can be -/
theorem mon_long : ∀ (e f x : Nat) (g : Str), x < 1000 ^ (e + 1) → e ≤ f → (TL.tl (mon f (x : Nat) g)).length ≤ 3 + 4 * e + (TL.tl g).length
  | e, f, x, g, hb, hef => by
    by_cases hx : x < 1000
    · rw [mon_small (by omega), TL.tl_append, tl_numS (by omega), Int.toNat_natCast, List.length_append]
      have := numL_3 hx
      omega
    · obtain ⟨k, rfl, hk, _⟩ := mon_up (f := e) (g := g) (show 1000 ≤ x by omega) hb
      obtain ⟨f', rfl⟩ : ∃ f', f = f' + 1 := ⟨f - 1, by omega⟩
      obtain ⟨k2, e2, hk2, g', em, eg⟩ := mon_up (f := f' + 1) (g := g) (show 1000 ≤ x by omega) (Nat.lt_of_lt_of_le hb (Nat.pow_le_pow_right (by decide) (by omega)))
      have ek : f' = k2 := by omega
      subst ek
      have ih := mon_long k f' (x / 1000) g' hk (by omega)
      rw [em]
      refine Nat.le_trans ih ?_
      rw [eg, List.length_append]
      simp only [List.length_cons, List.length_nil]
      omega
  termination_by e => e
theorem tl_money {c : Nat} : TL.tl (moneyV (c : Nat)) = TL.tl (mon 5 ((c / 100 : Nat) : Int) "") ++ (46 :: [48 + c % 100 / 10, 48 + c % 100 % 10]) := by
  have e1 : (c : Int) - (c : Int) / 100 * 100 = ((c % 100 : Nat) : Int) := by omega
  have e2 := tl_two (c % 100) (Nat.mod_lt _ (by decide))
  rw [TL.tl_append] at e2
  unfold moneyV
  rw [e1, TL.tl_append, TL.tl_append, TL.tl_append, List.append_assoc, List.append_assoc, e2]
  rfl
theorem money_short {c : Nat} (h : c < 10 ^ 15) : (moneyV (c : Nat)).length < 26 := by
  have e15 : (10 : Nat) ^ 15 = 1000000000000000 := by decide
  have e5 : (1000 : Nat) ^ (4 + 1) = 1000000000000000 := by decide
  have := mon_long 4 5 (c / 100) "" (by omega) (by decide)
  rw [TL.len_tl, tl_money, List.length_append]
  rw [show (TL.tl ("" : Str)).length = 0 from rfl] at this
  simp only [List.length_cons, List.length_nil]
  omega
/-- its digits -/
theorem mon_digits : ∀ (e x : Nat) (g : Str), x < 1000 ^ (e + 1) → ((TL.tl (mon e (x : Nat) g)).filter fun k => decide (k ≠ 44)) = TL.numL x ++ (TL.tl g).filter fun k => decide (k ≠ 44)
  | e, x, g, hb => by
    by_cases hx : x < 1000
    · rw [mon_small (by omega), TL.tl_append, tl_numS (by omega), Int.toNat_natCast, List.filter_append, filt_free (TL.numL_free (by omega))]
    · obtain ⟨k, rfl, hk, g', em, eg⟩ := mon_up (g := g) (show 1000 ≤ x by omega) hb
      have ih := mon_digits k (x / 1000) g' hk
      rw [em, ih, eg, numL_step3 (n := x) (by omega), List.filter_append, List.append_assoc]
      congr 1
      have d1 : decide (48 + x / 100 % 10 ≠ 44) = true := decide_eq_true (by omega)
      have d2 : decide (48 + x / 10 % 10 ≠ 44) = true := decide_eq_true (by omega)
      have d3 : decide (48 + x % 10 ≠ 44) = true := decide_eq_true (by omega)
      simp only [List.filter_append, List.filter_cons, show decide ((44 : Nat) ≠ 44) = false from rfl, d1, d2, d3, if_true, List.filter_nil]
      rfl
  termination_by e => e
/-- the digits of an amount, the last two always written -/
def digsL (c : Nat) : List Nat := TL.numL (c / 100) ++ [48 + c % 100 / 10, 48 + c % 100 % 10]
theorem money_digits {c : Nat} (h : c < 10 ^ 15) : (((TL.tl (moneyV (c : Nat))).filter fun k => decide (k ≠ 44)).filter fun k => decide (k ≠ 46)) = digsL c := by
  have e15 : (10 : Nat) ^ 15 = 1000000000000000 := by decide
  have e18 : (1000 : Nat) ^ (5 + 1) = 1000000000000000000 := by decide
  rw [tl_money, List.filter_append, mon_digits 5 _ _ (by omega), List.filter_append]
  have a1 : decide (48 + c % 100 / 10 ≠ 44) = true := decide_eq_true (by omega)
  have a2 : decide (48 + c % 100 % 10 ≠ 44) = true := decide_eq_true (by omega)
  have b1 : decide (48 + c % 100 / 10 ≠ 46) = true := decide_eq_true (by omega)
  have b2 : decide (48 + c % 100 % 10 ≠ 46) = true := decide_eq_true (by omega)
  have e0 : (TL.tl ("" : Str)).filter (fun k => decide (k ≠ 44)) = [] := rfl
  rw [e0, List.append_nil, filt_free (c := 46) (TL.numL_free (by omega))]
  unfold digsL
  congr 1
  simp only [List.filter_cons, a1, a2, b1, b2, if_true, List.filter_nil, show decide ((46 : Nat) ≠ 44) = true from rfl, show decide ((46 : Nat) ≠ 46) = false from rfl]
  rfl
theorem digsL_all (c : Nat) : NumText.AllDigits (digsL c) := by
  intro k hk
  unfold digsL at hk
  rcases List.mem_append.1 hk with h | h
  · exact TL.numL_digits _ k h
  · simp only [List.mem_cons, List.not_mem_nil, or_false] at h
    omega
theorem digsL_val (c : Nat) : NumText.digitsVal (digsL c) = c := by
  unfold digsL
  rw [show TL.numL (c / 100) ++ [48 + c % 100 / 10, 48 + c % 100 % 10] = (TL.numL (c / 100) ++ [48 + c % 100 / 10]) ++ [48 + c % 100 % 10] by simp, digitsVal_snoc, digitsVal_snoc, TL.numL_val]
  omega
theorem digsL_len {c : Nat} (h : c < 10 ^ 15) : (digsL c).length ≤ 15 := by
  have e15 : (10 : Nat) ^ 15 = 1000000000000000 := by decide
  have e13 : (10 : Nat) ^ 13 = 10000000000000 := by decide
  have := TL.numL_len (n := c / 100) (k := 13) (by decide) (by omega)
  unfold digsL
  rw [List.length_append]
  simp only [List.length_cons, List.length_nil]
  omega
/-- what stands in an amount -/
theorem mon_signs : ∀ (e x : Nat) (g : Str), x < 1000 ^ (e + 1) → (∀ k ∈ TL.tl g, 44 ≤ k ∧ k ≤ 57) → ∀ k ∈ TL.tl (mon e (x : Nat) g), 44 ≤ k ∧ k ≤ 57
  | e, x, g, hb, hg => by
    by_cases hx : x < 1000
    · rw [mon_small (by omega), TL.tl_append, tl_numS (by omega), Int.toNat_natCast]
      intro k hk
      rcases List.mem_append.1 hk with h | h
      · have := TL.numL_digits _ k h
        omega
      · exact hg k h
    · obtain ⟨j, rfl, hk, g', em, eg⟩ := mon_up (g := g) (show 1000 ≤ x by omega) hb
      rw [em]
      refine mon_signs j (x / 1000) g' hk fun k hk => ?_
      rw [eg] at hk
      rcases List.mem_append.1 hk with h | h
      · simp only [List.mem_cons, List.not_mem_nil, or_false] at h
        omega
      · exact hg k h
  termination_by e => e
theorem money_signs {c : Nat} (h : c < 10 ^ 15) : ∀ k ∈ TL.tl (moneyV (c : Nat)), 44 ≤ k ∧ k ≤ 57 := by
  have e15 : (10 : Nat) ^ 15 = 1000000000000000 := by decide
  have e18 : (1000 : Nat) ^ (5 + 1) = 1000000000000000000 := by decide
  intro k hk
  rw [tl_money] at hk
  rcases List.mem_append.1 hk with h | h
  · exact mon_signs 5 _ "" (by omega) (fun k hk => by simp [show TL.tl ("" : Str) = [] from rfl] at hk) k h
  · simp only [List.mem_cons, List.not_mem_nil, or_false] at h
    omega
end

end Odd

namespace Odd
open PySem PySem.Spec PyProof.Rows L2
/-! tactics of this text: st one step, go as many as go -/
local macro_rules | `(tactic| walk_at "ar") => `(tactic| first | assumption | omega | (show (_ : Int) < _; omega) | decide)
local macro_rules | `(tactic| walk_at "st") => `(tactic| first
  | with_reducible refine' w_seq ?_
  | with_reducible refine' w_asg ?_
  | with_reducible refine' w_name ?_
  | with_reducible refine' w_c ?_
  | with_reducible refine' w_op ?_
  | with_reducible refine' w_ix ?_
  | with_reducible refine' w_at ?_
  | with_reducible refine' w_cons ?_
  | with_reducible refine' w_nil ?_
  | with_reducible refine' w_ret ?_
  | with_reducible refine' w_if ?_
  | with_reducible refine' w_test ?_
  | with_reducible refine' w_tr ?_
  | with_reducible refine' w_un ?_
  | with_reducible refine' w_andV ?_
  | with_reducible refine' w_orV ?_
  | with_reducible refine' w_notA ?_
  | with_reducible refine' w_ch ?_
  | with_reducible refine' w_and ?_
  | with_reducible refine' w_or ?_
  | with_reducible refine' w_not ?_
  | with_reducible refine' w_ifx ?_
  | with_reducible refine' w_tup ?_
  | with_reducible refine' w_lst ?_
  | with_reducible refine' w_next ?_
  | with_reducible refine' w_drop ?_
  | with_reducible refine' w_retN ?_
  | ((with_reducible refine' w_var ?h ?_); (case h => exact rfl))
  | ((with_reducible refine' w_bi ?h ?_); (case h => walk_at "mg"))
  | ((with_reducible refine' w_bv ?h ?_); (case h => walk_at "mg"))
  | ((with_reducible refine' w_gv ?h ?_); (case h => walk_at "mg"))
  | ((with_reducible refine' w_gl ?h ?k ?_); (case h => walk_at "mg"); (case k => walk_at "kp"))
  | ((with_reducible refine' w_glS ?h ?k ?_); (case h => walk_at "mg"); (case k => walk_at "kp"))
  | with_reducible refine' bl_ex ?_
  | with_reducible refine' iteT ?_
  | with_reducible refine' iteF ?_
  | with_reducible refine' ite_nf ?_
  | with_reducible refine' ite_nt ?_
  | with_reducible refine' s_add ?_
  | with_reducible refine' s_sub ?_
  | with_reducible refine' s_lt ?_
  | with_reducible refine' s_le ?_
  | with_reducible refine' s_gt ?_
  | with_reducible refine' s_ge ?_
  | with_reducible refine' s_eqI ?_
  | with_reducible refine' s_neI ?_
  | with_reducible refine' s_eqB ?_
  | with_reducible refine' s_neB ?_
  | with_reducible refine' s_truB ?_
  | with_reducible refine' s_truI ?_
  | with_reducible refine' s_neg ?_
  | ((with_reducible refine' s_mod ?h ?_); (case h => walk_at "ar")))
local macro_rules | `(tactic| walk_at "go") => `(tactic| repeat walk_at "st")

local macro_rules | `(tactic| walk_at "mg") => `(tactic| first | assumption | exact Facts.z_TypeError (by assumption) | exact Facts.z_bool (by assumption) | exact Facts.z_classmethod (by assumption) | exact Facts.z_dict (by assumption) | exact Facts.z_divmod (by assumption) | exact Facts.z_enumerate (by assumption) | exact Facts.z_int (by assumption) | exact Facts.z_isinstance (by assumption) | exact Facts.z_len (by assumption) | exact Facts.z_list (by assumption) | exact Facts.z_max (by assumption) | exact Facts.z_min (by assumption) | exact Facts.z_property (by assumption) | exact Facts.z_range (by assumption) | exact Facts.z_sorted (by assumption) | exact Facts.z_str (by assumption) | exact Facts.z_sum (by assumption) | exact Facts.z_super (by assumption) | exact Facts.z_tuple (by assumption) | exact Facts.z_zip (by assumption) | exact Facts.g__wall (by assumption) | exact Facts.g_is_between (by assumption) | exact Facts.g_is_digits (by assumption) | exact Facts.g_seats_of (by assumption) | exact Facts.g_check_amount (by assumption) | exact Facts.g_check_seats (by assumption) | exact Facts.g_check_seat_count (by assumption) | exact Facts.g_check_bills (by assumption) | exact Facts.g_check_mark (by assumption) | exact Facts.g_no_shares (by assumption) | exact Facts.g_seats_behind (by assumption) | exact Facts.g_split_bill (by assumption) | exact Facts.g_title_line (by assumption) | exact Facts.g_line_of (by assumption) | exact Facts.g_seat_line (by assumption) | exact Facts.g_receipt (by assumption) | exact Facts.g_cents_of_line (by assumption) | exact Facts.g_mark_of_line (by assumption) | exact Facts.g_parse_receipt (by assumption) | exact Facts.g_amount_bytes (by assumption) | exact Facts.g_checksum (by assumption) | exact Facts.g_encode_evening (by assumption) | exact Facts.g_byte_at (by assumption) | exact Facts.g_amount_at (by assumption) | exact Facts.g_decode_evening (by assumption) | exact Facts.g_row_of (by assumption) | exact Facts.g_format_evening (by assumption) | exact Facts.g_is_number (by assumption) | exact Facts.g_check_row (by assumption) | exact Facts.g_numbers_of_row (by assumption) | exact Facts.g_parse_evening (by assumption) | exact Facts.g__law_mix (by assumption) | exact Facts.g__law_next (by assumption) | exact Facts.g__law_alike (by assumption) | exact Facts.g__law_bill (by assumption) | exact Facts.g__law_bills (by assumption) | exact Facts.g__law_text (by assumption) | exact Facts.g__law_pay (by assumption) | exact Facts.g__law_paid (by assumption) | exact Facts.g__law_money (by assumption) | exact Facts.g__law_lines (by assumption) | exact Facts.g_law (by assumption) | exact Facts.g_Shares (by assumption) | exact Facts.g_Bill (by assumption) | exact Facts.g_Evening (by assumption))
local macro_rules | `(tactic| walk_at "kp") => `(tactic| first | assumption | exact (Facts.mk_Shares (by assumption)).kp | exact (Facts.mk_Bill (by assumption)).kp | exact (Facts.mk_Evening (by assumption)).kp | exact Fun.kp (Facts.u__wall (by assumption)).choose_spec | exact Fun.kp (Facts.u_is_between (by assumption)).choose_spec | exact Fun.kp (Facts.u_is_digits (by assumption)).choose_spec | exact Fun.kp (Facts.u_seats_of (by assumption)).choose_spec | exact Fun.kp (Facts.u_check_amount (by assumption)).choose_spec | exact Fun.kp (Facts.u_check_seats (by assumption)).choose_spec | exact Fun.kp (Facts.u_check_seat_count (by assumption)).choose_spec | exact Fun.kp (Facts.u_check_bills (by assumption)).choose_spec | exact Fun.kp (Facts.u_check_mark (by assumption)).choose_spec | exact Fun.kp (Facts.u_no_shares (by assumption)).choose_spec | exact Fun.kp (Facts.u_seats_behind (by assumption)).choose_spec | exact Fun.kp (Facts.u_split_bill (by assumption)).choose_spec | exact Fun.kp (Facts.u_title_line (by assumption)).choose_spec | exact Fun.kp (Facts.u_line_of (by assumption)).choose_spec | exact Fun.kp (Facts.u_seat_line (by assumption)).choose_spec | exact Fun.kp (Facts.u_receipt (by assumption)).choose_spec | exact Fun.kp (Facts.u_cents_of_line (by assumption)).choose_spec | exact Fun.kp (Facts.u_mark_of_line (by assumption)).choose_spec | exact Fun.kp (Facts.u_parse_receipt (by assumption)).choose_spec | exact Fun.kp (Facts.u_amount_bytes (by assumption)).choose_spec | exact Fun.kp (Facts.u_checksum (by assumption)).choose_spec | exact Fun.kp (Facts.u_encode_evening (by assumption)).choose_spec | exact Fun.kp (Facts.u_byte_at (by assumption)).choose_spec | exact Fun.kp (Facts.u_amount_at (by assumption)).choose_spec | exact Fun.kp (Facts.u_decode_evening (by assumption)).choose_spec | exact Fun.kp (Facts.u_row_of (by assumption)).choose_spec | exact Fun.kp (Facts.u_format_evening (by assumption)).choose_spec | exact Fun.kp (Facts.u_is_number (by assumption)).choose_spec | exact Fun.kp (Facts.u_check_row (by assumption)).choose_spec | exact Fun.kp (Facts.u_numbers_of_row (by assumption)).choose_spec | exact Fun.kp (Facts.u_parse_evening (by assumption)).choose_spec | exact Fun.kp (Facts.u__law_mix (by assumption)).choose_spec | exact Fun.kp (Facts.u__law_next (by assumption)).choose_spec | exact Fun.kp (Facts.u__law_alike (by assumption)).choose_spec | exact Fun.kp (Facts.u__law_bill (by assumption)).choose_spec | exact Fun.kp (Facts.u__law_bills (by assumption)).choose_spec | exact Fun.kp (Facts.u__law_text (by assumption)).choose_spec | exact Fun.kp (Facts.u__law_pay (by assumption)).choose_spec | exact Fun.kp (Facts.u__law_paid (by assumption)).choose_spec | exact Fun.kp (Facts.u__law_money (by assumption)).choose_spec | exact Fun.kp (Facts.u__law_lines (by assumption)).choose_spec | exact Fun.kp (Facts.u_law (by assumption)).choose_spec)
section
variable {P : Program} {w : World} {K : PySem.W.Frag} {mg : Str → Option Value} {base : Heap} {a : Ad}
theorem lineV_eq {i c : Nat} (h : (moneyV (c : Nat)).length < 26) : (numS (i : Nat) ++ ("   " : Str)) ++ (signs 32 (26 - (moneyV (c : Nat)).length) ++ moneyV (c : Nat)) = lineV i (c : Nat) := by
  unfold lineV
  have e : (26 - ((moneyV (c : Nat)).length : Int)).toNat = 26 - (moneyV (c : Nat)).length := by omega
  rw [e]
  refine TL.ext_tl ?_
  simp only [TL.tl_append, List.append_assoc]
theorem markV_eq (m : Nat) : ("mark" : Str) ++ (signs 32 25 ++ numS (m : Nat)) = markV (m : Nat) := by
  unfold markV
  refine TL.ext_tl ?_
  simp only [TL.tl_append, List.append_assoc]
def spSeatLine : Sp := fun vs H Q _ => ∃ i c : Nat, vs = [.int i, .int c] ∧ i < 10 ∧ c < 10 ^ 15 ∧ ∀ H', Same H H' → Q (.str (lineV i (c : Nat))) H'
theorem ok_seat_line (T : Facts K mg a) : FnR P w K mg base (L2.CX P w) 2 a.f_seat_line spSeatLine := by
  obtain ⟨fd, F⟩ := T.u_seat_line
  have GL : FnR P w K mg base (L2.CX P w) 1 a.f_line_of spLineOf := ok_line_of T
  refine fnr_ok F sc_seat_line (F.binds fun _ _ _ _ _ _ us hl => match us, hl with | [_, _], _ => rfl) (fun vs H Q E h => ?_) (fun cdv A outer s H vs Q E hr h => ?_)
  · obtain ⟨i, c, rfl, _⟩ := h
    rfl
  · obtain ⟨i, c, rfl, hi, hc, q⟩ := h
    have e15 : (10 : Nat) ^ 15 = 1000000000000000 := by decide
    have e13 : (10 : Nat) ^ 13 = 10000000000000 := by decide
    have e13i : (10 : Int) ^ 13 = 10000000000000 := by decide
    have lim : (1000 : Nat) ≤ sizeLine := by decide
    have ms := money_short hc
    have em : (moneyV (c : Nat)) = (mon 5 ((c / 100 : Nat) : Int) "" ++ ("." : Str)) ++ (signs 48 (2 - ((numS ((c % 100 : Nat) : Int)).length : Int)).toNat ++ numS ((c % 100 : Nat) : Int)) := by
      have e1 : (c : Int) - (c : Int) / 100 * 100 = ((c % 100 : Nat) : Int) := by omega
      unfold moneyV
      rw [e1]
      refine TL.ext_tl ?_
      simp only [TL.tl_append, List.append_assoc]
      rfl
    have ml : (mon 5 ((c / 100 : Nat) : Int) "").length ≤ 25 := by
      rw [em, str_len_app, str_len_app] at ms
      omega
    refine ⟨_, (pss_cons (ps_asg (pe_biA (id := "divmod") Like.refl pas_main (by rfl) (by decide +kernel) (pa_cons (pv 1) (pa_cons (pe_int) pa_nil))) (pg_tup rfl (pgs_cons (pg_name (i := 2) sc_seat_line.nd rfl (Or.inl rfl)) (pgs_cons (pg_name (i := 3) sc_seat_line.nd rfl (Or.inl rfl)) pgs_nil))))
    (pss_one (ps_ret (pe_glA Like.refl pas_main (by rfl) (pa_cons (pv 0) (pa_cons (pe_joined (.cons (pe_fmtS (pv 2)) (.cons (pe_str) (.cons (pe_fmtS (pv 3)) .nil)))) pa_nil)))))), ?_⟩
    walk_at "go"
    refine s_divmod (by decide) (by decide) fun p hp => ?_
    have s0 := same_new (o := .tup [.int ((c : Int) / 100), .int ((c : Int) % 100)]) hp
    refine g_pair (SqT.of upd_same) ?_
    dsimp only [List.set]
    generalize upd H p (.tup [.int ((c : Int) / 100), .int ((c : Int) % 100)]) = H1 at *
    rw [show (c : Int) / 100 = ((c / 100 : Nat) : Int) by omega, show (c : Int) % 100 = ((c % 100 : Nat) : Int) by omega]
    walk_at "go"
    refine w_js (w_fmtS ?_)
    walk_at "go"
    refine .inl ⟨_, fComma, rfl, log_small (by omega) (by omega), .inl ⟨rfl, rfl⟩, ?_, ?_⟩
    · rw [comma_text (by omega)]
      exact Nat.le_trans (show _ ≤ 1000 by omega) lim
    rw [comma_text (by omega)]
    refine ⟨_, rfl, by rw [str_nil_app]; exact Nat.le_trans (show _ ≤ 1000 by omega) lim, ?_⟩
    rw [str_nil_app]
    refine w_js ?_
    walk_at "go"
    refine ⟨".", rfl, Nat.le_trans (show _ ≤ 1000 by rw [str_len_app, show ("." : Str).length = 1 from rfl]; omega) lim, ?_⟩
    refine w_js (w_fmtS ?_)
    walk_at "go"
    have e2 := two_text (c % 100) (Nat.mod_lt _ (by decide))
    have l2 : (moneyV (c : Nat)).length ≤ sizeLine := Nat.le_trans (show _ ≤ 1000 by omega) lim
    refine .inl ⟨_, fTwo, rfl, log_small (by omega) (by omega), .inr (.inl ⟨rfl, rfl⟩), ?_, ?_⟩
    · rw [e2]
      refine Nat.le_trans ?_ l2
      rw [em]
      exact Nat.le_trans (Nat.le_add_left _ _) (Nat.le_of_eq (str_len_app _ _).symm)
    rw [e2]
    refine ⟨_, rfl, by rw [← em]; exact l2, ?_⟩
    refine w_js0 ?_
    rw [← em]
    refine s_fn GL hr (.inl ⟨i, moneyV (c : Nat), rfl, hi, ms, ?_⟩)
    rw [lineV_eq ms]
    exact q _ s0
def spDigT : Sp := fun vs H Q _ => ∃ x : Str, vs = [.str x] ∧ NumText.AllDigits (TL.tl x) ∧ TL.tl x ≠ [] ∧ Q (.bl true) H
theorem ok_is_digitsT (T : Facts K mg a) : FnR P w K mg base (L2.CX P w) 1 a.f_is_digits spDigT := by
  obtain ⟨fd, F⟩ := T.u_is_digits
  refine fnr_ok F sc_is_digits (F.binds fun _ _ _ _ _ _ us hl => match us, hl with | [_], _ => rfl) (fun vs H Q E h => ?_) (fun cdv A outer s H vs Q E hr h => ?_)
  · obtain ⟨x, rfl, _⟩ := h
    rfl
  · obtain ⟨x, rfl, hd, hne, q⟩ := h
    have h1 : Txt.isascii x = true := by
      unfold Txt.isascii
      exact cps_all fun c hc => by have := hd c hc; rw [decide_eq_true_iff]; omega
    have h2 : Txt.isdigit x = true := by
      unfold Txt.isdigit
      have : 1 ≤ x.length := by
        rw [TL.len_tl]
        exact List.length_pos_iff.2 hne
      rw [cps_all fun c hc => digit_uni c (hd c hc).1 (hd c hc).2, Bool.and_true, decide_eq_true_iff]
      omega
    refine ⟨_, (pss_one (ps_ret (pe_and (pe_m0 PySem.F.slot_str_isascii PySem.F.type_str_isascii mt_isascii (pv 0)) (pe_one (pe_m0 PySem.F.slot_str_isdigit PySem.F.type_str_isdigit mt_isdigit (pv 0)))))), ?_⟩
    walk_at "go"
    refine w_m0 ?_
    walk_at "go"
    refine ⟨⟨_, rfl⟩, x, rfl, rfl, True.intro, ?_⟩
    rw [h1]
    walk_at "go"
    refine w_m0 ?_
    walk_at "go"
    refine ⟨⟨_, rfl⟩, x, rfl, rfl, True.intro, ?_⟩
    rw [h2]
    exact q
/-- what is left of a line: its digits -/
theorem tl_lineV {i c : Nat} (hi : i < 10) : TL.tl (lineV i (c : Nat)) = (48 + i) :: 32 :: 32 :: 32 :: (List.replicate (26 - ((moneyV (c : Nat)).length : Int)).toNat 32 ++ TL.tl (moneyV (c : Nat))) := by
  unfold lineV
  rw [TL.tl_append, TL.tl_append, TL.tl_append, tl_numS (by omega), Int.toNat_natCast, TL.numL_lt hi, tl_signs]
  rfl
theorem strip_line {i c : Nat} (hi : i < 10) (hc : c < 10 ^ 15) : TL.tl (Txt.lstripChars (cutS (lineV i (c : Nat)) (some 4) none) " ") = TL.tl (moneyV (c : Nat)) := by
  have e1 : TL.tl (cutS (lineV i (c : Nat)) (some 4) none) = List.replicate (26 - ((moneyV (c : Nat)).length : Int)).toNat 32 ++ TL.tl (moneyV (c : Nat)) := by
    rw [show (some (4 : Int)) = some ((4 : Nat) : Int) from rfl, tl_cutFrom, tl_lineV hi]
    rfl
  rw [tl_lstrip, e1]
  have hm := money_signs hc
  have e2 : (TL.tl (moneyV (c : Nat))).takeWhile ((" " : Str).cps.contains) = [] := by
    cases h : TL.tl (moneyV (c : Nat)) with
    | nil => rfl
    | cons k r =>
      have hk := hm k (by rw [h]; exact List.mem_cons_self ..)
      have hn : (" " : Str).cps.contains k = false := by
        cases z : (" " : Str).cps.contains k with
        | false => rfl
        | true =>
          have : k ∈ (" " : Str).cps := Array.contains_iff.1 z
          have e : (" " : Str).cps = #[32] := by rfl
          rw [e] at this
          simp at this
          omega
      rw [List.takeWhile_cons, hn]
      rfl
  have e3 : ∀ n : Nat, (List.replicate n 32 ++ TL.tl (moneyV (c : Nat))).takeWhile ((" " : Str).cps.contains) = List.replicate n 32 := fun n => by
    induction n with
    | zero => exact e2
    | succ n ih =>
      rw [List.replicate_succ, List.cons_append, List.takeWhile_cons, ih]
      exact if_pos (by decide +kernel)
  rw [e3, List.length_replicate, List.drop_append, List.length_replicate, Nat.sub_self, List.drop_of_length_le (by rw [List.length_replicate]; exact Nat.le_refl _)]
  rfl
theorem line_short {i c : Nat} (hi : i < 10) (hc : c < 10 ^ 15) : (lineV i (c : Nat)).length ≤ 60 := by
  have := money_short hc
  rw [TL.len_tl, tl_lineV hi]
  simp only [List.length_cons, List.length_append, List.length_replicate]
  rw [← TL.len_tl]
  omega
def spCentsOf : Sp := fun vs H Q _ => ∃ i c : Nat, vs = [.str (lineV i (c : Nat)), .int i] ∧ i < 10 ∧ c < 10 ^ 15 ∧ ∀ H', Same H H' → Q (.int c) H'
theorem ok_cents_of_line (T : Facts K mg a) : FnR P w K mg base (L2.CX P w) 3 a.f_cents_of_line spCentsOf := by
  obtain ⟨fd, F⟩ := T.u_cents_of_line
  have GD : FnR P w K mg base (L2.CX P w) 1 a.f_is_digits spDigT := ok_is_digitsT T
  have GL : FnR P w K mg base (L2.CX P w) 2 a.f_seat_line spSeatLine := ok_seat_line T
  refine fnr_ok F sc_cents_of_line (F.binds fun _ _ _ _ _ _ us hl => match us, hl with | [_, _], _ => rfl) (fun vs H Q E h => ?_) (fun cdv A outer s H vs Q E hr h => ?_)
  · obtain ⟨i, c, rfl, _⟩ := h
    rfl
  · obtain ⟨i, c, rfl, hi, hc, q⟩ := h
    have lim : (1000 : Nat) ≤ sizeLine := by decide
    have ll := line_short hi hc
    refine ⟨_, (pss_cons (ps_set (i := 2) sc_cents_of_line.nd rfl (Or.inl rfl) (PE1.pe (pe1_rep (pe1_rep (pe1_m1 PySem.F.slot_str_lstrip PySem.F.type_str_lstrip mt_lstripChars (pe_slice sl_str (pv 0) (po_some (pe_int)) po_none)) (by decide)) (by decide))))
    (pss_cons (ps_if (PW.pt (pw_or (pt_not (pt_trA Like.refl pas_main (pe_glA Like.refl pas_main (by rfl) (pa_cons (pv 2) pa_nil)))) (pw_or (pt_cmpA Like.refl pas_main (pe_biA (id := "len") Like.refl pas_main (by rfl) (by decide +kernel) (pa_cons (pv 2) pa_nil)) (pe_gvI Like.refl (by rfl)) (nomark _)) (pw_or1 (pt_cmpA Like.refl pas_main (pe_glA Like.refl pas_main (by rfl) (pa_cons (pv 1) (pa_cons (pe_tyA (T := "int") Like.refl pas_main (by rfl) (by decide +kernel) (pa_cons (pv 2) pa_nil)) pa_nil))) (pv 0) (nomark _)))))) (pss_one (ps_never)) pss_nil)
    (pss_one (ps_ret (pe_tyA (T := "int") Like.refl pas_main (by rfl) (by decide +kernel) (pa_cons (pv 2) pa_nil)))))), ?_⟩
    walk_at "go"
    refine w_repc (w_repc ?_)
    refine w_m1 ?_
    walk_at "go"
    refine w_slf ?_
    walk_at "go"
    refine ⟨4, rfl, lineV i (c : Nat), rfl, Nat.le_trans (show _ ≤ 1000 by omega) lim, ?_⟩
    have cl := cutS_length (lineV i (c : Nat)) (some 4) none
    refine ⟨⟨_, rfl⟩, ?_⟩
    walk_at "go"
    refine ⟨_, _, rfl, rfl, Nat.le_trans (show _ ≤ 1000 by omega) lim, ?_⟩
    have e1 := strip_line hi hc
    generalize Txt.lstripChars (cutS (lineV i (c : Nat)) (some 4) none) " " = X1 at *
    have e1' : X1 = moneyV (c : Nat) := TL.ext_tl e1
    subst e1'
    have ms := money_short hc
    refine ⟨_, rfl, by rw [show ("" : Str).length = 0 from rfl]; omega, ?_⟩
    have e2 := tl_repl (moneyV (c : Nat)) 44
    rw [show (⟨#[44]⟩ : Str) = "," from rfl] at e2
    have l2 : (Txt.replace (moneyV (c : Nat)) "," "").length ≤ 26 := by
      rw [TL.len_tl, e2]
      refine Nat.le_trans (List.length_filter_le _ _) ?_
      rw [← TL.len_tl]
      omega
    generalize Txt.replace (moneyV (c : Nat)) "," "" = X2 at *
    refine ⟨_, rfl, by rw [show ("" : Str).length = 0 from rfl]; omega, ?_⟩
    have e3 := tl_repl X2 46
    rw [show (⟨#[46]⟩ : Str) = "." from rfl, e2, money_digits hc] at e3
    generalize Txt.replace X2 "." "" = X3 at *
    walk_at "go"
    have h15 := digsL_len hc
    have l3 : X3.length ≤ 15 := by rw [TL.len_tl, e3]; exact h15
    have hne : TL.tl X3 ≠ [] := by rw [e3]; unfold digsL; simp
    have hall : NumText.AllDigits (TL.tl X3) := by rw [e3]; exact digsL_all c
    have hint : PySem.intText? X3 = some (c : Int) := by
      have := intText_digits (x := X3) hall hne (by omega)
      rw [this]
      show some ((NumText.digitsVal (TL.tl X3) : Nat) : Int) = _
      rw [e3, digsL_val]
    refine s_fn GD (hr.mono (by decide)) ⟨X3, rfl, hall, hne, ?_⟩
    walk_at "go"
    refine s_lenStr (Nat.le_trans (show _ ≤ 1000 by omega) lim) ?_
    walk_at "go"
    refine w_gvI T.i_MAX_CENT_DIGITS.choose_spec ?_
    walk_at "go"
    rw [decide_eq_false (show ¬ ((X3.length : Nat) : Int) > 24 by omega)]
    walk_at "go"
    refine s_intS hint (by omega) ?_
    refine s_fn GL (hr.mono (by decide)) ⟨i, c, rfl, hi, hc, fun H1 s1 => ?_⟩
    walk_at "go"
    refine s_neS ?_
    rw [decide_eq_true rfl]
    walk_at "go"
    refine s_intS hint (by omega) ?_
    exact q _ s1
end

end Odd

namespace Odd
open PySem PySem.Spec PyProof.Rows L2
/-! tactics of this text: st one step, go as many as go -/
local macro_rules | `(tactic| walk_at "ar") => `(tactic| first | assumption | omega | (show (_ : Int) < _; omega) | decide)
local macro_rules | `(tactic| walk_at "st") => `(tactic| first
  | with_reducible refine' w_seq ?_
  | with_reducible refine' w_asg ?_
  | with_reducible refine' w_name ?_
  | with_reducible refine' w_c ?_
  | with_reducible refine' w_op ?_
  | with_reducible refine' w_ix ?_
  | with_reducible refine' w_at ?_
  | with_reducible refine' w_cons ?_
  | with_reducible refine' w_nil ?_
  | with_reducible refine' w_ret ?_
  | with_reducible refine' w_if ?_
  | with_reducible refine' w_test ?_
  | with_reducible refine' w_tr ?_
  | with_reducible refine' w_un ?_
  | with_reducible refine' w_andV ?_
  | with_reducible refine' w_orV ?_
  | with_reducible refine' w_notA ?_
  | with_reducible refine' w_ch ?_
  | with_reducible refine' w_and ?_
  | with_reducible refine' w_or ?_
  | with_reducible refine' w_not ?_
  | with_reducible refine' w_ifx ?_
  | with_reducible refine' w_tup ?_
  | with_reducible refine' w_lst ?_
  | with_reducible refine' w_next ?_
  | with_reducible refine' w_drop ?_
  | with_reducible refine' w_retN ?_
  | ((with_reducible refine' w_var ?h ?_); (case h => exact rfl))
  | ((with_reducible refine' w_bi ?h ?_); (case h => walk_at "mg"))
  | ((with_reducible refine' w_bv ?h ?_); (case h => walk_at "mg"))
  | ((with_reducible refine' w_gv ?h ?_); (case h => walk_at "mg"))
  | ((with_reducible refine' w_gl ?h ?k ?_); (case h => walk_at "mg"); (case k => walk_at "kp"))
  | ((with_reducible refine' w_glS ?h ?k ?_); (case h => walk_at "mg"); (case k => walk_at "kp"))
  | with_reducible refine' bl_ex ?_
  | with_reducible refine' iteT ?_
  | with_reducible refine' iteF ?_
  | with_reducible refine' ite_nf ?_
  | with_reducible refine' ite_nt ?_
  | with_reducible refine' s_add ?_
  | with_reducible refine' s_sub ?_
  | with_reducible refine' s_lt ?_
  | with_reducible refine' s_le ?_
  | with_reducible refine' s_gt ?_
  | with_reducible refine' s_ge ?_
  | with_reducible refine' s_eqI ?_
  | with_reducible refine' s_neI ?_
  | with_reducible refine' s_eqB ?_
  | with_reducible refine' s_neB ?_
  | with_reducible refine' s_truB ?_
  | with_reducible refine' s_truI ?_
  | with_reducible refine' s_neg ?_
  | ((with_reducible refine' s_mod ?h ?_); (case h => walk_at "ar")))
local macro_rules | `(tactic| walk_at "go") => `(tactic| repeat walk_at "st")

local macro_rules | `(tactic| walk_at "mg") => `(tactic| first | assumption | exact Facts.z_TypeError (by assumption) | exact Facts.z_bool (by assumption) | exact Facts.z_classmethod (by assumption) | exact Facts.z_dict (by assumption) | exact Facts.z_divmod (by assumption) | exact Facts.z_enumerate (by assumption) | exact Facts.z_int (by assumption) | exact Facts.z_isinstance (by assumption) | exact Facts.z_len (by assumption) | exact Facts.z_list (by assumption) | exact Facts.z_max (by assumption) | exact Facts.z_min (by assumption) | exact Facts.z_property (by assumption) | exact Facts.z_range (by assumption) | exact Facts.z_sorted (by assumption) | exact Facts.z_str (by assumption) | exact Facts.z_sum (by assumption) | exact Facts.z_super (by assumption) | exact Facts.z_tuple (by assumption) | exact Facts.z_zip (by assumption) | exact Facts.g__wall (by assumption) | exact Facts.g_is_between (by assumption) | exact Facts.g_is_digits (by assumption) | exact Facts.g_seats_of (by assumption) | exact Facts.g_check_amount (by assumption) | exact Facts.g_check_seats (by assumption) | exact Facts.g_check_seat_count (by assumption) | exact Facts.g_check_bills (by assumption) | exact Facts.g_check_mark (by assumption) | exact Facts.g_no_shares (by assumption) | exact Facts.g_seats_behind (by assumption) | exact Facts.g_split_bill (by assumption) | exact Facts.g_title_line (by assumption) | exact Facts.g_line_of (by assumption) | exact Facts.g_seat_line (by assumption) | exact Facts.g_receipt (by assumption) | exact Facts.g_cents_of_line (by assumption) | exact Facts.g_mark_of_line (by assumption) | exact Facts.g_parse_receipt (by assumption) | exact Facts.g_amount_bytes (by assumption) | exact Facts.g_checksum (by assumption) | exact Facts.g_encode_evening (by assumption) | exact Facts.g_byte_at (by assumption) | exact Facts.g_amount_at (by assumption) | exact Facts.g_decode_evening (by assumption) | exact Facts.g_row_of (by assumption) | exact Facts.g_format_evening (by assumption) | exact Facts.g_is_number (by assumption) | exact Facts.g_check_row (by assumption) | exact Facts.g_numbers_of_row (by assumption) | exact Facts.g_parse_evening (by assumption) | exact Facts.g__law_mix (by assumption) | exact Facts.g__law_next (by assumption) | exact Facts.g__law_alike (by assumption) | exact Facts.g__law_bill (by assumption) | exact Facts.g__law_bills (by assumption) | exact Facts.g__law_text (by assumption) | exact Facts.g__law_pay (by assumption) | exact Facts.g__law_paid (by assumption) | exact Facts.g__law_money (by assumption) | exact Facts.g__law_lines (by assumption) | exact Facts.g_law (by assumption) | exact Facts.g_Shares (by assumption) | exact Facts.g_Bill (by assumption) | exact Facts.g_Evening (by assumption))
local macro_rules | `(tactic| walk_at "kp") => `(tactic| first | assumption | exact (Facts.mk_Shares (by assumption)).kp | exact (Facts.mk_Bill (by assumption)).kp | exact (Facts.mk_Evening (by assumption)).kp | exact Fun.kp (Facts.u__wall (by assumption)).choose_spec | exact Fun.kp (Facts.u_is_between (by assumption)).choose_spec | exact Fun.kp (Facts.u_is_digits (by assumption)).choose_spec | exact Fun.kp (Facts.u_seats_of (by assumption)).choose_spec | exact Fun.kp (Facts.u_check_amount (by assumption)).choose_spec | exact Fun.kp (Facts.u_check_seats (by assumption)).choose_spec | exact Fun.kp (Facts.u_check_seat_count (by assumption)).choose_spec | exact Fun.kp (Facts.u_check_bills (by assumption)).choose_spec | exact Fun.kp (Facts.u_check_mark (by assumption)).choose_spec | exact Fun.kp (Facts.u_no_shares (by assumption)).choose_spec | exact Fun.kp (Facts.u_seats_behind (by assumption)).choose_spec | exact Fun.kp (Facts.u_split_bill (by assumption)).choose_spec | exact Fun.kp (Facts.u_title_line (by assumption)).choose_spec | exact Fun.kp (Facts.u_line_of (by assumption)).choose_spec | exact Fun.kp (Facts.u_seat_line (by assumption)).choose_spec | exact Fun.kp (Facts.u_receipt (by assumption)).choose_spec | exact Fun.kp (Facts.u_cents_of_line (by assumption)).choose_spec | exact Fun.kp (Facts.u_mark_of_line (by assumption)).choose_spec | exact Fun.kp (Facts.u_parse_receipt (by assumption)).choose_spec | exact Fun.kp (Facts.u_amount_bytes (by assumption)).choose_spec | exact Fun.kp (Facts.u_checksum (by assumption)).choose_spec | exact Fun.kp (Facts.u_encode_evening (by assumption)).choose_spec | exact Fun.kp (Facts.u_byte_at (by assumption)).choose_spec | exact Fun.kp (Facts.u_amount_at (by assumption)).choose_spec | exact Fun.kp (Facts.u_decode_evening (by assumption)).choose_spec | exact Fun.kp (Facts.u_row_of (by assumption)).choose_spec | exact Fun.kp (Facts.u_format_evening (by assumption)).choose_spec | exact Fun.kp (Facts.u_is_number (by assumption)).choose_spec | exact Fun.kp (Facts.u_check_row (by assumption)).choose_spec | exact Fun.kp (Facts.u_numbers_of_row (by assumption)).choose_spec | exact Fun.kp (Facts.u_parse_evening (by assumption)).choose_spec | exact Fun.kp (Facts.u__law_mix (by assumption)).choose_spec | exact Fun.kp (Facts.u__law_next (by assumption)).choose_spec | exact Fun.kp (Facts.u__law_alike (by assumption)).choose_spec | exact Fun.kp (Facts.u__law_bill (by assumption)).choose_spec | exact Fun.kp (Facts.u__law_bills (by assumption)).choose_spec | exact Fun.kp (Facts.u__law_text (by assumption)).choose_spec | exact Fun.kp (Facts.u__law_pay (by assumption)).choose_spec | exact Fun.kp (Facts.u__law_paid (by assumption)).choose_spec | exact Fun.kp (Facts.u__law_money (by assumption)).choose_spec | exact Fun.kp (Facts.u__law_lines (by assumption)).choose_spec | exact Fun.kp (Facts.u_law (by assumption)).choose_spec)
section
variable {P : Program} {w : World} {K : PySem.W.Frag} {mg : Str → Option Value} {base : Heap} {a : Ad}
/-- data of depth at most n, without dicts, short throughout -/
def okN : Nat → PyData → Prop
  | _, .none => True
  | _, .bool _ => True
  | _, .int _ => True
  | _, .str x => PyData.canLay0 (.str x) = true
  | _, .dict _ => False
  | 0, .list _ => False
  | 0, .tuple _ => False
  | n + 1, .list xs => xs.length < 1000 ∧ ∀ x ∈ xs, okN n x
  | n + 1, .tuple xs => xs.length < 1000 ∧ ∀ x ∈ xs, okN n x
theorem okN_all {n : Nat} : ∀ {xs : List PyData}, (∀ x ∈ xs, PyData.canLay0 x = true ∧ x.depth ≤ n) → PyData.canLayAll0 xs = true ∧ PyData.depthAll xs ≤ n
  | [], _ => ⟨by simp [PyData.canLayAll0], by simp [PyData.depthAll]⟩
  | x :: xs, h => by
    obtain ⟨a, b⟩ := h x (List.mem_cons_self ..)
    obtain ⟨c, d⟩ := okN_all (n := n) (xs := xs) fun y hy => h y (List.mem_cons_of_mem _ hy)
    exact ⟨by simp [PyData.canLayAll0, a, c], by simp only [PyData.depthAll]; omega⟩
theorem okN_lay : ∀ {n : Nat} {d : PyData}, okN n d → PyData.canLay0 d = true ∧ d.depth ≤ n
  | _, .none, _ => ⟨by simp [PyData.canLay0], by simp [PyData.depth]⟩
  | _, .bool _, _ => ⟨by simp [PyData.canLay0], by simp [PyData.depth]⟩
  | _, .int _, _ => ⟨by simp [PyData.canLay0], by simp [PyData.depth]⟩
  | _, .str _, h => ⟨by simpa [okN] using h, by simp [PyData.depth]⟩
  | _, .dict _, h => by simp [okN] at h
  | 0, .list _, h => by simp [okN] at h
  | 0, .tuple _, h => by simp [okN] at h
  | n + 1, .list xs, h => by
    have h' : xs.length < 1000 ∧ ∀ x ∈ xs, okN n x := by simpa [okN] using h
    obtain ⟨a, b⟩ := okN_all fun x hx => okN_lay (h'.2 x hx)
    exact ⟨by simpa [PyData.canLay0] using a, by simp only [PyData.depth]; omega⟩
  | n + 1, .tuple xs, h => by
    have h' : xs.length < 1000 ∧ ∀ x ∈ xs, okN n x := by simpa [okN] using h
    obtain ⟨a, b⟩ := okN_all fun x hx => okN_lay (h'.2 x hx)
    exact ⟨by simpa [PyData.canLay0] using a, by simp only [PyData.depth]; omega⟩
theorem okN_shaped {n : Nat} {d : PyData} (h : okN n d) (hn : n ≤ 64) : SeqAt.shaped d = true := by
  obtain ⟨a, b⟩ := okN_lay h
  simp only [SeqAt.shaped, a, Bool.true_and, decide_eq_true_eq]
  omega
/-- the parts of a list, a tuple -/
def parts : PyData → List PyData
  | .list xs => xs
  | .tuple xs => xs
  | _ => []
theorem isTL_parts {K : PySem.W.Frag} {H : Hp} {v : V} {d : PyData} (h : Dp K H v d) (t : isTL d = true) : ∃ p vs, v = .ref p ∧ (SqL K H p vs ∨ SqT K H p vs) ∧ DpAll K H vs (parts d) := by
  cases h with
  | lst h hs => exact ⟨_, _, rfl, .inl h, hs⟩
  | tup h hs => exact ⟨_, _, rfl, .inr h, hs⟩
  | _ => cases t
theorem okN_parts {n : Nat} {d : PyData} (h : okN n d) (t : isTL d = true) : ∃ m, n = m + 1 ∧ (parts d).length < 1000 ∧ ∀ x ∈ parts d, okN m x := by
  cases n with
  | zero => cases d <;> first | (simp [isTL] at t; done) | (simp [okN] at h)
  | succ n => cases d <;> first | (simp [isTL] at t; done) | exact ⟨n, rfl, by simpa [okN, parts] using h⟩
theorem s_lenS {X0 : Cx} {E : XK} {H : Hp} {Q : VK} {a : Addr} {xs : List V} (h : SqL X0.K H a xs ∨ SqT X0.K H a xs) (q : Q (.int xs.length) H) : ∃ r, CaD X0 E (.builtin "len") r ∧ r [.ref a] H Q :=
  h.elim (fun h => s_lenL h q) fun h => s_lenT h q
theorem s_ixS {X0 : Cx} {E : XK} {H : Hp} {Q : VK} {a : Addr} {xs : List V} {i : Int} {v : V} (h : SqL X0.K H a xs ∨ SqT X0.K H a xs) (ha : atI xs i = some v) (q : Q v H) : ∃ r, IxD X0 E r ∧ r (.ref a) (.int i) H Q :=
  h.elim (fun h => s_ixL h ha q) fun h => s_ixT h ha q
theorem sqS_same {K : PySem.W.Frag} {H H' : Hp} {a : Addr} {xs : List V} (s : Same H H') (h : SqL K H a xs ∨ SqT K H a xs) : SqL K H' a xs ∨ SqT K H' a xs := h.imp s.seq (same_t s)
/-- equal as lists, index by index -/
theorem list_ext_get {α : Type} {xs ys : List α} (h : xs.length = ys.length) : xs = ys ↔ ∀ (i : Nat) (x y : α), xs[i]? = some x → ys[i]? = some y → x = y := by
  constructor
  · rintro rfl i x y h1 h2
    rw [h1] at h2
    exact Option.some.inj h2
  · intro k
    refine List.ext_getElem? fun i => ?_
    by_cases hi : i < xs.length
    · have e1 := List.getElem?_eq_getElem hi
      have e2 := List.getElem?_eq_getElem (h ▸ hi : i < ys.length)
      rw [e1, e2, k i _ _ e1 e2]
    · rw [List.getElem?_eq_none (by omega), List.getElem?_eq_none (by omega)]
theorem eq_parts {d e : PyData} (hd : isTL d = true) (he : isTL e = true) (hl : isL d = isL e) : d = e ↔ parts d = parts e := by
  cases d <;> cases e <;> first | (simp [isTL] at hd; done) | (simp [isTL] at he; done) | (simp [isL] at hl; done) | (simp [parts])
theorem eqv_leaf {d e : PyData} (he : isTL e = false) (hB : isB d = isB e) (hI : isI d = isI e) (hn : ∀ kvs, e ≠ .dict kvs) : PyData.eqv d e = true ↔ d = e := by
  cases e with
  | dict kvs => exact absurd rfl (hn kvs)
  | list _ => exact absurd he (by simp [isTL])
  | tuple _ => exact absurd he (by simp [isTL])
  | none => cases d <;> simp_all [PyData.eqv, isI, isB]
  | bool b => cases d <;> simp_all [PyData.eqv, isI, isB]
  | int i => cases d <;> simp_all [PyData.eqv, isI, isB]
  | str x => cases d <;> simp_all [PyData.eqv, isI, isB]

end

/-! ### the whole laws' comparison -/
section
variable {P : Program} {w : World} {K : PySem.W.Frag} {mg : Str → Option Value} {base : Heap} {a : Ad}
def isS : PyData → Bool
  | .str _ => true
  | _ => false
theorem kit_D (d : PyData) (hd : ∀ kvs, d ≠ .dict kvs) : kitB (tyn d) "dict" = some false := by
  cases d with
  | dict kvs => exact absurd rfl (hd kvs)
  | list xs => exact (by decide +kernel : kitB "list" "dict" = some false)
  | tuple xs => exact (by decide +kernel : kitB "tuple" "dict" = some false)
  | none => exact (by decide +kernel : kitB "NoneType" "dict" = some false)
  | bool b => exact (by decide +kernel : kitB "bool" "dict" = some false)
  | int i => exact (by decide +kernel : kitB "int" "dict" = some false)
  | str x => exact (by decide +kernel : kitB "str" "dict" = some false)
theorem kit_S (d : PyData) (hd : ∀ kvs, d ≠ .dict kvs) : kitB (tyn d) "str" = some (isS d) := by
  cases d with
  | dict kvs => exact absurd rfl (hd kvs)
  | list xs => exact (by decide +kernel : kitB "list" "str" = some false)
  | tuple xs => exact (by decide +kernel : kitB "tuple" "str" = some false)
  | none => exact (by decide +kernel : kitB "NoneType" "str" = some false)
  | bool b => exact (by decide +kernel : kitB "bool" "str" = some false)
  | int i => exact (by decide +kernel : kitB "int" "str" = some false)
  | str x => exact (by decide +kernel : kitB "str" "str" = some true)
theorem s_isN {X0 : Cx} {E : XK} {H : Hp} {Q : VK} {x : V} (q : Q (.bl (decide (x = .non))) H) : ∃ r, OpD X0 E (compareOp .Is) r ∧ r x .non H Q := ⟨_, fun _ _ _ => op_isN, rfl, q⟩
theorem s_notN {X0 : Cx} {E : XK} {H : Hp} {Q : VK} {x : V} (q : Q (.bl (!decide (x = .non))) H) : ∃ r, OpD X0 E (compareOp .IsNot) r ∧ r x .non H Q := ⟨_, fun _ _ _ => op_notN, rfl, q⟩
def spAlike (K : PySem.W.Frag) (n : Nat) : Sp := fun vs H Q _ => ∃ x y d e, vs = [x, y] ∧ Dp K H x d ∧ Dp K H y e ∧ okN n d ∧ okN n e ∧ ∀ b H', Same H H' → (b = true ↔ d = e) → Q (.bl b) H'
open Classical in
theorem ok_alike_at (T : Facts K mg a) (n : Nat) (hn : n ≤ 20) (ih : ∀ m, n = m + 1 → FnR P w K mg base (L2.CX P w) (m + 1) a.f__law_alike (spAlike K m)) : FnR P w K mg base (L2.CX P w) (n + 1) a.f__law_alike (spAlike K n) := by
  obtain ⟨fd, F⟩ := T.u__law_alike
  refine fnr_ok F sc__law_alike (F.binds fun _ _ _ _ _ _ us hl => match us, hl with | [_, _], _ => rfl) (fun vs H Q E h => ?_) (fun cdv A outer s H vs Q E hr h => ?_)
  · obtain ⟨x, y, d, e, rfl, _⟩ := h
    rfl
  · obtain ⟨x, y, d, e, rfl, hd, he, od, oe, q⟩ := h
    have hr' := hr.units
    refine ⟨_, (pss_cons (ps_if (pt_trA Like.refl pas_main (pe_biA (id := "isinstance") Like.refl pas_main (by rfl) (by decide +kernel) (pa_cons (pv 1) (pa_cons (pe_bvA (v := .ty "dict") Like.refl (by rfl) (by decide +kernel) rfl) pa_nil)))) (pss_one (ps_ret (pe_and (pe_biA (id := "isinstance") Like.refl pas_main (by rfl) (by decide +kernel) (pa_cons (pv 0) (pa_cons (pe_bvA (v := .ty "dict") Like.refl (by rfl) (by decide +kernel) rfl) pa_nil))) (pe_and (pe_glA Like.refl pas_main (by rfl) (pa_cons (pe_biA (id := "sorted") Like.refl pas_main (by rfl) (by decide +kernel) (pa_cons (pv 0) pa_nil)) (pa_cons (pe_biA (id := "sorted") Like.refl pas_main (by rfl) (by decide +kernel) (pa_cons (pv 1) pa_nil)) pa_nil))) (pe_one (pe_cmpA Like.refl pas_main (pv 0) (pv 1) (nomark _))))))) pss_nil)
    (pss_cons (ps_if (pt_trA Like.refl pas_main (pe_biA (id := "isinstance") Like.refl pas_main (by rfl) (by decide +kernel) (pa_cons (pv 1) (pa_cons (pe_tup (pa_cons (pe_bvA (v := .ty "tuple") Like.refl (by rfl) (by decide +kernel) rfl) (pa_cons (pe_bvA (v := .ty "list") Like.refl (by rfl) (by decide +kernel) rfl) pa_nil))) pa_nil)))) (pss_cons (ps_if (PW.pt (pw_or (pt_not (pt_trA Like.refl pas_main (pe_biA (id := "isinstance") Like.refl pas_main (by rfl) (by decide +kernel) (pa_cons (pv 0) (pa_cons (pe_tup (pa_cons (pe_bvA (v := .ty "tuple") Like.refl (by rfl) (by decide +kernel) rfl) (pa_cons (pe_bvA (v := .ty "list") Like.refl (by rfl) (by decide +kernel) rfl) pa_nil))) pa_nil))))) (pw_or1 (pt_cmpA Like.refl pas_main (pe_biA (id := "isinstance") Like.refl pas_main (by rfl) (by decide +kernel) (pa_cons (pv 0) (pa_cons (pe_bvA (v := .ty "list") Like.refl (by rfl) (by decide +kernel) rfl) pa_nil))) (pe_biA (id := "isinstance") Like.refl pas_main (by rfl) (by decide +kernel) (pa_cons (pv 1) (pa_cons (pe_bvA (v := .ty "list") Like.refl (by rfl) (by decide +kernel) rfl) pa_nil))) (nomark _))))) (pss_one (ps_ret (pe_bl))) pss_nil)
    (pss_cons (ps_if (pt_cmpA Like.refl pas_main (pe_biA (id := "len") Like.refl pas_main (by rfl) (by decide +kernel) (pa_cons (pv 0) pa_nil)) (pe_biA (id := "len") Like.refl pas_main (by rfl) (by decide +kernel) (pa_cons (pv 1) pa_nil)) (nomark _)) (pss_one (ps_ret (pe_bl))) pss_nil)
    (pss_one (ps_ret (pe_cmpA Like.refl pas_main (pe_lc (own := [("_law_k", 2)]) (g := gName 2) (tt := _) rfl sc__law_alike.nd (pi_range1 (by rfl) T.z_range (pa_cons (pe_biA (id := "len") Like.refl pas_main (by rfl) (by decide +kernel) (pa_cons (pv 1) pa_nil)) pa_nil)) (blkOk_by (own := [("_law_k", 2)]) (N := N__law_alike) (sc := defScope s__law_alike) (by decide +kernel)) (fun _ _ _ _ _ => (pg_name (i := 2) sc__law_alike.nd rfl (by first | exact Or.inl rfl | exact Or.inr rfl))) (fun _ _ _ _ _ => pts_one (pt_not (pt_trA ⟨rfl, rfl, rfl, rfl, rfl, rfl, rfl⟩ passL (pe_glA ⟨rfl, rfl, rfl, rfl, rfl, rfl, rfl⟩ passL (by rfl) (pa_cons (pe_ixA ⟨rfl, rfl, rfl, rfl, rfl, rfl, rfl⟩ passL (pv 0) (pv 2)) (pa_cons (pe_ixA ⟨rfl, rfl, rfl, rfl, rfl, rfl, rfl⟩ passL (pv 1) (pv 2)) pa_nil)))))) (fun _ _ _ _ _ => (pv 2))) (pe_lst pa_nil) (nomark _)))))) pss_nil)
    (pss_cons (ps_if (PW.pt (pw_or (pt_cmpA Like.refl pas_main (pv 1) (pe_non) (nomark _)) (pw_or1 (pt_trA Like.refl pas_main (pe_biA (id := "isinstance") Like.refl pas_main (by rfl) (by decide +kernel) (pa_cons (pv 1) (pa_cons (pe_bvA (v := .ty "str") Like.refl (by rfl) (by decide +kernel) rfl) pa_nil))))))) (pss_one (ps_ret (pe_and (pe_cmpA Like.refl pas_main (pv 0) (pv 1) (nomark _)) (pe_one (pe_cmpA Like.refl pas_main (pe_biA (id := "isinstance") Like.refl pas_main (by rfl) (by decide +kernel) (pa_cons (pv 0) (pa_cons (pe_bvA (v := .ty "str") Like.refl (by rfl) (by decide +kernel) rfl) pa_nil))) (pe_biA (id := "isinstance") Like.refl pas_main (by rfl) (by decide +kernel) (pa_cons (pv 1) (pa_cons (pe_bvA (v := .ty "str") Like.refl (by rfl) (by decide +kernel) rfl) pa_nil))) (nomark _)))))) pss_nil)
    (pss_one (ps_ret (pe_and (pe_biA (id := "isinstance") Like.refl pas_main (by rfl) (by decide +kernel) (pa_cons (pv 0) (pa_cons (pe_bvA (v := .ty "int") Like.refl (by rfl) (by decide +kernel) rfl) pa_nil))) (pe_and (pe_cmpA Like.refl pas_main (pe_biA (id := "isinstance") Like.refl pas_main (by rfl) (by decide +kernel) (pa_cons (pv 0) (pa_cons (pe_bvA (v := .ty "bool") Like.refl (by rfl) (by decide +kernel) rfl) pa_nil))) (pe_biA (id := "isinstance") Like.refl pas_main (by rfl) (by decide +kernel) (pa_cons (pv 1) (pa_cons (pe_bvA (v := .ty "bool") Like.refl (by rfl) (by decide +kernel) rfl) pa_nil))) (nomark _)) (pe_one (pe_cmpA Like.refl pas_main (pv 0) (pv 1) (nomark _)))))))))), ?_⟩
    walk_at "go"
    refine s_isiD he (kit_D e (dp_nd he)) ?_
    walk_at "go"
    refine ⟨by show 2 ≤ sizeLine; decide, fun tp htp => ?_⟩
    have s1 := same_new (o := .tup [.ty "tuple", .ty "list"]) htp
    have hd1 := dp_same s1 hd
    have he1 := dp_same s1 he
    walk_at "go"
    refine s_isiTL he1 upd_same (kit_TL e (dp_nd he)) ?_
    walk_at "go"
    cases te : isTL e with
    | true =>
      walk_at "go"
      refine ⟨by show 2 ≤ sizeLine; decide, fun tq htq => ?_⟩
      have s2 := same_new (o := .tup [.ty "tuple", .ty "list"]) htq
      have hd2 := dp_same s2 hd1
      have he2 := dp_same s2 he1
      walk_at "go"
      refine s_isiTL hd2 upd_same (kit_TL d (dp_nd hd)) ?_
      walk_at "go"
      cases td : isTL d with
      | false =>
        walk_at "go"
        exact q false _ (s1.trans s2) ⟨fun z => (nomatch z), fun z => by rw [z, te] at td; cases td⟩
      | true =>
        walk_at "go"
        refine s_isiD hd2 (kit_L d (dp_nd hd)) ?_
        walk_at "go"
        refine s_isiD he2 (kit_L e (dp_nd he)) ?_
        walk_at "go"
        refine ite_n (fun hl => ?_) (fun hl => ?_)
        · walk_at "go"
          exact q false _ (s1.trans s2) ⟨fun z => (nomatch z), fun z => absurd (by rw [z]) hl⟩
        · obtain ⟨p, xs, rfl, hx, px⟩ := isTL_parts hd2 td
          obtain ⟨p2, ys, rfl, hy, py⟩ := isTL_parts he2 te
          obtain ⟨m, em, lx, ox⟩ := okN_parts od td
          obtain ⟨m2, em2, ly, oy⟩ := okN_parts oe te
          obtain rfl : m = m2 := by omega
          have elx := dpAll_len px
          have ely := dpAll_len py
          walk_at "go"
          refine s_lenS hx ?_
          walk_at "go"
          refine s_lenS hy ?_
          walk_at "go"
          refine ite_n (fun hn => ?_) (fun hn => ?_)
          · walk_at "go"
            exact q false _ (s1.trans s2) ⟨fun z => (nomatch z), fun z => absurd (by rw [elx, ely, z]) hn⟩
          · have hxy : xs.length = ys.length := by omega
            walk_at "go"
            refine c_rng (n := ys.length) (fun k => ((List.range k).filter fun i => !decide ((parts d)[i]? = (parts e)[i]?)).map fun i => V.int (i : Nat)) rfl (by omega) (fun k hk => ?_) (fun _ => rfl) (fun k H' hk s3 => ?_) (fun r H' hr0 s3 hL => ?_) (fun R k => ?_)
            · rw [List.length_map]
              have := List.length_filter_le (fun i => !decide ((parts d)[i]? = (parts e)[i]?)) (List.range k)
              rw [List.length_range] at this
              omega
            · obtain ⟨dk, ek⟩ : ∃ dk, (parts d)[k]? = some dk := ⟨_, List.getElem?_eq_getElem (by omega)⟩
              obtain ⟨de, ee⟩ : ∃ de, (parts e)[k]? = some de := ⟨_, List.getElem?_eq_getElem (by omega)⟩
              obtain ⟨vk, evk, dvk⟩ := dpAll_get px ek
              obtain ⟨ve, eve, dve⟩ := dpAll_get py ee
              have eo : (((List.range (k + 1)).filter fun i => !decide ((parts d)[i]? = (parts e)[i]?)).map fun i => V.int (i : Nat)) =
                  if (!decide (dk = de)) = true then (((List.range k).filter fun i => !decide ((parts d)[i]? = (parts e)[i]?)).map fun i => V.int (i : Nat)) ++ [V.int (k : Nat)] else (((List.range k).filter fun i => !decide ((parts d)[i]? = (parts e)[i]?)).map fun i => V.int (i : Nat)) := by
                rw [List.range_succ, List.filter_append, List.map_append]
                simp only [List.filter_cons, List.filter_nil, ek, ee, Option.some.injEq]
                split <;> simp
              show Turn1 _ _ _ _ (((List.range k).filter fun i => !decide ((parts d)[i]? = (parts e)[i]?)).map fun i => V.int (i : Nat)) (((List.range (k + 1)).filter fun i => !decide ((parts d)[i]? = (parts e)[i]?)).map fun i => V.int (i : Nat))
              rw [eo]
              refine turn1_filter (fun R hR => ?_) (fun _ H3 _ R hR => ?_)
              · refine w_not (w_tr (w_gl T.g__law_alike (Fun.kp F) ?_))
                walk_at "go"
                refine s_ixS (sqS_same s3 hx) (at_of (j := k) (by omega) evk) ?_
                walk_at "go"
                refine s_ixS (sqS_same s3 hy) (at_of (j := k) (by omega) eve) ?_
                walk_at "go"
                refine s_fn (ih m em) (by rw [em] at hr; exact hr) ⟨vk, ve, dk, de, rfl, dp_same s3 dvk, dp_same s3 dve, ox _ (List.mem_of_getElem? ek), oy _ (List.mem_of_getElem? ee), fun b H4 s4 hb => ?_⟩
                walk_at "go"
                rw [show b = decide (dk = de) from by rw [Bool.eq_iff_iff, hb, decide_eq_true_iff]]
                exact hR _ s4
              · walk_at "go"
                exact hR _ (Same.refl _)
            · walk_at "go"
              refine ⟨by show 0 ≤ sizeLine; decide, fun u hu => ?_⟩
              have hL' : (upd H' u (.lst [])) r = some (.lst ((((List.range ys.length).filter fun i => !decide ((parts d)[i]? = (parts e)[i]?)).map fun i : Nat => (i : Int)).map V.int)) := by
                rw [upd_ne (ne_of_none hL hu), hL, List.map_map]
                rfl
              refine s_eqLsts (ds := []) hr' (SqL.of hL') (SqL.of upd_same) (q _ _ (((s1.trans s2).trans s3).trans (same_new hu)) ?_)
              rw [decide_eq_true_iff, List.map_eq_nil_iff, List.filter_eq_nil_iff, eq_parts td te hl, list_ext_get (xs := parts d) (ys := parts e) (by omega)]
              constructor
              · intro g i dx ey h1 h2
                have := g i (by rw [List.mem_range]; have := (List.getElem?_eq_some_iff.1 h2).1; omega)
                rw [h1, h2] at this
                simpa using this
              · intro g i hi
                rw [List.mem_range] at hi
                have e1 := List.getElem?_eq_getElem (show i < (parts d).length by omega)
                have e2 := List.getElem?_eq_getElem (show i < (parts e).length by omega)
                rw [e1, e2, g i _ _ e1 e2]
                simp
            · walk_at "go"
              exact s_lenS hy k
    | false =>
      walk_at "go"
      refine s_isN ?_
      walk_at "go"
      by_cases hN : y = .non
      · subst hN
        rw [decide_eq_true rfl]
        obtain rfl : e = .none := by cases he1; rfl
        walk_at "go"
        refine s_eqD hr' hd1 he1 (okN_shaped od (by omega)) (okN_shaped oe (by omega)) ?_
        walk_at "go"
        cases hq : PyData.eqv d .none with
        | false =>
          walk_at "go"
          exact q false _ s1 ⟨fun z => (nomatch z), fun z => by rw [z] at hq; simp [PyData.eqv] at hq⟩
        | true =>
          obtain rfl : d = .none := by cases d <;> simp_all [PyData.eqv]
          walk_at "go"
          refine s_isiD hd1 (kit_S _ (dp_nd hd)) ?_
          walk_at "go"
          refine s_isiD he1 (kit_S _ (dp_nd he)) ?_
          walk_at "go"
          rw [decide_eq_true rfl]
          exact q true _ s1 ⟨fun _ => rfl, fun _ => rfl⟩
      · rw [decide_eq_false hN]
        have eN : e ≠ .none := fun z => by
          subst z
          cases he1
          exact hN rfl
        walk_at "go"
        refine s_isiD he1 (kit_S e (dp_nd he)) ?_
        walk_at "go"
        cases hS : isS e with
        | true =>
          walk_at "go"
          refine s_eqD hr' hd1 he1 (okN_shaped od (by omega)) (okN_shaped oe (by omega)) ?_
          walk_at "go"
          obtain ⟨z, rfl⟩ : ∃ z, e = .str z := by cases e <;> simp_all [isS]
          cases hq : PyData.eqv d (.str z) with
          | false =>
            walk_at "go"
            exact q false _ s1 ⟨fun z => (nomatch z), fun z => by rw [z] at hq; simp [PyData.eqv] at hq⟩
          | true =>
            obtain rfl : d = .str z := by cases d <;> simp_all [PyData.eqv]
            walk_at "go"
            refine s_isiD hd1 (kit_S _ (dp_nd hd)) ?_
            walk_at "go"
            refine s_isiD he1 (kit_S _ (dp_nd he)) ?_
            walk_at "go"
            rw [decide_eq_true rfl]
            exact q true _ s1 ⟨fun _ => rfl, fun _ => rfl⟩
        | false =>
          have eI : isI e = true := by cases e <;> simp_all [isS, isI, isTL]; exact absurd rfl (dp_nd he _)
          walk_at "go"
          refine s_isiD hd1 (kit_I d (dp_nd hd)) ?_
          walk_at "go"
          cases dI : isI d with
          | false =>
            walk_at "go"
            exact q false _ s1 ⟨fun z => (nomatch z), fun z => by rw [z, eI] at dI; cases dI⟩
          | true =>
            walk_at "go"
            refine s_isiD hd1 (kit_B d (dp_nd hd)) ?_
            walk_at "go"
            refine s_isiD he1 (kit_B e (dp_nd he)) ?_
            walk_at "go"
            by_cases hB : isB d = isB e
            · rw [decide_eq_true hB]
              walk_at "go"
              refine s_eqD hr' hd1 he1 (okN_shaped od (by omega)) (okN_shaped oe (by omega)) ?_
              exact q _ _ s1 (eqv_leaf te hB (by rw [dI, eI]) (dp_nd he))
            · rw [decide_eq_false hB]
              walk_at "go"
              exact q false _ s1 ⟨fun z => (nomatch z), fun z => absurd (by rw [z]) hB⟩
theorem ok_alike (T : Facts K mg a) : ∀ n : Nat, n ≤ 20 → FnR P w K mg base (L2.CX P w) (n + 1) a.f__law_alike (spAlike K n) := by
  intro n
  induction n with
  | zero => exact fun h => ok_alike_at T 0 h fun m e => nomatch e
  | succ n ih =>
    intro h
    refine ok_alike_at T (n + 1) h fun m e => ?_
    obtain rfl : n = m := by omega
    exact ih (by omega)
end

section
theorem sum_zip : ∀ (xs ys : List Int), xs.length = ys.length → (List.zipWith (· + ·) xs ys).sum = xs.sum + ys.sum
  | [], [], _ => rfl
  | x :: xs, y :: ys, h => by
    rw [List.zipWith_cons_cons, List.sum_cons, List.sum_cons, List.sum_cons, sum_zip xs ys (by simpa using h)]
    omega
  | [], _ :: _, h => by cases h
  | _ :: _, [], h => by cases h
theorem sum_set : ∀ (xs : List Int) (i : Nat) (v : Int), i < xs.length → (xs.set i v).sum = xs.sum + v - xs.getD i 0
  | [], i, v, h => by cases h
  | x :: xs, 0, v, _ => by
    show (v :: xs).sum = (x :: xs).sum + v - x
    rw [List.sum_cons, List.sum_cons]
    omega
  | x :: xs, i + 1, v, h => by
    show (x :: xs.set i v).sum = (x :: xs).sum + v - xs.getD i 0
    rw [List.sum_cons, List.sum_cons, sum_set xs i v (by simpa using h)]
    omega
theorem sum_bumps (c : List Int) : ∀ (k : Nat) (ps : List Int), ps.length = k → (∀ s ∈ ps, 0 ≤ s ∧ s < (c.length : Int)) → (bumps c ps).sum = c.sum + (k : Int)
  | 0, ps, h, _ => by rw [List.length_eq_zero_iff.1 h]; show c.sum = _; omega
  | k + 1, ps, h, hs => by
    obtain ⟨l, b, rfl⟩ : ∃ l b, ps = l ++ [b] := ⟨ps.dropLast, ps.getLast (by intro z; rw [z] at h; cases h), (List.dropLast_concat_getLast _).symm⟩
    rw [List.length_append, List.length_singleton] at h
    have ih := sum_bumps c k l (by omega) fun s hm => hs s (List.mem_append_left _ hm)
    have hb := hs b (List.mem_append_right _ (List.mem_singleton_self _))
    rw [bumps_snoc, sum_set _ _ _ (by rw [bumps_len]; omega), ih]
    omega
theorem base_get {n : Nat} {q : Int} {i : Nat} : ∀ (k : Nat) (ss : List Int), ss.length = k → (∀ s ∈ ss, 0 ≤ s ∧ s ≠ (i : Int)) → (baseC n q ss).getD i 0 = 0
  | 0, ss, h, _ => by
    rw [List.length_eq_zero_iff.1 h]
    show (List.replicate n (0 : Int)).getD i 0 = 0
    rw [List.getD_eq_getElem?_getD]
    by_cases hi : i < n
    · rw [List.getElem?_replicate, if_pos hi]; rfl
    · rw [List.getElem?_replicate, if_neg hi]; rfl
  | k + 1, ss, h, hs => by
    obtain ⟨l, b, rfl⟩ : ∃ l b, ss = l ++ [b] := ⟨ss.dropLast, ss.getLast (by intro z; rw [z] at h; cases h), (List.dropLast_concat_getLast _).symm⟩
    rw [List.length_append, List.length_singleton] at h
    have ih := base_get (n := n) (q := q) (i := i) k l (by omega) fun s hm => hs s (List.mem_append_left _ hm)
    have hb := hs b (List.mem_append_right _ (List.mem_singleton_self _))
    rw [baseC_snoc, List.getD_eq_getElem?_getD, List.getElem?_set_ne (by omega), ← List.getD_eq_getElem?_getD]
    exact ih
theorem asc_last : ∀ {l : List Int} {lo b : Int}, asc lo (l ++ [b]) = true → asc lo l = true ∧ ∀ s ∈ l, s < b
  | [], _, _, _ => ⟨rfl, fun s h => by simp at h⟩
  | x :: l, lo, b, h => by
    rw [List.cons_append] at h
    simp only [asc, Bool.and_eq_true, decide_eq_true_eq] at h ⊢
    obtain ⟨h1, h2⟩ := asc_last h.2
    refine ⟨⟨h.1, h1⟩, fun s hs => ?_⟩
    rcases List.mem_cons.1 hs with e | e
    · have := (asc_ge h.2 b (List.mem_append_right _ (List.mem_singleton_self _))).1
      omega
    · exact h2 s e
theorem sum_base {n : Nat} {q : Int} : ∀ (k : Nat) (ss : List Int), ss.length = k → asc 0 ss = true → (∀ s ∈ ss, s < (n : Int)) → (baseC n q ss).sum = q * (k : Int)
  | 0, ss, h, _, _ => by
    rw [List.length_eq_zero_iff.1 h]
    show (List.replicate n (0 : Int)).sum = _
    rw [List.sum_replicate_int]
    simp
  | k + 1, ss, h, ha, hs => by
    obtain ⟨l, b, rfl⟩ : ∃ l b, ss = l ++ [b] := ⟨ss.dropLast, ss.getLast (by intro z; rw [z] at h; cases h), (List.dropLast_concat_getLast _).symm⟩
    rw [List.length_append, List.length_singleton] at h
    obtain ⟨ha1, ha2⟩ := asc_last ha
    have ih := sum_base (n := n) (q := q) k l (by omega) ha1 fun s hm => hs s (List.mem_append_left _ hm)
    have hb := hs b (List.mem_append_right _ (List.mem_singleton_self _))
    have hb0 := (asc_ge ha b (List.mem_append_right _ (List.mem_singleton_self _))).1
    rw [baseC_snoc, sum_set _ _ _ (by rw [baseC_len]; omega), ih, base_get l.length l rfl fun s hm => ⟨(asc_ge ha1 s hm).1, by have := ha2 s hm; omega⟩]
    rw [show ((k + 1 : Nat) : Int) = (k : Int) + 1 by omega, Int.mul_add]
    omega
/-- a bill's shares come to its amount -/
theorem sum_split {n : Nat} {m : Int} {b : Int × List Int} (ok : OkBill b) (hs : ∀ s ∈ b.2, s < (n : Int)) : (splitC n m b).sum = b.1 := by
  have hpos := List.length_pos_iff.2 ok.2.2.2
  have h0 : 0 ≤ b.1 % (b.2.length : Nat) := Int.emod_nonneg _ (by omega)
  have h1 : b.1 % (b.2.length : Nat) < (b.2.length : Nat) := Int.emod_lt_of_pos _ (by omega)
  have hp : (payers m b).length = (b.1 % (b.2.length : Nat)).toNat := by
    unfold payers
    rw [List.length_take, filt_len]
    omega
  have hr : ∀ s ∈ payers m b, 0 ≤ s ∧ s < ((baseC n (b.1 / (b.2.length : Nat)) b.2).length : Int) := fun s hm => by
    rw [baseC_len]
    have h3 := List.mem_of_mem_take hm
    rcases List.mem_append.1 h3 with h4 | h4
    · exact ⟨(asc_ge ok.2.2.1 s (List.mem_filter.1 h4).1).1, hs s (List.mem_filter.1 h4).1⟩
    · exact ⟨(asc_ge ok.2.2.1 s (List.mem_filter.1 h4).1).1, hs s (List.mem_filter.1 h4).1⟩
  unfold splitC
  rw [sum_bumps _ _ _ hp hr, sum_base b.2.length b.2 rfl ok.2.2.1 hs]
  have := Int.mul_ediv_add_emod b.1 (b.2.length : Nat)
  rw [Int.mul_comm] at this
  omega
theorem sum_run (n : Nat) (m : Int) : ∀ (k : Nat) (rows : List (Int × List Int)), rows.length = k → (∀ b ∈ rows, OkBill b ∧ ∀ s ∈ b.2, s < (n : Int)) → (evRun n m rows).1.sum = (rows.map Prod.fst).sum
  | 0, rows, h, _ => by
    rw [List.length_eq_zero_iff.1 h]
    show (List.replicate n (0 : Int)).sum = 0
    rw [List.sum_replicate_int]
    simp
  | k + 1, rows, h, hs => by
    obtain ⟨l, b, rfl⟩ : ∃ l b, rows = l ++ [b] := ⟨rows.dropLast, rows.getLast (by intro z; rw [z] at h; cases h), (List.dropLast_concat_getLast _).symm⟩
    rw [List.length_append, List.length_singleton] at h
    have ih := sum_run n m k l (by omega) fun c hc => hs c (List.mem_append_left _ hc)
    obtain ⟨o1, o2⟩ := hs b (List.mem_append_right _ (List.mem_singleton_self _))
    rw [evRun_snoc, sum_zip _ _ (by rw [evRun_len, splitC_len]), ih, sum_split o1 o2, List.map_append, List.sum_append]
    simp
end

theorem evRun_range {n : Nat} {bs : List (Int × List Int)} (hb : ∀ b ∈ bs, OkBill b ∧ ∀ s ∈ b.2, s < (n : Int)) {m : Int} (h0 : 0 ≤ m) (h1 : m < (n : Int)) : ∀ k, 0 ≤ (evRun n m (bs.take k)).2 ∧ (evRun n m (bs.take k)).2 < (n : Int)
  | 0 => by rw [List.take_zero]; exact ⟨h0, h1⟩
  | k + 1 => by
    rw [List.take_add_one]
    cases e : bs[k]? with
    | none => rw [Option.toList, List.append_nil]; exact evRun_range hb h0 h1 k
    | some b =>
      obtain ⟨a0, a1⟩ := evRun_range hb h0 h1 k
      obtain ⟨o1, o2⟩ := hb b (List.mem_of_getElem? e)
      show 0 ≤ (evRun n m (bs.take k ++ [b])).2 ∧ (evRun n m (bs.take k ++ [b])).2 < (n : Int)
      rw [evRun_snoc]
      exact splitM_range o1 o2 a0 a1

section
def evenOf (s : Int) (bs : List (Int × List Int)) : Int := ((bs.filter fun b : Int × List Int => decide (s ∈ b.2)).map fun b : Int × List Int => b.1 / ((b.2.length : Nat) : Int)).sum
def oddOf (s : Int) (bs : List (Int × List Int)) : Nat := (bs.filter fun b : Int × List Int => decide (s ∈ b.2) && decide (b.1 % ((b.2.length : Nat) : Int) > 0)).length
theorem base_in {n : Nat} {q : Int} {i : Nat} (hi : i < n) : ∀ (k : Nat) (ss : List Int), ss.length = k → asc 0 ss = true → (i : Int) ∈ ss → (baseC n q ss).getD i 0 = q
  | 0, ss, h, _, hm => by rw [List.length_eq_zero_iff.1 h] at hm; simp at hm
  | k + 1, ss, h, ha, hm => by
    obtain ⟨l, b, rfl⟩ : ∃ l b, ss = l ++ [b] := ⟨ss.dropLast, ss.getLast (by intro z; rw [z] at h; cases h), (List.dropLast_concat_getLast _).symm⟩
    rw [List.length_append, List.length_singleton] at h
    obtain ⟨ha1, ha2⟩ := asc_last ha
    have hb0 := (asc_ge ha b (List.mem_append_right _ (List.mem_singleton_self _))).1
    rw [baseC_snoc, List.getD_eq_getElem?_getD]
    by_cases e : b = (i : Int)
    · rw [show b.toNat = i by omega, List.getElem?_set_self (by rw [baseC_len]; exact hi)]
      rfl
    · rw [List.getElem?_set_ne (by omega), ← List.getD_eq_getElem?_getD]
      refine base_in hi k l (by omega) ha1 ?_
      rcases List.mem_append.1 hm with z | z
      · exact z
      · exact absurd (List.mem_singleton.1 z).symm e
theorem bumps_get {c : List Int} {i : Nat} (hi : i < c.length) : ∀ (k : Nat) (ps : List Int), ps.length = k → (∀ s ∈ ps, 0 ≤ s) → (bumps c ps).getD i 0 = c.getD i 0 + ((ps.filter fun s => decide (s = (i : Int))).length : Nat)
  | 0, ps, h, _ => by rw [List.length_eq_zero_iff.1 h]; show c.getD i 0 = c.getD i 0 + ((0 : Nat) : Int); omega
  | k + 1, ps, h, hs => by
    obtain ⟨l, b, rfl⟩ : ∃ l b, ps = l ++ [b] := ⟨ps.dropLast, ps.getLast (by intro z; rw [z] at h; cases h), (List.dropLast_concat_getLast _).symm⟩
    rw [List.length_append, List.length_singleton] at h
    have ih := bumps_get hi k l (by omega) fun s hm => hs s (List.mem_append_left _ hm)
    have hb := hs b (List.mem_append_right _ (List.mem_singleton_self _))
    rw [bumps_snoc, List.filter_append, List.length_append, List.getD_eq_getElem?_getD]
    by_cases e : b = (i : Int)
    · have l1 : (List.filter (fun s => decide (s = (i : Int))) [b]).length = 1 := by rw [List.filter_cons, if_pos (decide_eq_true e)]; rfl
      rw [l1, show b.toNat = i by omega, List.getElem?_set_self (by rw [bumps_len]; exact hi)]
      show (bumps c l).getD i 0 + 1 = _
      omega
    · have l0 : (List.filter (fun s => decide (s = (i : Int))) [b]).length = 0 := by rw [List.filter_cons, if_neg (by rw [decide_eq_true_eq]; exact e)]; rfl
      rw [l0, List.getElem?_set_ne (by omega), ← List.getD_eq_getElem?_getD]
      omega
theorem asc_one : ∀ {ss : List Int} {lo : Int} (i : Int), asc lo ss = true → (ss.filter fun s => decide (s = i)).length ≤ 1
  | [], _, _, _ => by show 0 ≤ 1; omega
  | x :: ss, lo, i, h => by
    simp only [asc, Bool.and_eq_true, decide_eq_true_eq] at h
    rw [List.filter_cons]
    by_cases e : x = i
    · rw [if_pos (decide_eq_true e)]
      have z : ss.filter (fun s => decide (s = i)) = [] := by
        rw [List.filter_eq_nil_iff]
        intro y hy
        have := (asc_ge h.2 y hy).1
        rw [decide_eq_true_eq]
        omega
      rw [z]
      show 1 ≤ 1
      omega
    · rw [if_neg (by rw [decide_eq_true_eq]; exact e)]
      exact asc_one i h.2
theorem filt_two (f g : Int → Bool) : ∀ ss : List Int, ((ss.filter f).filter g).length + ((ss.filter fun s => !f s).filter g).length = (ss.filter g).length
  | [] => rfl
  | x :: ss => by
    have ih := filt_two f g ss
    cases hf : f x <;> cases hg : g x <;> simp only [List.filter_cons, hf, hg, Bool.not_true, Bool.not_false, if_true, Bool.false_eq_true, if_false, List.length_cons] <;> omega
theorem behind_one {m i : Int} {ss : List Int} (h : asc 0 ss = true) : ((behind m ss).filter fun s => decide (s = i)).length ≤ 1 := by
  unfold behind
  have e : ss.filter (fun s => decide (s ≤ m)) = ss.filter fun s => !decide (m < s) := List.filter_congr fun x _ => by
    by_cases z : m < x
    · rw [decide_eq_true z, decide_eq_false (by omega)]; rfl
    · rw [decide_eq_false z, decide_eq_true (by omega)]; rfl
  rw [List.filter_append, List.length_append, e, filt_two]
  exact asc_one i h
theorem splitC_near {n : Nat} {m : Int} {b : Int × List Int} {i : Nat} (hi : i < n) (ok : OkBill b) : (if (i : Int) ∈ b.2 then b.1 / (b.2.length : Nat) else 0) ≤ (splitC n m b).getD i 0 ∧
    (splitC n m b).getD i 0 ≤ (if (i : Int) ∈ b.2 then b.1 / (b.2.length : Nat) else 0) + (if (i : Int) ∈ b.2 ∧ b.1 % (b.2.length : Nat) > 0 then 1 else 0) := by
  have hin : ∀ s ∈ payers m b, s ∈ b.2 := fun s hm => by
    rcases List.mem_append.1 (List.mem_of_mem_take hm) with h4 | h4
    · exact (List.mem_filter.1 h4).1
    · exact (List.mem_filter.1 h4).1
  have hg := bumps_get (c := baseC n (b.1 / (b.2.length : Nat)) b.2) (i := i) (by rw [baseC_len]; exact hi) _ (payers m b) rfl fun s hm => (asc_ge ok.2.2.1 s (hin s hm)).1
  have hle : ((payers m b).filter fun s => decide (s = (i : Int))).length ≤ 1 := Nat.le_trans (((List.take_sublist _ _).filter _).length_le) (behind_one ok.2.2.1)
  show _ ≤ (bumps _ _).getD i 0 ∧ (bumps _ _).getD i 0 ≤ _
  rw [hg]
  by_cases hm : (i : Int) ∈ b.2
  · rw [if_pos hm, base_in hi _ _ rfl ok.2.2.1 hm]
    by_cases ho : b.1 % (b.2.length : Nat) > 0
    · rw [if_pos ⟨hm, ho⟩]
      omega
    · rw [if_neg fun z => ho z.2]
      have z : payers m b = [] := by
        unfold payers
        rw [show (b.1 % (b.2.length : Nat)).toNat = 0 by omega, List.take_zero]
      rw [z]
      show _ ≤ _ + ((0 : Nat) : Int) ∧ _ + ((0 : Nat) : Int) ≤ _
      omega
  · rw [if_neg hm, if_neg fun z => hm z.1, base_get _ _ rfl fun s hs => ⟨(asc_ge ok.2.2.1 s hs).1, fun z => hm (by rw [← z]; exact hs)⟩]
    have z : (payers m b).filter (fun s => decide (s = (i : Int))) = [] := by
      rw [List.filter_eq_nil_iff]
      intro y hy
      rw [decide_eq_true_eq]
      intro e
      exact hm (by rw [← e]; exact hin y hy)
    rw [z]
    exact ⟨Int.le_refl _, Int.le_refl _⟩
theorem run_near {n : Nat} {m : Int} {i : Nat} (hi : i < n) : ∀ (j : Nat) (bs : List (Int × List Int)), bs.length = j → (∀ b ∈ bs, OkBill b) → evenOf (i : Int) bs ≤ (evRun n m bs).1.getD i 0 ∧ (evRun n m bs).1.getD i 0 ≤ evenOf (i : Int) bs + (oddOf (i : Int) bs : Nat)
  | 0, bs, h, _ => by
    rw [List.length_eq_zero_iff.1 h]
    have e : (evRun n m []).1.getD i 0 = 0 := by
      show (List.replicate n (0 : Int)).getD i 0 = 0
      rw [List.getD_eq_getElem?_getD, List.getElem?_replicate, if_pos hi]
      rfl
    rw [e]
    exact ⟨Int.le_refl _, by show (0 : Int) ≤ 0 + ((0 : Nat) : Int); omega⟩
  | j + 1, bs, h, hb => by
    obtain ⟨l, b, rfl⟩ : ∃ l b, bs = l ++ [b] := ⟨bs.dropLast, bs.getLast (by intro z; rw [z] at h; cases h), (List.dropLast_concat_getLast _).symm⟩
    rw [List.length_append, List.length_singleton] at h
    obtain ⟨i1, i2⟩ := run_near (m := m) hi j l (by omega) fun c hc => hb c (List.mem_append_left _ hc)
    obtain ⟨s1, s2⟩ := splitC_near (m := (evRun n m l).2) hi (hb b (List.mem_append_right _ (List.mem_singleton_self _)))
    have e1 : evenOf (i : Int) (l ++ [b]) = evenOf (i : Int) l + (if (i : Int) ∈ b.2 then b.1 / (b.2.length : Nat) else 0) := by
      unfold evenOf
      rw [List.filter_append, List.map_append, List.sum_append, List.filter_cons]
      by_cases hm : (i : Int) ∈ b.2
      · rw [if_pos hm, if_pos (decide_eq_true hm)]; simp
      · rw [if_neg hm, if_neg (by rw [decide_eq_true_eq]; exact hm)]; simp
    have e2 : ((oddOf (i : Int) (l ++ [b]) : Nat) : Int) = (oddOf (i : Int) l : Nat) + (if (i : Int) ∈ b.2 ∧ b.1 % (b.2.length : Nat) > 0 then 1 else 0) := by
      unfold oddOf
      rw [List.filter_append, List.length_append, List.filter_cons]
      by_cases hm : (i : Int) ∈ b.2 ∧ b.1 % (b.2.length : Nat) > 0
      · rw [if_pos hm, if_pos (by rw [decide_eq_true hm.1, decide_eq_true hm.2]; rfl)]; simp
      · rw [if_neg hm, if_neg (by rw [Bool.and_eq_true, decide_eq_true_eq, decide_eq_true_eq]; exact hm)]; simp
    have e3 : (evRun n m (l ++ [b])).1.getD i 0 = (evRun n m l).1.getD i 0 + (splitC n (evRun n m l).2 b).getD i 0 := by
      rw [evRun_snoc]
      show (List.zipWith (· + ·) (evRun n m l).1 (splitC n (evRun n m l).2 b)).getD i 0 = _
      have a1 : i < (evRun n m l).1.length := by rw [evRun_len]; exact hi
      have a2 : i < (splitC n (evRun n m l).2 b).length := by rw [splitC_len]; exact hi
      rw [List.getD_eq_getElem?_getD, List.getD_eq_getElem?_getD, List.getD_eq_getElem?_getD, List.getElem?_zipWith, List.getElem?_eq_getElem a1, List.getElem?_eq_getElem a2]
      rfl
    rw [e1, e2, e3]
    omega
theorem even_up (s : Int) : ∀ bs : List (Int × List Int), (∀ b ∈ bs, OkBill b) → 0 ≤ evenOf s bs ∧ evenOf s bs ≤ (bs.length : Int) * 10 ^ 12
  | [], _ => ⟨Int.le_refl _, by show (0 : Int) ≤ ((0 : Nat) : Int) * 10 ^ 12; simp⟩
  | b :: bs, h => by
    obtain ⟨i1, i2⟩ := even_up s bs fun x hx => h x (List.mem_cons_of_mem _ hx)
    have hb := h b (List.mem_cons_self ..)
    have q0 : 0 ≤ b.1 / ((b.2.length : Nat) : Int) := Int.ediv_nonneg hb.1 (by omega)
    have q1 : b.1 / ((b.2.length : Nat) : Int) ≤ b.1 := Int.ediv_le_self _ hb.1
    have e12 : (10 : Int) ^ 12 = 1000000000000 := by decide
    have q2 := hb.2.1
    rw [e12] at *
    have e : evenOf s (b :: bs) = (if s ∈ b.2 then b.1 / ((b.2.length : Nat) : Int) else 0) + evenOf s bs := by
      unfold evenOf
      rw [List.filter_cons]
      by_cases hm : s ∈ b.2
      · rw [if_pos hm, if_pos (decide_eq_true hm), List.map_cons, List.sum_cons]
      · rw [if_neg hm, if_neg (by rw [decide_eq_true_eq]; exact hm)]; omega
    rw [e, List.length_cons]
    constructor
    · split <;> omega
    · split <;> omega
theorem odd_up (s : Int) (bs : List (Int × List Int)) : oddOf s bs ≤ bs.length := List.length_filter_le _ _
/-- what is paid at an evening is far below a million million units -/
theorem run_up {n : Nat} {m : Int} {bs : List (Int × List Int)} (hb : ∀ b ∈ bs, OkBill b) (hl : bs.length ≤ 30) : ∀ c ∈ (evRun n m bs).1, 0 ≤ c ∧ c < 10 ^ 15 := by
  intro c hc
  obtain ⟨i, hi, e⟩ := List.getElem_of_mem hc
  rw [evRun_len] at hi
  have h := run_near (m := m) hi _ bs rfl hb
  have ec : (evRun n m bs).1.getD i 0 = c := by rw [List.getD_eq_getElem?_getD, List.getElem?_eq_getElem (by rw [evRun_len]; exact hi), e]; rfl
  rw [ec] at h
  obtain ⟨a1, a2⟩ := even_up (i : Int) bs hb
  have a3 := odd_up (i : Int) bs
  have e12 : (10 : Int) ^ 12 = 1000000000000 := by decide
  have e15 : (10 : Int) ^ 15 = 1000000000000000 := by decide
  rw [e12] at a2
  omega
end

end Odd

namespace Odd
open PySem PySem.Spec PyProof.Rows L2
/-! tactics of this text: st one step, go as many as go -/
local macro_rules | `(tactic| walk_at "ar") => `(tactic| first | assumption | omega | (show (_ : Int) < _; omega) | decide)
local macro_rules | `(tactic| walk_at "st") => `(tactic| first
  | with_reducible refine' w_seq ?_
  | with_reducible refine' w_asg ?_
  | with_reducible refine' w_name ?_
  | with_reducible refine' w_c ?_
  | with_reducible refine' w_op ?_
  | with_reducible refine' w_ix ?_
  | with_reducible refine' w_at ?_
  | with_reducible refine' w_cons ?_
  | with_reducible refine' w_nil ?_
  | with_reducible refine' w_ret ?_
  | with_reducible refine' w_if ?_
  | with_reducible refine' w_test ?_
  | with_reducible refine' w_tr ?_
  | with_reducible refine' w_un ?_
  | with_reducible refine' w_andV ?_
  | with_reducible refine' w_orV ?_
  | with_reducible refine' w_notA ?_
  | with_reducible refine' w_ch ?_
  | with_reducible refine' w_and ?_
  | with_reducible refine' w_or ?_
  | with_reducible refine' w_not ?_
  | with_reducible refine' w_ifx ?_
  | with_reducible refine' w_tup ?_
  | with_reducible refine' w_lst ?_
  | with_reducible refine' w_next ?_
  | with_reducible refine' w_drop ?_
  | with_reducible refine' w_retN ?_
  | ((with_reducible refine' w_var ?h ?_); (case h => exact rfl))
  | ((with_reducible refine' w_bi ?h ?_); (case h => walk_at "mg"))
  | ((with_reducible refine' w_bv ?h ?_); (case h => walk_at "mg"))
  | ((with_reducible refine' w_gv ?h ?_); (case h => walk_at "mg"))
  | ((with_reducible refine' w_gl ?h ?k ?_); (case h => walk_at "mg"); (case k => walk_at "kp"))
  | ((with_reducible refine' w_glS ?h ?k ?_); (case h => walk_at "mg"); (case k => walk_at "kp"))
  | with_reducible refine' bl_ex ?_
  | with_reducible refine' iteT ?_
  | with_reducible refine' iteF ?_
  | with_reducible refine' ite_nf ?_
  | with_reducible refine' ite_nt ?_
  | with_reducible refine' s_add ?_
  | with_reducible refine' s_sub ?_
  | with_reducible refine' s_lt ?_
  | with_reducible refine' s_le ?_
  | with_reducible refine' s_gt ?_
  | with_reducible refine' s_ge ?_
  | with_reducible refine' s_eqI ?_
  | with_reducible refine' s_neI ?_
  | with_reducible refine' s_eqB ?_
  | with_reducible refine' s_neB ?_
  | with_reducible refine' s_truB ?_
  | with_reducible refine' s_truI ?_
  | with_reducible refine' s_neg ?_
  | ((with_reducible refine' s_mod ?h ?_); (case h => walk_at "ar")))
local macro_rules | `(tactic| walk_at "go") => `(tactic| repeat walk_at "st")

local macro_rules | `(tactic| walk_at "mg") => `(tactic| first | assumption | exact Facts.z_TypeError (by assumption) | exact Facts.z_bool (by assumption) | exact Facts.z_classmethod (by assumption) | exact Facts.z_dict (by assumption) | exact Facts.z_divmod (by assumption) | exact Facts.z_enumerate (by assumption) | exact Facts.z_int (by assumption) | exact Facts.z_isinstance (by assumption) | exact Facts.z_len (by assumption) | exact Facts.z_list (by assumption) | exact Facts.z_max (by assumption) | exact Facts.z_min (by assumption) | exact Facts.z_property (by assumption) | exact Facts.z_range (by assumption) | exact Facts.z_sorted (by assumption) | exact Facts.z_str (by assumption) | exact Facts.z_sum (by assumption) | exact Facts.z_super (by assumption) | exact Facts.z_tuple (by assumption) | exact Facts.z_zip (by assumption) | exact Facts.g__wall (by assumption) | exact Facts.g_is_between (by assumption) | exact Facts.g_is_digits (by assumption) | exact Facts.g_seats_of (by assumption) | exact Facts.g_check_amount (by assumption) | exact Facts.g_check_seats (by assumption) | exact Facts.g_check_seat_count (by assumption) | exact Facts.g_check_bills (by assumption) | exact Facts.g_check_mark (by assumption) | exact Facts.g_no_shares (by assumption) | exact Facts.g_seats_behind (by assumption) | exact Facts.g_split_bill (by assumption) | exact Facts.g_title_line (by assumption) | exact Facts.g_line_of (by assumption) | exact Facts.g_seat_line (by assumption) | exact Facts.g_receipt (by assumption) | exact Facts.g_cents_of_line (by assumption) | exact Facts.g_mark_of_line (by assumption) | exact Facts.g_parse_receipt (by assumption) | exact Facts.g_amount_bytes (by assumption) | exact Facts.g_checksum (by assumption) | exact Facts.g_encode_evening (by assumption) | exact Facts.g_byte_at (by assumption) | exact Facts.g_amount_at (by assumption) | exact Facts.g_decode_evening (by assumption) | exact Facts.g_row_of (by assumption) | exact Facts.g_format_evening (by assumption) | exact Facts.g_is_number (by assumption) | exact Facts.g_check_row (by assumption) | exact Facts.g_numbers_of_row (by assumption) | exact Facts.g_parse_evening (by assumption) | exact Facts.g__law_mix (by assumption) | exact Facts.g__law_next (by assumption) | exact Facts.g__law_alike (by assumption) | exact Facts.g__law_bill (by assumption) | exact Facts.g__law_bills (by assumption) | exact Facts.g__law_text (by assumption) | exact Facts.g__law_pay (by assumption) | exact Facts.g__law_paid (by assumption) | exact Facts.g__law_money (by assumption) | exact Facts.g__law_lines (by assumption) | exact Facts.g_law (by assumption) | exact Facts.g_Shares (by assumption) | exact Facts.g_Bill (by assumption) | exact Facts.g_Evening (by assumption))
local macro_rules | `(tactic| walk_at "kp") => `(tactic| first | assumption | exact (Facts.mk_Shares (by assumption)).kp | exact (Facts.mk_Bill (by assumption)).kp | exact (Facts.mk_Evening (by assumption)).kp | exact Fun.kp (Facts.u__wall (by assumption)).choose_spec | exact Fun.kp (Facts.u_is_between (by assumption)).choose_spec | exact Fun.kp (Facts.u_is_digits (by assumption)).choose_spec | exact Fun.kp (Facts.u_seats_of (by assumption)).choose_spec | exact Fun.kp (Facts.u_check_amount (by assumption)).choose_spec | exact Fun.kp (Facts.u_check_seats (by assumption)).choose_spec | exact Fun.kp (Facts.u_check_seat_count (by assumption)).choose_spec | exact Fun.kp (Facts.u_check_bills (by assumption)).choose_spec | exact Fun.kp (Facts.u_check_mark (by assumption)).choose_spec | exact Fun.kp (Facts.u_no_shares (by assumption)).choose_spec | exact Fun.kp (Facts.u_seats_behind (by assumption)).choose_spec | exact Fun.kp (Facts.u_split_bill (by assumption)).choose_spec | exact Fun.kp (Facts.u_title_line (by assumption)).choose_spec | exact Fun.kp (Facts.u_line_of (by assumption)).choose_spec | exact Fun.kp (Facts.u_seat_line (by assumption)).choose_spec | exact Fun.kp (Facts.u_receipt (by assumption)).choose_spec | exact Fun.kp (Facts.u_cents_of_line (by assumption)).choose_spec | exact Fun.kp (Facts.u_mark_of_line (by assumption)).choose_spec | exact Fun.kp (Facts.u_parse_receipt (by assumption)).choose_spec | exact Fun.kp (Facts.u_amount_bytes (by assumption)).choose_spec | exact Fun.kp (Facts.u_checksum (by assumption)).choose_spec | exact Fun.kp (Facts.u_encode_evening (by assumption)).choose_spec | exact Fun.kp (Facts.u_byte_at (by assumption)).choose_spec | exact Fun.kp (Facts.u_amount_at (by assumption)).choose_spec | exact Fun.kp (Facts.u_decode_evening (by assumption)).choose_spec | exact Fun.kp (Facts.u_row_of (by assumption)).choose_spec | exact Fun.kp (Facts.u_format_evening (by assumption)).choose_spec | exact Fun.kp (Facts.u_is_number (by assumption)).choose_spec | exact Fun.kp (Facts.u_check_row (by assumption)).choose_spec | exact Fun.kp (Facts.u_numbers_of_row (by assumption)).choose_spec | exact Fun.kp (Facts.u_parse_evening (by assumption)).choose_spec | exact Fun.kp (Facts.u__law_mix (by assumption)).choose_spec | exact Fun.kp (Facts.u__law_next (by assumption)).choose_spec | exact Fun.kp (Facts.u__law_alike (by assumption)).choose_spec | exact Fun.kp (Facts.u__law_bill (by assumption)).choose_spec | exact Fun.kp (Facts.u__law_bills (by assumption)).choose_spec | exact Fun.kp (Facts.u__law_text (by assumption)).choose_spec | exact Fun.kp (Facts.u__law_pay (by assumption)).choose_spec | exact Fun.kp (Facts.u__law_paid (by assumption)).choose_spec | exact Fun.kp (Facts.u__law_money (by assumption)).choose_spec | exact Fun.kp (Facts.u__law_lines (by assumption)).choose_spec | exact Fun.kp (Facts.u_law (by assumption)).choose_spec)
/-! ### receipts -/
section
variable {P : Program} {w : World} {K : PySem.W.Frag} {mg : Str → Option Value} {base : Heap} {a : Ad}
def CsOk (n : Nat) (cs : List Int) : Prop := cs.length = n ∧ ∀ c ∈ cs, 0 ≤ c ∧ c < 10 ^ 15
def recV (n : Nat) (cs : List Int) (m : Nat) : Str := Txt.join "\n" (linesV n cs (m : Nat))
theorem csNat {n : Nat} {cs : List Int} (h : CsOk n cs) {k : Nat} (hk : k < n) : ∃ c : Nat, cs[k]? = some (c : Int) ∧ cs.getD k 0 = (c : Int) ∧ c < 10 ^ 15 := by
  obtain ⟨c, ec⟩ : ∃ c, cs[k]? = some c := ⟨_, List.getElem?_eq_getElem (by rw [h.1]; exact hk)⟩
  have hc := h.2 c (List.mem_of_getElem? ec)
  obtain ⟨x, rfl⟩ := Int.eq_ofNat_of_zero_le hc.1
  have e : ((10 : Int) ^ 15) = ((10 ^ 15 : Nat) : Int) := by simp
  exact ⟨x, ec, by rw [List.getD_eq_getElem?_getD, ec]; rfl, by have := hc.2; rw [e] at this; exact Int.ofNat_lt.1 this⟩
theorem ttl_len {n : Nat} (h : n < 10) : (ttl n).length = 12 := by
  have e : (numS (n : Nat)).length = 1 := by rw [TL.len_tl, tl_numS (by omega), Int.toNat_natCast, TL.numL_lt h]; rfl
  unfold ttl
  rw [str_len_app, str_len_app, show (" table of " : Str).length = 10 from rfl, show (" " : Str).length = 1 from rfl, e]
theorem title_len {n : Nat} (h : n < 10) : (titleV n).length = 30 := by
  unfold titleV lft
  rw [str_len_app, str_len_app, ttl_len h, signs_len, signs_len]
  rfl
theorem mark_len {m : Nat} (h : m < 10) : (markV (m : Nat)).length = 30 := by
  have e : (numS (m : Nat)).length = 1 := by rw [TL.len_tl, tl_numS (by omega), Int.toNat_natCast, TL.numL_lt h]; rfl
  unfold markV
  rw [str_len_app, str_len_app, signs_len, e]
  rfl
theorem lines_len (n : Nat) (cs : List Int) (m : Int) : (linesV n cs m).length = n + 2 := by
  unfold linesV
  rw [List.length_append, List.length_cons, List.length_map, List.length_range]
  rfl
theorem lines_short {n : Nat} {cs : List Int} {m : Nat} (hn : n < 10) (hm : m < 10) (h : CsOk n cs) : ∀ x ∈ linesV n cs (m : Nat), x.length ≤ 60 := fun x hx => by
  unfold linesV at hx
  rcases List.mem_append.1 hx with z | z
  · rcases List.mem_cons.1 z with e | e
    · rw [e, title_len hn]; decide
    · obtain ⟨i, hi, rfl⟩ := List.mem_map.1 e
      have hi' := List.mem_range.1 hi
      obtain ⟨c, _, e2, hc⟩ := csNat h hi'
      rw [e2]
      exact line_short (by omega) hc
  · rw [List.mem_singleton.1 z, mark_len hm]; decide
theorem numS1 {n : Nat} (h : n < 10) : TL.tl (numS (n : Nat)) = [48 + n] := by rw [tl_numS (by omega), Int.toNat_natCast, TL.numL_lt h]
theorem lines_free {n : Nat} {cs : List Int} {m : Nat} (hn : n < 10) (hm : m < 10) (h : CsOk n cs) : ∀ x ∈ linesV n cs (m : Nat), 10 ∉ TL.tl x := fun x hx hk => by
  unfold linesV at hx
  have rep : ∀ (c k : Nat), 10 ∈ List.replicate k c → c = 10 := fun c k z => (List.eq_of_mem_replicate z).symm
  rcases List.mem_append.1 hx with z | z
  · rcases List.mem_cons.1 z with e | e
    · subst e
      unfold titleV ttl at hk
      rw [TL.tl_append, TL.tl_append, TL.tl_append, TL.tl_append, numS1 hn, tl_signs, tl_signs] at hk
      simp only [List.mem_append] at hk
      rcases hk with (hk | (hk | hk) | hk) | hk
      · exact absurd (rep _ _ hk) (by decide)
      · exact absurd hk (by decide)
      · simp only [List.mem_cons, List.not_mem_nil, or_false] at hk; omega
      · exact absurd hk (by decide)
      · exact absurd (rep _ _ hk) (by decide)
    · obtain ⟨i, hi, rfl⟩ := List.mem_map.1 e
      have hi' := List.mem_range.1 hi
      obtain ⟨c, _, e2, hc⟩ := csNat h hi'
      rw [e2, tl_lineV (by omega)] at hk
      simp only [List.mem_cons, List.mem_append] at hk
      rcases hk with hk | hk | hk | hk | hk | hk
      · omega
      · omega
      · omega
      · omega
      · exact absurd (rep _ _ hk) (by decide)
      · have := money_signs hc _ hk; omega
  · rw [List.mem_singleton.1 z] at hk
    unfold markV at hk
    rw [TL.tl_append, TL.tl_append, numS1 hm, tl_signs] at hk
    simp only [List.mem_append] at hk
    rcases hk with (hk | hk) | hk
    · exact absurd hk (by decide)
    · exact absurd (rep _ _ hk) (by decide)
    · simp only [List.mem_cons, List.not_mem_nil, or_false] at hk; omega
theorem lines_ascii {n : Nat} {cs : List Int} {m : Nat} (hn : n < 10) (hm : m < 10) (h : CsOk n cs) : ∀ x ∈ linesV n cs (m : Nat), ∀ k ∈ TL.tl x, k < 128 := fun x hx k hk => by
  unfold linesV at hx
  have rep : ∀ (c l : Nat), k ∈ List.replicate l c → k = c := fun c l z => List.eq_of_mem_replicate z
  have small : ∀ y : Str, y.cps.all (· < 128) = true → k ∈ TL.tl y → k < 128 := fun y hy z => by
    rw [← Array.all_toList, List.all_eq_true] at hy
    exact of_decide_eq_true (hy k z)
  rcases List.mem_append.1 hx with z | z
  · rcases List.mem_cons.1 z with e | e
    · subst e
      unfold titleV ttl at hk
      rw [TL.tl_append, TL.tl_append, TL.tl_append, TL.tl_append, numS1 hn, tl_signs, tl_signs] at hk
      simp only [List.mem_append] at hk
      rcases hk with (hk | (hk | hk) | hk) | hk
      · have := rep _ _ hk; omega
      · exact small _ (by decide +kernel) hk
      · simp only [List.mem_cons, List.not_mem_nil, or_false] at hk; omega
      · exact small _ (by decide +kernel) hk
      · have := rep _ _ hk; omega
    · obtain ⟨i, hi, rfl⟩ := List.mem_map.1 e
      have hi' := List.mem_range.1 hi
      obtain ⟨c, _, e2, hc⟩ := csNat h hi'
      rw [e2, tl_lineV (by omega)] at hk
      simp only [List.mem_cons, List.mem_append] at hk
      rcases hk with hk | hk | hk | hk | hk | hk
      · omega
      · omega
      · omega
      · omega
      · have := rep _ _ hk; omega
      · have := money_signs hc _ hk; omega
  · rw [List.mem_singleton.1 z] at hk
    unfold markV at hk
    rw [TL.tl_append, TL.tl_append, numS1 hm, tl_signs] at hk
    simp only [List.mem_append] at hk
    rcases hk with (hk | hk) | hk
    · exact small _ (by decide +kernel) hk
    · have := rep _ _ hk; omega
    · simp only [List.mem_cons, List.not_mem_nil, or_false] at hk; omega
theorem rec_split {n : Nat} {cs : List Int} {m : Nat} (hn : n < 10) (hm : m < 10) (h : CsOk n cs) : Txt.split (recV n cs m) "\n" = linesV n cs (m : Nat) :=
  TL.split_join tl_nl (by decide +kernel) (by unfold linesV; simp) (lines_free hn hm h)
theorem rec_sum {n : Nat} {cs : List Int} {m : Nat} (hn : n < 10) (hm : m < 10) (h : CsOk n cs) : ((linesV n cs (m : Nat)).map (·.length)).sum + (linesV n cs (m : Nat)).length * ("\n" : Str).length ≤ 700 := by
  have h1 := sum_le_of (fun x : Str => x.length) 60 (linesV n cs (m : Nat)) (lines_short hn hm h)
  rw [lines_len] at h1 ⊢
  rw [show ("\n" : Str).length = 1 from rfl]
  have : (n + 2) * 60 ≤ 11 * 60 := Nat.mul_le_mul_right _ (by omega)
  omega
theorem rec_len {n : Nat} {cs : List Int} {m : Nat} (hn : n < 10) (hm : m < 10) (h : CsOk n cs) : (recV n cs m).length ≤ 700 := by
  have h1 := rec_sum hn hm h
  unfold recV
  rw [TL.join_eq, TL.len_tl, TL.tl_join]
  refine Nat.le_trans (joinL_len _ _) ?_
  rw [List.map_map, List.length_map]
  have e : (List.map (List.length ∘ TL.tl) (linesV n cs (m : Nat))) = (linesV n cs (m : Nat)).map (·.length) := List.map_congr_left fun x _ => (TL.len_tl x).symm
  rw [e, ← TL.len_tl]
  exact h1
theorem mark_inj {m k : Nat} (hm : m < 10) (hk : k < 10) (h : markV (m : Nat) = markV (k : Nat)) : m = k := by
  have e := congrArg TL.tl h
  unfold markV at e
  rw [TL.tl_append, TL.tl_append ("mark" ++ signs 32 25) (numS (k : Nat)), numS1 hm, numS1 hk] at e
  have e2 := List.append_cancel_left e
  simp only [List.cons.injEq, and_true] at e2
  omega
def spMarkOf : Sp := fun vs H Q _ => ∃ m n : Nat, vs = [.str (markV (m : Nat)), .int n] ∧ m < n ∧ n < 10 ∧ ∀ H', Same H H' → Q (.int m) H'
theorem ok_mark_of_line (T : Facts K mg a) : FnR P w K mg base (L2.CX P w) 2 a.f_mark_of_line spMarkOf := by
  obtain ⟨fd, F⟩ := T.u_mark_of_line
  have GL : FnR P w K mg base (L2.CX P w) 1 a.f_line_of spLineOf := ok_line_of T
  refine fnr_ok F sc_mark_of_line (F.binds fun _ _ _ _ _ _ us hl => match us, hl with | [_, _], _ => rfl) (fun vs H Q E h => ?_) (fun cdv A outer s H vs Q E hr h => ?_)
  · obtain ⟨m, n, rfl, _⟩ := h
    rfl
  · obtain ⟨m, n, rfl, hm, hn, q⟩ := h
    refine ⟨_, (pss_cons (ps_for own_main rfl (pi_range1 (by rfl) T.z_range (pa_cons (pv 1) pa_nil)) (pg_name (i := 2) sc_mark_of_line.nd rfl (Or.inl rfl)) (pss_one (ps_if (pt_cmpA Like.refl pas_main (pv 0) (pe_glA Like.refl pas_main (by rfl) (pa_cons (pe_str) (pa_cons (pv 2) pa_nil))) (nomark _)) (pss_one (ps_ret (pv 2))) pss_nil)))
    (pss_one (ps_never))), ?_⟩
    walk_at "go"
    refine f_rng (n := n) (fun k σ H' => H' = H ∧ k ≤ m ∧ ∃ x2, σ = [some (.str (markV (m : Nat))), some (.int (n : Nat)), x2]) (fun R k => by walk_at "go"; exact k) (by omega) ⟨rfl, Nat.zero_le _, none, rfl⟩ (fun k σ H1 hk pv => ?_) (fun σ H1 pv => ?_)
    · obtain ⟨rfl, hkm, x2, rfl⟩ := pv
      refine w_name ?_
      dsimp only [List.set]
      walk_at "go"
      refine s_fn GL hr (.inr ⟨k, rfl, by omega, ?_⟩)
      rw [markV_eq]
      walk_at "go"
      refine s_eqS ?_
      by_cases e : k = m
      · subst e
        rw [decide_eq_true rfl]
        walk_at "go"
        exact q _ (Same.refl _)
      · rw [decide_eq_false fun z => e (mark_inj (by omega) (by omega) z).symm]
        walk_at "go"
        exact ⟨rfl, by omega, _, rfl⟩
    · obtain ⟨rfl, hkm, x2, rfl⟩ := pv
      omega
end

end Odd

namespace Odd
open PySem PySem.Spec PyProof.Rows L2
/-! tactics of this text: st one step, go as many as go -/
local macro_rules | `(tactic| walk_at "ar") => `(tactic| first | assumption | omega | (show (_ : Int) < _; omega) | decide)
local macro_rules | `(tactic| walk_at "st") => `(tactic| first
  | with_reducible refine' w_seq ?_
  | with_reducible refine' w_asg ?_
  | with_reducible refine' w_name ?_
  | with_reducible refine' w_c ?_
  | with_reducible refine' w_op ?_
  | with_reducible refine' w_ix ?_
  | with_reducible refine' w_at ?_
  | with_reducible refine' w_cons ?_
  | with_reducible refine' w_nil ?_
  | with_reducible refine' w_ret ?_
  | with_reducible refine' w_if ?_
  | with_reducible refine' w_test ?_
  | with_reducible refine' w_tr ?_
  | with_reducible refine' w_un ?_
  | with_reducible refine' w_andV ?_
  | with_reducible refine' w_orV ?_
  | with_reducible refine' w_notA ?_
  | with_reducible refine' w_ch ?_
  | with_reducible refine' w_and ?_
  | with_reducible refine' w_or ?_
  | with_reducible refine' w_not ?_
  | with_reducible refine' w_ifx ?_
  | with_reducible refine' w_tup ?_
  | with_reducible refine' w_lst ?_
  | with_reducible refine' w_next ?_
  | with_reducible refine' w_drop ?_
  | with_reducible refine' w_retN ?_
  | ((with_reducible refine' w_var ?h ?_); (case h => exact rfl))
  | ((with_reducible refine' w_bi ?h ?_); (case h => walk_at "mg"))
  | ((with_reducible refine' w_bv ?h ?_); (case h => walk_at "mg"))
  | ((with_reducible refine' w_gv ?h ?_); (case h => walk_at "mg"))
  | ((with_reducible refine' w_gl ?h ?k ?_); (case h => walk_at "mg"); (case k => walk_at "kp"))
  | ((with_reducible refine' w_glS ?h ?k ?_); (case h => walk_at "mg"); (case k => walk_at "kp"))
  | with_reducible refine' bl_ex ?_
  | with_reducible refine' iteT ?_
  | with_reducible refine' iteF ?_
  | with_reducible refine' ite_nf ?_
  | with_reducible refine' ite_nt ?_
  | with_reducible refine' s_add ?_
  | with_reducible refine' s_sub ?_
  | with_reducible refine' s_lt ?_
  | with_reducible refine' s_le ?_
  | with_reducible refine' s_gt ?_
  | with_reducible refine' s_ge ?_
  | with_reducible refine' s_eqI ?_
  | with_reducible refine' s_neI ?_
  | with_reducible refine' s_eqB ?_
  | with_reducible refine' s_neB ?_
  | with_reducible refine' s_truB ?_
  | with_reducible refine' s_truI ?_
  | with_reducible refine' s_neg ?_
  | ((with_reducible refine' s_mod ?h ?_); (case h => walk_at "ar")))
local macro_rules | `(tactic| walk_at "go") => `(tactic| repeat walk_at "st")

local macro_rules | `(tactic| walk_at "mg") => `(tactic| first | assumption | exact Facts.z_TypeError (by assumption) | exact Facts.z_bool (by assumption) | exact Facts.z_classmethod (by assumption) | exact Facts.z_dict (by assumption) | exact Facts.z_divmod (by assumption) | exact Facts.z_enumerate (by assumption) | exact Facts.z_int (by assumption) | exact Facts.z_isinstance (by assumption) | exact Facts.z_len (by assumption) | exact Facts.z_list (by assumption) | exact Facts.z_max (by assumption) | exact Facts.z_min (by assumption) | exact Facts.z_property (by assumption) | exact Facts.z_range (by assumption) | exact Facts.z_sorted (by assumption) | exact Facts.z_str (by assumption) | exact Facts.z_sum (by assumption) | exact Facts.z_super (by assumption) | exact Facts.z_tuple (by assumption) | exact Facts.z_zip (by assumption) | exact Facts.g__wall (by assumption) | exact Facts.g_is_between (by assumption) | exact Facts.g_is_digits (by assumption) | exact Facts.g_seats_of (by assumption) | exact Facts.g_check_amount (by assumption) | exact Facts.g_check_seats (by assumption) | exact Facts.g_check_seat_count (by assumption) | exact Facts.g_check_bills (by assumption) | exact Facts.g_check_mark (by assumption) | exact Facts.g_no_shares (by assumption) | exact Facts.g_seats_behind (by assumption) | exact Facts.g_split_bill (by assumption) | exact Facts.g_title_line (by assumption) | exact Facts.g_line_of (by assumption) | exact Facts.g_seat_line (by assumption) | exact Facts.g_receipt (by assumption) | exact Facts.g_cents_of_line (by assumption) | exact Facts.g_mark_of_line (by assumption) | exact Facts.g_parse_receipt (by assumption) | exact Facts.g_amount_bytes (by assumption) | exact Facts.g_checksum (by assumption) | exact Facts.g_encode_evening (by assumption) | exact Facts.g_byte_at (by assumption) | exact Facts.g_amount_at (by assumption) | exact Facts.g_decode_evening (by assumption) | exact Facts.g_row_of (by assumption) | exact Facts.g_format_evening (by assumption) | exact Facts.g_is_number (by assumption) | exact Facts.g_check_row (by assumption) | exact Facts.g_numbers_of_row (by assumption) | exact Facts.g_parse_evening (by assumption) | exact Facts.g__law_mix (by assumption) | exact Facts.g__law_next (by assumption) | exact Facts.g__law_alike (by assumption) | exact Facts.g__law_bill (by assumption) | exact Facts.g__law_bills (by assumption) | exact Facts.g__law_text (by assumption) | exact Facts.g__law_pay (by assumption) | exact Facts.g__law_paid (by assumption) | exact Facts.g__law_money (by assumption) | exact Facts.g__law_lines (by assumption) | exact Facts.g_law (by assumption) | exact Facts.g_Shares (by assumption) | exact Facts.g_Bill (by assumption) | exact Facts.g_Evening (by assumption))
local macro_rules | `(tactic| walk_at "kp") => `(tactic| first | assumption | exact (Facts.mk_Shares (by assumption)).kp | exact (Facts.mk_Bill (by assumption)).kp | exact (Facts.mk_Evening (by assumption)).kp | exact Fun.kp (Facts.u__wall (by assumption)).choose_spec | exact Fun.kp (Facts.u_is_between (by assumption)).choose_spec | exact Fun.kp (Facts.u_is_digits (by assumption)).choose_spec | exact Fun.kp (Facts.u_seats_of (by assumption)).choose_spec | exact Fun.kp (Facts.u_check_amount (by assumption)).choose_spec | exact Fun.kp (Facts.u_check_seats (by assumption)).choose_spec | exact Fun.kp (Facts.u_check_seat_count (by assumption)).choose_spec | exact Fun.kp (Facts.u_check_bills (by assumption)).choose_spec | exact Fun.kp (Facts.u_check_mark (by assumption)).choose_spec | exact Fun.kp (Facts.u_no_shares (by assumption)).choose_spec | exact Fun.kp (Facts.u_seats_behind (by assumption)).choose_spec | exact Fun.kp (Facts.u_split_bill (by assumption)).choose_spec | exact Fun.kp (Facts.u_title_line (by assumption)).choose_spec | exact Fun.kp (Facts.u_line_of (by assumption)).choose_spec | exact Fun.kp (Facts.u_seat_line (by assumption)).choose_spec | exact Fun.kp (Facts.u_receipt (by assumption)).choose_spec | exact Fun.kp (Facts.u_cents_of_line (by assumption)).choose_spec | exact Fun.kp (Facts.u_mark_of_line (by assumption)).choose_spec | exact Fun.kp (Facts.u_parse_receipt (by assumption)).choose_spec | exact Fun.kp (Facts.u_amount_bytes (by assumption)).choose_spec | exact Fun.kp (Facts.u_checksum (by assumption)).choose_spec | exact Fun.kp (Facts.u_encode_evening (by assumption)).choose_spec | exact Fun.kp (Facts.u_byte_at (by assumption)).choose_spec | exact Fun.kp (Facts.u_amount_at (by assumption)).choose_spec | exact Fun.kp (Facts.u_decode_evening (by assumption)).choose_spec | exact Fun.kp (Facts.u_row_of (by assumption)).choose_spec | exact Fun.kp (Facts.u_format_evening (by assumption)).choose_spec | exact Fun.kp (Facts.u_is_number (by assumption)).choose_spec | exact Fun.kp (Facts.u_check_row (by assumption)).choose_spec | exact Fun.kp (Facts.u_numbers_of_row (by assumption)).choose_spec | exact Fun.kp (Facts.u_parse_evening (by assumption)).choose_spec | exact Fun.kp (Facts.u__law_mix (by assumption)).choose_spec | exact Fun.kp (Facts.u__law_next (by assumption)).choose_spec | exact Fun.kp (Facts.u__law_alike (by assumption)).choose_spec | exact Fun.kp (Facts.u__law_bill (by assumption)).choose_spec | exact Fun.kp (Facts.u__law_bills (by assumption)).choose_spec | exact Fun.kp (Facts.u__law_text (by assumption)).choose_spec | exact Fun.kp (Facts.u__law_pay (by assumption)).choose_spec | exact Fun.kp (Facts.u__law_paid (by assumption)).choose_spec | exact Fun.kp (Facts.u__law_money (by assumption)).choose_spec | exact Fun.kp (Facts.u__law_lines (by assumption)).choose_spec | exact Fun.kp (Facts.u_law (by assumption)).choose_spec)
/-! ### receipts written and read -/
section
variable {P : Program} {w : World} {K : PySem.W.Frag} {mg : Str → Option Value} {base : Heap} {a : Ad}
theorem ev_cs {n : Nat} {m : Int} {bs : List (Int × List Int)} (ok : OkEv n bs) : CsOk n (evRun n m bs).1 := ⟨evRun_len n m bs, run_up (fun b hb => (ok.2.2.2 b hb).1) ok.2.2.1⟩
theorem ev_end {n : Nat} {m : Int} {bs : List (Int × List Int)} (ok : OkEv n bs) (h0 : 0 ≤ m) (h1 : m < (n : Int)) : ∃ k : Nat, (evRun n m bs).2 = (k : Int) ∧ k < n := by
  have h := evRun_range ok.2.2.2 h0 h1 bs.length
  rw [List.take_of_length_le (Nat.le_refl _)] at h
  exact ⟨(evRun n m bs).2.toNat, by omega, by omega⟩
def spReceipt (CE CB : Addr) : Sp := fun vs H Q _ => ∃ (p : Addr) (m : Int) (n : Nat) (bs : List (Int × List Int)) (k : Nat), vs = [.ref p, .int m] ∧ EvAt CE CB H p n bs ∧ OkEv n bs ∧ 0 ≤ m ∧ m < (n : Int) ∧ (evRun n m bs).2 = (k : Int) ∧
  ∀ H', Same H H' → Q (.str (recV n (evRun n m bs).1 k)) H'
theorem ok_receipt (T : Facts K mg a) : FnR P w K mg base (L2.CX P w) 5 a.f_receipt (spReceipt a.c_Evening a.c_Bill) := by
  obtain ⟨fd, F⟩ := T.u_receipt
  have GC : FnR P w K mg base (L2.CX P w) 4 a.f_Evening__call_ (spEvCall a.c_Evening a.c_Bill a.c_Shares) := ok_ev_call T
  have GE : FnR P w K mg base (L2.CX P w) 1 a.f_Evening_seat_count (spEvCount a.c_Evening) := ok_ev_count T
  have GS : FnR P w K mg base (L2.CX P w) 1 a.f_Shares_cents (spShCents a.c_Shares) := ok_sh_cents T
  have GT : FnR P w K mg base (L2.CX P w) 1 a.f_title_line spTitle := ok_title T
  have GI : FnR P w K mg base (L2.CX P w) 2 a.f_seat_line spSeatLine := ok_seat_line T
  have GL : FnR P w K mg base (L2.CX P w) 1 a.f_line_of spLineOf := ok_line_of T
  refine fnr_ok F sc_receipt (F.binds fun _ _ _ _ _ _ us hl => match us, hl with | [_, _], _ => rfl) (fun vs H Q E h => ?_) (fun cdv A outer s H vs Q E hr h => ?_)
  · obtain ⟨p, m, n, bs, k, rfl, _⟩ := h
    rfl
  · obtain ⟨p, m, n, bs, k, rfl, he, ok, h0, h1, ek, q⟩ := h
    obtain ⟨dx, t, ps, e1, e2, e3⟩ := id he
    have lim : (1000 : Nat) ≤ sizeLine := by decide
    have hcs := ev_cs (m := m) ok
    have hkn : k < n := by
      obtain ⟨j, ej, hj⟩ := ev_end ok h0 h1
      omega
    have hn8 := ok.2.1
    generalize hX : (evRun n m bs).1 = cs at *
    refine ⟨_, (pss_cons (ps_asg (pe_coA Like.refl pas_main (pv 0) (pa_cons (pv 1) pa_nil)) (pg_tup rfl (pgs_cons (pg_name (i := 2) sc_receipt.nd rfl (Or.inl rfl)) (pgs_cons (pg_name (i := 3) sc_receipt.nd rfl (Or.inl rfl)) pgs_nil))))
    (pss_cons (ps_set (i := 4) sc_receipt.nd rfl (Or.inl rfl) (pe_lst (pa_cons (pe_glA Like.refl pas_main (by rfl) (pa_cons (pe_atA Like.refl pas_main (pv 0)) pa_nil)) pa_nil)))
    (pss_cons (ps_for own_main rfl (pi_enumA (by rfl) T.z_enumerate (pa_cons (pe_atA Like.refl pas_main (pv 2)) pa_nil)) (pg_tup rfl (pgs_cons (pg_name (i := 5) sc_receipt.nd rfl (Or.inl rfl)) (pgs_cons (pg_name (i := 6) sc_receipt.nd rfl (Or.inl rfl)) pgs_nil))) (pss_one (ps_expr (pe_bm PySem.F.plainAttrs_list PySem.F.slot_list_append PySem.F.type_list_append mt_append (pv 4) (pa_cons (pe_glA Like.refl pas_main (by rfl) (pa_cons (pv 5) (pa_cons (pv 6) pa_nil))) pa_nil)))))
    (pss_cons (ps_expr (pe_bm PySem.F.plainAttrs_list PySem.F.slot_list_append PySem.F.type_list_append mt_append (pv 4) (pa_cons (pe_glA Like.refl pas_main (by rfl) (pa_cons (pe_str) (pa_cons (pv 3) pa_nil))) pa_nil)))
    (pss_one (ps_ret (pe_join (pe_str) (pv 4)))))))), ?_⟩
    walk_at "go"
    refine w_coA ?_
    walk_at "go"
    refine ⟨p, rfl, ?_⟩
    walk_at "go"
    refine ⟨⟨_, _, _, e1⟩, s_callO e1 T.co_Evening GC (hr.mono (by decide)) ⟨p, m, n, bs, rfl, he, ok, h0, h1, fun TT r H1 hTT s1 g1 sh => ?_⟩⟩
    rw [ek] at g1
    rw [hX] at sh
    refine g_pair (SqT.of g1) ?_
    dsimp only [List.set]
    walk_at "go"
    refine s_prop T.cl_Evening T.pr_Evening_seat_count GE (hr.mono (by decide)) (s1 _ _ e1) ⟨p, dx, t, _, rfl, s1 _ _ e1, ?_⟩
    refine s_fn GT (hr.mono (by decide)) ⟨n, rfl, hn8, ?_⟩
    walk_at "go"
    refine ⟨by show 1 ≤ sizeLine; decide, fun l hl => ?_⟩
    have s2 := s1.trans (same_new (o := .lst [.str (titleV n)]) hl)
    have hl0 := s1.free hl
    obtain ⟨dr, tr, r1, r2⟩ := sh.same (same_new (o := .lst [.str (titleV n)]) hl)
    walk_at "go"
    dsimp only [List.set]
    have hL0 : (upd H1 l (.lst [.str (titleV n)])) l = some (.lst ([V.str (titleV n)])) := upd_same
    have tn : (upd H1 l (.lst [.str (titleV n)])) tr = some (.tup (cs.map V.int)) := r2
    have rn := r1
    have pre : ∀ H' : Hp, (∀ q o, (upd H1 l (.lst [.str (titleV n)])) q = some o → q ≠ l → H' q = some o) → H' tr = some (.tup (cs.map V.int)) := fun H' g => g _ _ tn (fun z => by rw [z, upd_same] at tn; cases tn)
    refine f_enumT (a := tr) (xs := cs.map V.int) (fun i σ H' => Same H H' ∧ (∀ q o, (upd H1 l (.lst [.str (titleV n)])) q = some o → q ≠ l → H' q = some o) ∧ ∃ x5 x6, σ = [some (.ref p), some (.int m), some (.ref r), some (.int k), some (.ref l), x5, x6] ∧ H' l = some (.lst ((titleV n :: (List.range i).map fun i => lineV i (cs.getD i 0)).map V.str))) (fun R z => ?_)
      ⟨s2, fun _ _ e _ => e, none, none, rfl, hL0⟩ (fun i σ H' _ pv => SqT.of (pre _ pv.2.1)) (fun i x σ H2 TT2 hx pv hT2 => ?_) (fun σ H2 pv => ?_)
    · walk_at "go"
      exact s_prop T.cl_Shares T.pr_Shares_cents GS (hr.mono (by decide)) rn ⟨r, dr, tr, rfl, rn, z⟩
    · obtain ⟨s3, k3, x5, x6, rfl, hL⟩ := pv
      rw [List.getElem?_map] at hx
      have hi : i < n := by
        rcases Nat.lt_or_ge i n with z | z
        · exact z
        · rw [List.getElem?_eq_none (by rw [hcs.1]; exact z)] at hx
          cases hx
      obtain ⟨c, ec, eg, hc⟩ := csNat hcs hi
      rw [ec] at hx
      cases hx
      have s4 := same_new (o := .tup [.int (i : Nat), .int (c : Nat)]) hT2
      dsimp only [List.set]
      walk_at "go"
      refine w_bm ?_
      walk_at "go"
      refine ⟨.inl ⟨rfl, _, SqL.of (s4 _ _ hL)⟩, ?_⟩
      walk_at "go"
      refine s_fn GI (hr.mono (by decide)) ⟨i, c, rfl, by omega, hc, fun H5 s5 => ?_⟩
      walk_at "go"
      have s45 := s4.trans s5
      refine ⟨l, _, _, rfl, rfl, s45 _ _ hL, by rw [List.length_map, List.length_cons, List.length_map, List.length_range]; exact Nat.lt_of_lt_of_le (show i + 1 < 100 by omega) (by decide), ?_⟩
      walk_at "go"
      refine ⟨same_mut (s3.trans s45) hl0, fun q o e ne => by rw [upd_ne ne]; exact s45 _ _ (k3 _ _ e ne), _, _, rfl, ?_⟩
      rw [upd_same, List.range_succ, List.map_append, List.map_singleton, eg, ← List.cons_append, List.map_append]
      rfl
    · obtain ⟨s3, k3, x5, x6, rfl, hL⟩ := pv
      rw [List.length_map, hcs.1] at hL
      walk_at "go"
      refine w_bm ?_
      walk_at "go"
      refine ⟨.inl ⟨rfl, _, SqL.of hL⟩, ?_⟩
      walk_at "go"
      refine s_fn GL (hr.mono (by decide)) (.inr ⟨k, rfl, by omega, ?_⟩)
      rw [markV_eq]
      walk_at "go"
      refine ⟨l, _, _, rfl, rfl, hL, by rw [List.length_map, List.length_cons, List.length_map, List.length_range]; exact Nat.lt_of_lt_of_le (show n + 1 < 100 by omega) (by decide), ?_⟩
      walk_at "go"
      have hfin : (upd H2 l (.lst (((titleV n :: (List.range n).map fun i => lineV i (cs.getD i 0)).map V.str) ++ [.str (markV k)]))) l = some (.lst ((linesV n cs k).map V.str)) := by
        rw [upd_same]
        unfold linesV
        rw [List.map_append]
        rfl
      refine w_m1 ?_
      walk_at "go"
      refine ⟨⟨_, rfl⟩, ?_⟩
      walk_at "go"
      exact ⟨"\n", l, linesV n cs k, rfl, rfl, .inl (SqL.of hfin), Nat.le_trans (rec_sum (by omega) (by omega) hcs) (by decide), q _ (same_mut s3 hl0)⟩
def spParseR (CS : Addr) : Sp := fun vs H Q _ => ∃ (n : Nat) (cs : List Int) (m : Nat), vs = [.str (recV n cs m)] ∧ 2 ≤ n ∧ n ≤ 8 ∧ m < n ∧ CsOk n cs ∧ ∀ p r H', H p = none → Same H H' → H' p = some (.tup [.ref r, .int m]) → ShAt CS H' r cs → Q (.ref p) H'
theorem ok_parse_receipt (T : Facts K mg a) : FnR P w K mg base (L2.CX P w) 4 a.f_parse_receipt (spParseR a.c_Shares) := by
  obtain ⟨fd, F⟩ := T.u_parse_receipt
  have GB : FnR P w K mg base (L2.CX P w) 1 a.f_is_between spBetween := ok_between T
  have GT : FnR P w K mg base (L2.CX P w) 1 a.f_title_line spTitle := ok_title T
  have GN : FnR P w K mg base (L2.CX P w) 3 a.f_cents_of_line spCentsOf := ok_cents_of_line T
  have GM : FnR P w K mg base (L2.CX P w) 2 a.f_mark_of_line spMarkOf := ok_mark_of_line T
  have GI : FnR P w K mg base (L2.CX P w) 1 a.f_Shares__init_ (InitSp a.c_Shares) := ok_sh_init T
  refine fnr_ok F sc_parse_receipt (F.binds fun _ _ _ _ _ _ us hl => match us, hl with | [_], _ => rfl) (fun vs H Q E h => ?_) (fun cdv A outer s H vs Q E hr h => ?_)
  · obtain ⟨n, cs, m, rfl, _⟩ := h
    rfl
  · obtain ⟨n, cs, m, rfl, hn2, hn8, hm, hcs, q⟩ := h
    have lim : (1000 : Nat) ≤ sizeLine := by decide
    have rl := rec_len (n := n) (m := m) (by omega) (by omega) hcs
    refine ⟨_, (pss_cons (ps_set (i := 1) sc_parse_receipt.nd rfl (Or.inr rfl) (pe_m1 PySem.F.slot_str_split PySem.F.type_str_split mt_split (pv 0) (pe_str)))
    (pss_cons (ps_set (i := 2) sc_parse_receipt.nd rfl (Or.inl rfl) (pe_opA Like.refl pas_main (pe_biA (id := "len") Like.refl pas_main (by rfl) (by decide +kernel) (pa_cons (pv 1) pa_nil)) (pe_int)))
    (pss_cons (ps_if (PW.pt (pw_or (pt_not (pt_trA Like.refl pas_main (pe_glA Like.refl pas_main (by rfl) (pa_cons (pv 2) (pa_cons (pe_gvI Like.refl (by rfl)) (pa_cons (pe_atA Like.refl pas_main (pe_gvA Like.refl (by rfl))) pa_nil)))))) (pw_or1 (pt_cmpA Like.refl pas_main (pe_ixA Like.refl pas_main (pv 1) (pe_int)) (pe_glA Like.refl pas_main (by rfl) (pa_cons (pv 2) pa_nil)) (nomark _))))) (pss_one (ps_never)) pss_nil)
    (pss_cons (ps_setLc (i := 3) (own := [("seat", 4)]) (g := gName 4) (tt := tYes) rfl sc_parse_receipt.nd rfl rfl (sw_true rfl rfl rfl (by decide +kernel)) (pi_range1 (by rfl) T.z_range (pa_cons (pv 2) pa_nil)) (blkOk_by (own := [("seat", 4)]) (N := N_parse_receipt) (sc := defScope s_parse_receipt) (by decide +kernel)) (fun _ _ _ _ _ => (pg_name (i := 4) sc_parse_receipt.nd rfl (by first | exact Or.inl rfl | exact Or.inr rfl))) (fun _ _ _ _ _ => pts_nil) (fun _ _ _ _ _ => (pe_glA ⟨rfl, rfl, rfl, rfl, rfl, rfl, rfl⟩ passL (by rfl) (pa_cons (pe_ixA ⟨rfl, rfl, rfl, rfl, rfl, rfl, rfl⟩ passL (pv 1) (pe_opA ⟨rfl, rfl, rfl, rfl, rfl, rfl, rfl⟩ passL (pv 4) (pe_int))) (pa_cons (pv 4) pa_nil)))))
    (pss_cons (ps_set (i := 5) sc_parse_receipt.nd rfl (Or.inl rfl) (pe_glA Like.refl pas_main (by rfl) (pa_cons (pe_ixA Like.refl pas_main (pv 1) (pe_unA Like.refl pas_main (pe_int))) (pa_cons (pv 2) pa_nil))))
    (pss_one (ps_ret (pe_tup (pa_cons (pe_glS Like.refl pas_main (by rfl) (pv 3)) (pa_cons (pv 5) pa_nil)))))))))), ?_⟩
    walk_at "go"
    refine w_m1 ?_
    walk_at "go"
    refine ⟨⟨_, rfl⟩, ?_⟩
    walk_at "go"
    refine ⟨_, "\n", rfl, rfl, rfl, Nat.le_trans (show _ ≤ 1000 by omega) lim, ?_⟩
    rw [rec_split (by omega) (by omega) hcs]
    intro l hl
    have s1 := same_new (o := .lst ((linesV n cs m).map V.str)) hl
    have hL : (upd H l (.lst ((linesV n cs m).map V.str))) l = some (.lst ((linesV n cs m).map V.str)) := upd_same
    generalize upd H l (.lst ((linesV n cs m).map V.str)) = H1 at *
    walk_at "go"
    refine s_lenL (SqL.of hL) ?_
    rw [List.length_map, lines_len]
    walk_at "go"
    rw [show ((n + 2 : Nat) : Int) - 2 = (n : Int) by omega]
    walk_at "go"
    dsimp only [List.set]
    refine w_gvI T.i_MIN_SEAT_COUNT.choose_spec ?_
    walk_at "go"
    refine s_cval T.cr_Bill T.cv_Bill_MAX_SEATS.choose_spec ?_
    walk_at "go"
    refine s_fn GB (hr.mono (by decide)) ⟨n, 2, 8, rfl, ?_⟩
    rw [decide_eq_true (show (2 : Int) ≤ (n : Int) by omega), decide_eq_true (show (n : Int) ≤ 8 by omega)]
    walk_at "go"
    refine iteF ?_
    walk_at "go"
    have hLn := lines_len n cs m
    have g0 : (linesV n cs m)[0]? = some (titleV n) := rfl
    refine s_ixL (SqL.of hL) (v := .str (titleV n)) (at_of (j := 0) rfl (by rw [List.getElem?_map, g0]; rfl)) ?_
    walk_at "go"
    refine s_fn GT (hr.mono (by decide)) ⟨n, rfl, hn8, ?_⟩
    walk_at "go"
    refine s_neS ?_
    rw [decide_eq_true rfl]
    walk_at "go"
    have gi : ∀ i, i < n → (linesV n cs m)[i + 1]? = some (lineV i (cs.getD i 0)) := fun i hi => by
      unfold linesV
      rw [List.cons_append, List.getElem?_cons_succ, List.getElem?_append_left (by rw [List.length_map, List.length_range]; exact hi), List.getElem?_map, List.getElem?_range hi]
      rfl
    refine c_rng (n := n) (fun i => (cs.take i).map V.int) rfl (by omega) (fun i hi => by rw [List.length_map, List.length_take]; omega) (fun _ => rfl) (fun i H' hi s2 => ?_) (fun rc H2 hrc s2 hC => ?_) (fun R z => ?_)
    · obtain ⟨c, ec, eg, hc⟩ := csNat hcs hi
      have eo : (cs.take (i + 1)).map V.int = (cs.take i).map V.int ++ [V.int (c : Nat)] := by
        rw [List.take_add_one, ec, List.map_append]
        rfl
      show Turn1 _ _ _ _ ((cs.take i).map V.int) ((cs.take (i + 1)).map V.int)
      rw [eo]
      refine turn1_map fun R hR => ?_
      walk_at "go"
      refine s_ixL (SqL.of (s2 _ _ hL)) (v := .str (lineV i (c : Nat))) (at_of (j := i + 1) (by omega) (by rw [List.getElem?_map, gi i hi, eg]; rfl)) ?_
      walk_at "go"
      exact s_fn GN (hr.mono (by decide)) ⟨i, c, rfl, by omega, hc, fun H5 s5 => hR _ s5⟩
    · rw [List.take_of_length_le (by rw [hcs.1]; exact Nat.le_refl _)] at hC
      walk_at "go"
      dsimp only [List.set]
      have gm : (linesV n cs m)[n + 1]? = some (markV m) := by
        unfold linesV
        rw [List.getElem?_append_right (by simp)]
        simp
      have hml : ((linesV n cs m).map V.str).length = n + 2 := by rw [List.length_map, hLn]
      have hlast : atI ((linesV n cs m).map V.str) (-1) = some (.str (markV m)) := by
        unfold atI ixN
        rw [hml, if_neg (by decide), if_pos (by omega)]
        show ((linesV n cs m).map V.str)[((-1 : Int) + ((n + 2 : Nat) : Int)).toNat]? = _
        rw [show ((-1 : Int) + ((n + 2 : Nat) : Int)).toNat = n + 1 by omega, List.getElem?_map, gm]
        rfl
      refine s_ixL (SqL.of (s2 _ _ hL)) (v := .str (markV m)) hlast ?_
      walk_at "go"
      refine s_fn GM (hr.mono (by decide)) ⟨m, n, rfl, hm, by omega, fun H3 s3 => ?_⟩
      walk_at "go"
      refine ⟨rc, cs.map V.int, rfl, .inr (SqL.of (s3 _ _ hC)), ?_⟩
      refine s_shares T GI (hr.mono (by decide)) (by rw [hcs.1]; omega) fun r H5 hr5 s5 sh => ?_
      walk_at "go"
      refine ⟨by show 2 ≤ sizeLine; decide, fun p hp => ?_⟩
      have s6 := same_new (o := .tup [.ref r, .int m]) hp
      have sA := ((s1.trans s2).trans s3).trans s5
      exact q p r _ (sA.free hp) (sA.trans s6) upd_same (sh.same s6)
    · walk_at "go"
      exact z
end

end Odd

namespace Odd
open PySem PySem.Spec PyProof.Rows L2
/-! tactics of this text: st one step, go as many as go -/
local macro_rules | `(tactic| walk_at "ar") => `(tactic| first | assumption | omega | (show (_ : Int) < _; omega) | decide)
local macro_rules | `(tactic| walk_at "st") => `(tactic| first
  | with_reducible refine' w_seq ?_
  | with_reducible refine' w_asg ?_
  | with_reducible refine' w_name ?_
  | with_reducible refine' w_c ?_
  | with_reducible refine' w_op ?_
  | with_reducible refine' w_ix ?_
  | with_reducible refine' w_at ?_
  | with_reducible refine' w_cons ?_
  | with_reducible refine' w_nil ?_
  | with_reducible refine' w_ret ?_
  | with_reducible refine' w_if ?_
  | with_reducible refine' w_test ?_
  | with_reducible refine' w_tr ?_
  | with_reducible refine' w_un ?_
  | with_reducible refine' w_andV ?_
  | with_reducible refine' w_orV ?_
  | with_reducible refine' w_notA ?_
  | with_reducible refine' w_ch ?_
  | with_reducible refine' w_and ?_
  | with_reducible refine' w_or ?_
  | with_reducible refine' w_not ?_
  | with_reducible refine' w_ifx ?_
  | with_reducible refine' w_tup ?_
  | with_reducible refine' w_lst ?_
  | with_reducible refine' w_next ?_
  | with_reducible refine' w_drop ?_
  | with_reducible refine' w_retN ?_
  | ((with_reducible refine' w_var ?h ?_); (case h => exact rfl))
  | ((with_reducible refine' w_bi ?h ?_); (case h => walk_at "mg"))
  | ((with_reducible refine' w_bv ?h ?_); (case h => walk_at "mg"))
  | ((with_reducible refine' w_gv ?h ?_); (case h => walk_at "mg"))
  | ((with_reducible refine' w_gl ?h ?k ?_); (case h => walk_at "mg"); (case k => walk_at "kp"))
  | ((with_reducible refine' w_glS ?h ?k ?_); (case h => walk_at "mg"); (case k => walk_at "kp"))
  | with_reducible refine' bl_ex ?_
  | with_reducible refine' iteT ?_
  | with_reducible refine' iteF ?_
  | with_reducible refine' ite_nf ?_
  | with_reducible refine' ite_nt ?_
  | with_reducible refine' s_add ?_
  | with_reducible refine' s_sub ?_
  | with_reducible refine' s_lt ?_
  | with_reducible refine' s_le ?_
  | with_reducible refine' s_gt ?_
  | with_reducible refine' s_ge ?_
  | with_reducible refine' s_eqI ?_
  | with_reducible refine' s_neI ?_
  | with_reducible refine' s_eqB ?_
  | with_reducible refine' s_neB ?_
  | with_reducible refine' s_truB ?_
  | with_reducible refine' s_truI ?_
  | with_reducible refine' s_neg ?_
  | ((with_reducible refine' s_mod ?h ?_); (case h => walk_at "ar")))
local macro_rules | `(tactic| walk_at "go") => `(tactic| repeat walk_at "st")

local macro_rules | `(tactic| walk_at "mg") => `(tactic| first | assumption | exact Facts.z_TypeError (by assumption) | exact Facts.z_bool (by assumption) | exact Facts.z_classmethod (by assumption) | exact Facts.z_dict (by assumption) | exact Facts.z_divmod (by assumption) | exact Facts.z_enumerate (by assumption) | exact Facts.z_int (by assumption) | exact Facts.z_isinstance (by assumption) | exact Facts.z_len (by assumption) | exact Facts.z_list (by assumption) | exact Facts.z_max (by assumption) | exact Facts.z_min (by assumption) | exact Facts.z_property (by assumption) | exact Facts.z_range (by assumption) | exact Facts.z_sorted (by assumption) | exact Facts.z_str (by assumption) | exact Facts.z_sum (by assumption) | exact Facts.z_super (by assumption) | exact Facts.z_tuple (by assumption) | exact Facts.z_zip (by assumption) | exact Facts.g__wall (by assumption) | exact Facts.g_is_between (by assumption) | exact Facts.g_is_digits (by assumption) | exact Facts.g_seats_of (by assumption) | exact Facts.g_check_amount (by assumption) | exact Facts.g_check_seats (by assumption) | exact Facts.g_check_seat_count (by assumption) | exact Facts.g_check_bills (by assumption) | exact Facts.g_check_mark (by assumption) | exact Facts.g_no_shares (by assumption) | exact Facts.g_seats_behind (by assumption) | exact Facts.g_split_bill (by assumption) | exact Facts.g_title_line (by assumption) | exact Facts.g_line_of (by assumption) | exact Facts.g_seat_line (by assumption) | exact Facts.g_receipt (by assumption) | exact Facts.g_cents_of_line (by assumption) | exact Facts.g_mark_of_line (by assumption) | exact Facts.g_parse_receipt (by assumption) | exact Facts.g_amount_bytes (by assumption) | exact Facts.g_checksum (by assumption) | exact Facts.g_encode_evening (by assumption) | exact Facts.g_byte_at (by assumption) | exact Facts.g_amount_at (by assumption) | exact Facts.g_decode_evening (by assumption) | exact Facts.g_row_of (by assumption) | exact Facts.g_format_evening (by assumption) | exact Facts.g_is_number (by assumption) | exact Facts.g_check_row (by assumption) | exact Facts.g_numbers_of_row (by assumption) | exact Facts.g_parse_evening (by assumption) | exact Facts.g__law_mix (by assumption) | exact Facts.g__law_next (by assumption) | exact Facts.g__law_alike (by assumption) | exact Facts.g__law_bill (by assumption) | exact Facts.g__law_bills (by assumption) | exact Facts.g__law_text (by assumption) | exact Facts.g__law_pay (by assumption) | exact Facts.g__law_paid (by assumption) | exact Facts.g__law_money (by assumption) | exact Facts.g__law_lines (by assumption) | exact Facts.g_law (by assumption) | exact Facts.g_Shares (by assumption) | exact Facts.g_Bill (by assumption) | exact Facts.g_Evening (by assumption))
local macro_rules | `(tactic| walk_at "kp") => `(tactic| first | assumption | exact (Facts.mk_Shares (by assumption)).kp | exact (Facts.mk_Bill (by assumption)).kp | exact (Facts.mk_Evening (by assumption)).kp | exact Fun.kp (Facts.u__wall (by assumption)).choose_spec | exact Fun.kp (Facts.u_is_between (by assumption)).choose_spec | exact Fun.kp (Facts.u_is_digits (by assumption)).choose_spec | exact Fun.kp (Facts.u_seats_of (by assumption)).choose_spec | exact Fun.kp (Facts.u_check_amount (by assumption)).choose_spec | exact Fun.kp (Facts.u_check_seats (by assumption)).choose_spec | exact Fun.kp (Facts.u_check_seat_count (by assumption)).choose_spec | exact Fun.kp (Facts.u_check_bills (by assumption)).choose_spec | exact Fun.kp (Facts.u_check_mark (by assumption)).choose_spec | exact Fun.kp (Facts.u_no_shares (by assumption)).choose_spec | exact Fun.kp (Facts.u_seats_behind (by assumption)).choose_spec | exact Fun.kp (Facts.u_split_bill (by assumption)).choose_spec | exact Fun.kp (Facts.u_title_line (by assumption)).choose_spec | exact Fun.kp (Facts.u_line_of (by assumption)).choose_spec | exact Fun.kp (Facts.u_seat_line (by assumption)).choose_spec | exact Fun.kp (Facts.u_receipt (by assumption)).choose_spec | exact Fun.kp (Facts.u_cents_of_line (by assumption)).choose_spec | exact Fun.kp (Facts.u_mark_of_line (by assumption)).choose_spec | exact Fun.kp (Facts.u_parse_receipt (by assumption)).choose_spec | exact Fun.kp (Facts.u_amount_bytes (by assumption)).choose_spec | exact Fun.kp (Facts.u_checksum (by assumption)).choose_spec | exact Fun.kp (Facts.u_encode_evening (by assumption)).choose_spec | exact Fun.kp (Facts.u_byte_at (by assumption)).choose_spec | exact Fun.kp (Facts.u_amount_at (by assumption)).choose_spec | exact Fun.kp (Facts.u_decode_evening (by assumption)).choose_spec | exact Fun.kp (Facts.u_row_of (by assumption)).choose_spec | exact Fun.kp (Facts.u_format_evening (by assumption)).choose_spec | exact Fun.kp (Facts.u_is_number (by assumption)).choose_spec | exact Fun.kp (Facts.u_check_row (by assumption)).choose_spec | exact Fun.kp (Facts.u_numbers_of_row (by assumption)).choose_spec | exact Fun.kp (Facts.u_parse_evening (by assumption)).choose_spec | exact Fun.kp (Facts.u__law_mix (by assumption)).choose_spec | exact Fun.kp (Facts.u__law_next (by assumption)).choose_spec | exact Fun.kp (Facts.u__law_alike (by assumption)).choose_spec | exact Fun.kp (Facts.u__law_bill (by assumption)).choose_spec | exact Fun.kp (Facts.u__law_bills (by assumption)).choose_spec | exact Fun.kp (Facts.u__law_text (by assumption)).choose_spec | exact Fun.kp (Facts.u__law_pay (by assumption)).choose_spec | exact Fun.kp (Facts.u__law_paid (by assumption)).choose_spec | exact Fun.kp (Facts.u__law_money (by assumption)).choose_spec | exact Fun.kp (Facts.u__law_lines (by assumption)).choose_spec | exact Fun.kp (Facts.u_law (by assumption)).choose_spec)
/-! ### what the whole laws share -/
section
variable {P : Program} {w : World} {K : PySem.W.Frag} {mg : Str → Option Value} {base : Heap} {a : Ad}
def spLaw (K : PySem.W.Frag) : Sp := fun vs H Q _ => ∃ (a : Addr) (ns : List Int), vs = [.ref a] ∧ SqL K H a (ns.map V.int) ∧ ns.length ≤ 63 ∧ ∀ H', Q (.bl true) H'
theorem BiAt.keepB {C : Addr} {H H' : Hp} {p st L : Addr} {b : Int × List Int} (h : BiAt C H p b) (W : WSt st L H) (s : SameB (S2 st L) H H') : BiAt C H' p b := by
  obtain ⟨dx, t, h1, h2⟩ := h
  exact ⟨dx, t, W.keepI s h1, W.keepT s h2⟩
theorem EvAt.keepB {CE CB : Addr} {H H' : Hp} {p st L : Addr} {n : Int} {bs : List (Int × List Int)} (h : EvAt CE CB H p n bs) (W : WSt st L H) (s : SameB (S2 st L) H H') : EvAt CE CB H' p n bs := by
  obtain ⟨dx, t, ps, h1, h2, h3⟩ := h
  exact ⟨dx, t, ps, W.keepI s h1, W.keepT s h2, h3.1, fun i p b e1 e2 => (h3.2 i p b e1 e2).keepB W s⟩
theorem ShAt.keepB {C : Addr} {H H' : Hp} {p st L : Addr} {cs : List Int} (h : ShAt C H p cs) (W : WSt st L H) (s : SameB (S2 st L) H H') : ShAt C H' p cs := by
  obtain ⟨dx, t, h1, h2⟩ := h
  exact ⟨dx, t, W.keepI s h1, W.keepT s h2⟩
theorem RowsAt.keepB {H H' : Hp} {st L : Addr} {rs : List Addr} {bs : List (Int × List Int)} (h : RowsAt H rs bs) (W : WSt st L H) (s : SameB (S2 st L) H H') : RowsAt H' rs bs := h.keep fun _ _ e => W.keepT s e
/-- data: a list of ints and an int -/
theorem dp_li {H : Hp} {p q : Addr} {cs : List Int} {m : Int} (h : H p = some (.lst [.ref q, .int m])) (h2 : H q = some (.lst (cs.map V.int))) : Dp K H (.ref p) (.list [.list (cs.map PyData.int), .int m]) :=
  .lst (SqL.of h) (.cons (.lst (SqL.of h2) (dp_ints _)) (.cons (.int _) .nil))
theorem ok_li {cs : List Int} {m : Int} (h : cs.length < 1000) : okN 2 (.list [.list (cs.map PyData.int), .int m]) := by
  simp only [okN]
  refine ⟨by simp, fun x hx => ?_⟩
  simp only [List.mem_cons, List.not_mem_nil, or_false] at hx
  rcases hx with rfl | rfl
  · simp only [okN]
    refine ⟨by rw [List.length_map]; exact h, fun y hy => ?_⟩
    obtain ⟨z, _, rfl⟩ := List.mem_map.1 hy
    simp [okN]
  · simp [okN]
end

local macro_rules | `(tactic| walk_at "st") => `(tactic| ((with_reducible refine' w_name ?_); (try dsimp only [List.set])))

/-! ### k51: texts, bytes and receipts go round -/
section
variable {P : Program} {w : World} {K : PySem.W.Frag} {mg : Str → Option Value} {base : Heap} {a : Ad}
def rowD (b : Int × List Int) : PyData := .tuple [.int b.1, .tuple (b.2.map PyData.int)]
theorem rows_dp {H : Hp} : ∀ (rs : List Addr) (rows : List (Int × List Int)), rs.length = rows.length → (∀ (i : Nat) r b, rs[i]? = some r → rows[i]? = some b → RowAt H r b) → DpAll K H (rs.map V.ref) (rows.map rowD)
  | [], [], _, _ => .nil
  | [], _ :: _, e, _ => by simp at e
  | _ :: _, [], e, _ => by simp at e
  | r :: rs, b :: rows, e, h => by
    obtain ⟨t, h1, h2⟩ := h 0 r b rfl rfl
    exact .cons (.tup (SqT.of h1) (.cons (.int _) (.cons (.tup (SqT.of h2) (dp_ints _)) .nil))) (rows_dp rs rows (by simpa using e) fun i r b e1 e2 => h (i + 1) r b e1 e2)
theorem strs_dp {H : Hp} : ∀ xs : List Str, DpAll K H (xs.map V.str) (xs.map PyData.str)
  | [] => .nil
  | x :: xs => .cons (.str x) (strs_dp xs)
theorem nb_strs : ∀ xs : List Str, nb.nbAll (xs.map PyData.str) = true
  | [] => rfl
  | _ :: xs => by simp [nb.nbAll, nb, nb_strs xs]
theorem nb_rows : ∀ rows : List (Int × List Int), nb.nbAll (rows.map rowD) = true
  | [] => rfl
  | b :: rows => by simp [nb.nbAll, nb, rowD, nb_ints, nb_rows rows]
theorem okN_any {m : Nat} {z : Int} : okN m (.int z) := by cases m <;> simp [okN]
theorem ok_strs {xs : List Str} (h : xs.length < 1000) (hs : ∀ x ∈ xs, ∀ k ∈ TL.tl x, k < 128) : okN 1 (.list (xs.map PyData.str)) := by
  simp only [okN]
  refine ⟨by rw [List.length_map]; exact h, fun x hx => ?_⟩
  obtain ⟨c, hc, rfl⟩ := List.mem_map.1 hx
  simp only [okN, PyData.canLay0, PyData.strOk]
  exact cps_all fun k hk => by have := hs c hc k hk; rw [decide_eq_true_iff]; omega
theorem g_nest {K : PySem.W.Frag} {TT U : Addr} {x y z : V} {i j l c d : Nat} {σ : L2.St} {H : Hp} {R : L2.St → Hp → Prop} (hc : c = 2) (hd : d = 2) (hT : SqT K H TT [x, .ref U]) (hU : SqT K H U [y, z]) (h : R (((σ.set i (some x)).set j (some y)).set l (some z)) H) :
    gTup K c (gCons (gName i) (gCons (gTup K d (gCons (gName j) (gCons (gName l) gNil))) gNil)) (.ref TT) σ H R := by
  subst hc hd
  exact ⟨TT, [x, .ref U], rfl, hT, rfl, x, [.ref U], rfl, .ref U, [], rfl, U, [y, z], rfl, hU, rfl, y, [z], rfl, z, [], rfl, rfl, rfl, h⟩
def evD (n : Nat) (rows : List (Int × List Int)) : PyData := .tuple [.int n, .list (rows.map rowD)]
theorem evD_ok {n : Nat} {rows : List (Int × List Int)} (ok : OkEv n rows) : okN 4 (evD n rows) := by
  have h2 := ok.2.2.1
  have h3 : ∀ b ∈ rows, b.2.length ≤ 8 := fun b hb => ok_len (ok.2.2.2 b hb).1
  have hrow : ∀ b ∈ rows, okN 2 (rowD b) := fun b hb => by
    have := h3 b hb
    unfold rowD
    simp only [okN]
    refine ⟨by simp, fun x hx => ?_⟩
    simp only [List.mem_cons, List.not_mem_nil, or_false] at hx
    rcases hx with rfl | rfl
    · exact okN_any
    · simp only [okN]
      refine ⟨by rw [List.length_map]; omega, fun x hx => ?_⟩
      obtain ⟨z, _, rfl⟩ := List.mem_map.1 hx
      exact okN_any
  unfold evD
  simp only [okN]
  refine ⟨by simp, fun x hx => ?_⟩
  simp only [List.mem_cons, List.not_mem_nil, or_false] at hx
  rcases hx with rfl | rfl
  · exact okN_any
  · simp only [okN]
    refine ⟨by rw [List.length_map]; omega, fun x hx => ?_⟩
    obtain ⟨b, hb, rfl⟩ := List.mem_map.1 hx
    exact hrow b hb
theorem s_neSh0 {X0 : Cx} {E : XK} {H : Hp} {Q : VK} {r1 r2 : Addr} {cs ds : List Int} (T : Facts X0.K X0.mg a) (GEq : Fn X0 1 a.f_Shares__eq_ (spShEq X0.K a.c_Shares)) (hr : Room 3 X0.A) (h1 : ShAt a.c_Shares H r1 cs) (h2 : ShAt a.c_Shares H r2 ds) (q : Q (.bl (!decide (cs = ds))) H) : ∃ r, OpD X0 E (compareOp .NotEq) r ∧ r (.ref r1) (.ref r2) H Q := by
  obtain ⟨d1, t1, i1, i2⟩ := id h1
  obtain ⟨d2, t2, j1, j2⟩ := id h2
  exact s_neOwn T.ne_Shares__eq_ T.ob_Shares T.m_Shares__eq_ GEq (hr.mono (by decide)) i1 (tyx_ins j1 T.cl_Shares T.si_Shares) T.ne_Shares__eq_.own ⟨r1, _, _, rfl, h1, .inl ⟨r2, _, rfl, h2, _, rfl, q⟩⟩
theorem s_neSelf {X0 : Cx} {E : XK} {H : Hp} {Q : VK} {x y : V} {d : PyData} {n : Nat} (hu : X0.A.units + 64 < cLine) (hx : Dp X0.K H x d) (hy : Dp X0.K H y d) (ok : okN n d) (hn : n ≤ 64) (hb : nb d = true) (q : Q (.bl false) H) : ∃ r, OpD X0 E (compareOp .NotEq) r ∧ r x y H Q :=
  s_neD hu hx hy (okN_shaped ok hn) (okN_shaped ok hn) (by rw [(eqv_iff hb hb).2 rfl]; exact q)
theorem ok_law (T : Facts K mg a) {fd : FuncData} (F : Fun K "law" "law" s_law a.f_law fd) : FnOk P w K mg base (L2.CX P w) 11 a.f_law fd ["_law_script"] (spLaw K) := by
  have GM : FnR P w K mg base (L2.CX P w) 1 a.f__law_mix (spMix K) := ok_mix T
  have GD : FnR P w K mg base (L2.CX P w) 1 a.f__law_next spNext := ok_next T
  have GB : FnR P w K mg base (L2.CX P w) 3 a.f__law_bills spWBills := ok_wbills T
  have GTx : FnR P w K mg base (L2.CX P w) 1 a.f__law_text spWText := ok_wtext T
  have GPa : FnR P w K mg base (L2.CX P w) 6 a.f_parse_evening (spParse a.c_Evening a.c_Bill) := ok_parse T
  have GPd : FnR P w K mg base (L2.CX P w) 2 a.f__law_paid spWPaid := ok_wpaid T
  have GAl : FnR P w K mg base (L2.CX P w) 3 a.f__law_alike (spAlike K 2) := ok_alike T 2 (by decide)
  have GF : FnR P w K mg base (L2.CX P w) 3 a.f_format_evening (spFormat a.c_Evening a.c_Bill) := ok_format T
  have GE : FnR P w K mg base (L2.CX P w) 3 a.f_encode_evening (spEnc a.c_Evening a.c_Bill) := ok_encode T
  have GX : FnR P w K mg base (L2.CX P w) 6 a.f_decode_evening (spDec a.c_Evening a.c_Bill) := ok_decode T
  have GC : FnR P w K mg base (L2.CX P w) 4 a.f_Evening__call_ (spEvCall a.c_Evening a.c_Bill a.c_Shares) := ok_ev_call T
  have GSc : FnR P w K mg base (L2.CX P w) 1 a.f_Evening_seat_count (spEvCount a.c_Evening) := ok_ev_count T
  have GBi : FnR P w K mg base (L2.CX P w) 1 a.f_Evening_bills (spEvBills a.c_Evening) := ok_ev_bills T
  have GA : FnR P w K mg base (L2.CX P w) 1 a.f_Bill_amount (spBiAmount a.c_Bill) := ok_bi_amount T
  have GT : FnR P w K mg base (L2.CX P w) 1 a.f_Bill_seats (spBiSeats a.c_Bill) := ok_bi_seats T
  have GCe : FnR P w K mg base (L2.CX P w) 1 a.f_Shares_cents (spShCents a.c_Shares) := ok_sh_cents T
  have GEq : FnR P w K mg base (L2.CX P w) 1 a.f_Shares__eq_ (spShEq K a.c_Shares) := ok_sh_eq T
  have GR : FnR P w K mg base (L2.CX P w) 5 a.f_receipt (spReceipt a.c_Evening a.c_Bill) := ok_receipt T
  have GPr : FnR P w K mg base (L2.CX P w) 4 a.f_parse_receipt (spParseR a.c_Shares) := ok_parse_receipt T
  have GLi : FnR P w K mg base (L2.CX P w) 2 a.f__law_lines spLines := ok_lines T
  refine F.okX sc_law (fun vs H Q E h => ?_) (fun cdv A outer s H vs Q E hr h => ?_)
  · obtain ⟨sc, ns, rfl, _⟩ := h
    rfl
  · obtain ⟨sc, ns, rfl, hsc, hlen, q⟩ := h
    have hr' := hr.units
    have lim : (1000 : Nat) ≤ sizeLine := by decide
    refine ⟨_, (pss_cons (ps_set (i := 1) sc_law.nd rfl (Or.inl rfl) (pe_glA Like.refl pas_main (by rfl) (pa_cons (pv 0) (pa_cons (pe_int) pa_nil))))
    (pss_cons (ps_for own_main rfl (pi_range1 (by rfl) T.z_range (pa_cons (pe_int) pa_nil)) (pg_name (i := 2) sc_law.nd rfl (Or.inl rfl)) (pss_cons (ps_set (i := 3) sc_law.nd rfl (Or.inl rfl) (pe_opA Like.refl pas_main (pe_int) (pe_glA Like.refl pas_main (by rfl) (pa_cons (pv 1) (pa_cons (pe_int) pa_nil)))))
    (pss_cons (ps_par (i := 4) (j := 5) rfl sc_law.nd rfl rfl (by decide) rfl rfl (pa_cons (pe_glA Like.refl pas_main (by rfl) (pa_cons (pv 1) (pa_cons (pv 3) (pa_cons (pe_int) pa_nil)))) (pa_cons (pe_glA Like.refl pas_main (by rfl) (pa_cons (pv 1) (pa_cons (pv 3) pa_nil))) pa_nil)) (by rfl))
    (pss_cons (ps_asg (pe_tup (pa_cons (pe_glA Like.refl pas_main (by rfl) (pa_cons (pe_glA Like.refl pas_main (by rfl) (pa_cons (pv 3) (pa_cons (pv 4) pa_nil))) pa_nil)) (pa_cons (pe_glA Like.refl pas_main (by rfl) (pa_cons (pv 3) (pa_cons (pv 4) (pa_cons (pv 5) pa_nil)))) pa_nil))) (pg_tup rfl (pgs_cons (pg_name (i := 6) sc_law.nd rfl (Or.inl rfl)) (pgs_cons (pg_tup rfl (pgs_cons (pg_name (i := 7) sc_law.nd rfl (Or.inl rfl)) (pgs_cons (pg_name (i := 8) sc_law.nd rfl (Or.inl rfl)) pgs_nil))) pgs_nil))))
    (pss_cons (ps_if (PW.pt (pw_or (pt_not (pt_trA Like.refl pas_main (pe_biA (id := "isinstance") Like.refl pas_main (by rfl) (by decide +kernel) (pa_cons (pv 6) (pa_cons (pe_gvA Like.refl (by rfl)) pa_nil))))) (pw_or1 (pt_cmpA Like.refl pas_main (pe_glA Like.refl pas_main (by rfl) (pa_cons (pv 6) pa_nil)) (pe_glA Like.refl pas_main (by rfl) (pa_cons (pv 3) (pa_cons (pv 4) pa_nil))) (nomark _))))) (pss_one (ps_ret (pe_bl))) pss_nil)
    (pss_cons (ps_set (i := 9) sc_law.nd rfl (Or.inl rfl) (pe_glA Like.refl pas_main (by rfl) (pa_cons (pe_glA Like.refl pas_main (by rfl) (pa_cons (pv 6) pa_nil)) pa_nil)))
    (pss_cons (ps_for own_main rfl (pi_seqA Like.refl (pe_tup (pa_cons (pv 6) (pa_cons (pv 9) pa_nil)))) (pg_name (i := 10) sc_law.nd rfl (Or.inl rfl)) (pss_cons (ps_asg (pe_coA Like.refl pas_main (pv 10) (pa_cons (pv 5) pa_nil)) (pg_tup rfl (pgs_cons (pg_name (i := 11) sc_law.nd rfl (Or.inl rfl)) (pgs_cons (pg_name (i := 12) sc_law.nd rfl (Or.inl rfl)) pgs_nil))))
    (pss_cons (ps_if (pt_cmpA Like.refl pas_main (pe_tup (pa_cons (pe_atA Like.refl pas_main (pv 10)) (pa_cons (pe_lc (own := [("_law_bill_here", 13)]) (g := gName 13) (tt := tYes) rfl sc_law.nd (pi_seqA Like.refl (pe_atA Like.refl pas_main (pv 10))) (blkOk_by (own := [("_law_bill_here", 13)]) (N := N_law) (sc := defScope s_law) (by decide +kernel)) (fun _ _ _ _ _ => (pg_name (i := 13) sc_law.nd rfl (by first | exact Or.inl rfl | exact Or.inr rfl))) (fun _ _ _ _ _ => pts_nil) (fun _ _ _ _ _ => (pe_tup (pa_cons (pe_atB ⟨rfl, rfl, rfl, rfl, rfl, rfl, rfl⟩ passL (pv 13)) (pa_cons (pe_atB ⟨rfl, rfl, rfl, rfl, rfl, rfl, rfl⟩ passL (pv 13)) pa_nil))))) pa_nil))) (pe_tup (pa_cons (pv 3) (pa_cons (pv 4) pa_nil))) (nomark _)) (pss_one (ps_ret (pe_bl))) pss_nil)
    (pss_cons (ps_if (pt_not (pt_trA Like.refl pas_main (pe_glA Like.refl pas_main (by rfl) (pa_cons (pe_lst (pa_cons (pe_tyA (T := "list") Like.refl pas_main (by rfl) (by decide +kernel) (pa_cons (pe_atA Like.refl pas_main (pv 11)) pa_nil)) (pa_cons (pv 12) pa_nil))) (pa_cons (pe_lst (pa_cons (pv 7) (pa_cons (pv 8) pa_nil))) pa_nil))))) (pss_one (ps_ret (pe_bl))) pss_nil)
    (pss_cons (ps_if (pt_cmpA Like.refl pas_main (pe_m1 PySem.F.slot_str_split PySem.F.type_str_split mt_split (pe_glA Like.refl pas_main (by rfl) (pa_cons (pv 10) (pa_cons (pv 5) pa_nil))) (pe_str)) (pe_glA Like.refl pas_main (by rfl) (pa_cons (pv 3) (pa_cons (pv 7) (pa_cons (pv 8) pa_nil)))) (nomark _)) (pss_one (ps_ret (pe_bl))) pss_nil)
    (pss_cons (ps_set (i := 14) sc_law.nd rfl (Or.inl rfl) (pe_glA Like.refl pas_main (by rfl) (pa_cons (pe_glA Like.refl pas_main (by rfl) (pa_cons (pv 10) (pa_cons (pv 5) pa_nil))) pa_nil)))
    (pss_one (ps_if (PW.pt (pw_or (pt_cmpA Like.refl pas_main (pe_ixA Like.refl pas_main (pv 14) (pe_int)) (pv 11) (nomark _)) (pw_or1 (pt_cmpA Like.refl pas_main (pe_ixA Like.refl pas_main (pv 14) (pe_int)) (pv 8) (nomark _))))) (pss_one (ps_ret (pe_bl))) pss_nil))))))))
    (pss_one (ps_if (pt_cmpA Like.refl pas_main (pe_glA Like.refl pas_main (by rfl) (pa_cons (pv 9) pa_nil)) (pe_glA Like.refl pas_main (by rfl) (pa_cons (pv 6) pa_nil)) (nomark _)) (pss_one (ps_ret (pe_bl))) pss_nil)))))))))
    (pss_one (ps_ret (pe_bl))))), ?_⟩
    walk_at "go"
    refine s_fn GM (hr.mono (by decide)) ⟨sc, ns, 51, rfl, hsc, hlen, fun st L H1 hst hL s1 W1 => ?_⟩
    walk_at "go"
    refine f_rng (n := 4) (fun k σ H' => WSt st L H' ∧ ∃ x2 x3 x4 x5 x6 x7 x8 x9 x10 x11 x12 x13 x14, σ = [some (.ref sc), some (.ref st), x2, x3, x4, x5, x6, x7, x8, x9, x10, x11, x12, x13, x14]) (fun R k => by walk_at "go"; exact k) (by decide) ⟨W1, none, none, none, none, none, none, none, none, none, none, none, none, none, rfl⟩ (fun k σ H2 hk pv => ?_) (fun σ H' pv => ?_)
    · obtain ⟨W2, x2, x3, x4, x5, x6, x7, x8, x9, x10, x11, x12, x13, x14, rfl⟩ := pv
      refine w_name ?_
      dsimp only [List.set]
      walk_at "go"
      refine s_fn GD (hr.mono (by decide)) ⟨st, L, 7, rfl, W2, by decide, by decide, fun v H3 v0 v1 sb3 W3 => ?_⟩
      walk_at "go"
      obtain ⟨n, hn⟩ : ∃ n : Nat, 2 + v = (n : Int) := Int.eq_ofNat_of_zero_le (by omega)
      have hn2 : 2 ≤ n := by omega
      have hn8 : n ≤ 8 := by omega
      rw [hn]
      refine w_par ?_
      walk_at "go"
      refine s_fn GB (hr.mono (by decide)) ⟨st, L, n, 6, rfl, W3, hn2, hn8, by decide, fun p rs rows H4 hp sb4 W4 hpl hrw hrl hok => ?_⟩
      walk_at "go"
      refine s_fn GD (hr.mono (by decide)) ⟨st, L, n, rfl, W4, by omega, by omega, fun m H5 m0 m1 sb5 W5 => ?_⟩
      have hpo : ¬ S2 st L p := W3.out hp
      have p5 := sb5 _ _ hpo hpl
      have r5 := hrw.keepB W4 sb5
      have ok : OkEv n rows := ⟨hn2, hn8, by omega, hok⟩
      walk_at "go"
      refine ⟨_, _, rfl, ?_⟩
      dsimp only [List.set]
      walk_at "go"
      refine s_fn GTx (hr.mono (by decide)) ⟨n, p, rs, rows, rfl, p5, r5, hn8, by omega, hok, fun H6 s6 => ?_⟩
      refine s_fn GPa (hr.mono (by decide)) ⟨n, rows, rfl, ok, fun ev H7 hev s7 evA => ?_⟩
      walk_at "go"
      have s67 := s6.trans s7
      refine s_fn GPd (hr.mono (by decide)) ⟨n, p, m, rs, rows, rfl, s67 _ _ p5, r5.keep fun q xs e => s67 _ _ e, hn8, m0, m1, hok, fun TP lp H8 hTP hlp s8 g8 l8 => ?_⟩
      walk_at "go"
      refine ⟨by show 2 ≤ sizeLine; decide, fun T0 hT0 => ?_⟩
      have s9 := same_new (o := .tup [.ref ev, .ref TP]) hT0
      have s59 := (s67.trans s8).trans s9
      refine g_nest (by rfl) (by rfl) (SqT.of upd_same) (SqT.of (s9 _ _ g8)) ?_
      dsimp only [List.set]
      have W9 := W5.same s59
      have p9 := s59 _ _ p5
      have r9 := r5.keep fun q xs e => s59 _ _ e
      have l9 := s9 _ _ l8
      have e9 := (evA.same s8).same s9
      generalize upd H8 T0 (.tup [.ref ev, .ref TP]) = H9 at *
      obtain ⟨k2, ek, hkn⟩ := ev_end ok m0 m1
      have hcs := ev_cs (m := m) ok
      generalize hX : (evRun n m rows).1 = cs at *
      rw [ek]
      obtain ⟨dx, tb, ps, f1, f2, f3⟩ := id e9
      walk_at "go"
      refine s_isiC (tyx_ins f1 T.cl_Evening T.si_Evening) kit_self ?_
      walk_at "go"
      refine s_fn GF (hr.mono (by decide)) ⟨ev, n, rows, rfl, e9, ok, fun HA sA => ?_⟩
      walk_at "go"
      refine s_fn GTx (hr.mono (by decide)) ⟨n, p, rs, rows, rfl, sA _ _ p9, r9.keep fun q xs e => sA _ _ e, hn8, by omega, hok, fun HB sB => ?_⟩
      walk_at "go"
      refine s_neS ?_
      rw [decide_eq_true rfl]
      walk_at "go"
      have sAB := sA.trans sB
      refine s_fn GE (hr.mono (by decide)) ⟨ev, n, rows, rfl, e9.same sAB, ok, fun g HC hg sC hgC => ?_⟩
      refine s_fn GX (hr.mono (by decide)) ⟨g, n, rows, rfl, hgC, ok, fun ag HD hag sD agA => ?_⟩
      walk_at "go"
      dsimp only [List.set]
      have sCD := sC.trans sD
      have sAD := sAB.trans sCD
      refine w_forQ ?_
      walk_at "go"
      refine ⟨by show 2 ≤ sizeLine; decide, fun TQ hTQ => ?_⟩
      have sQ := same_new (o := .tup [.ref ev, .ref ag]) hTQ
      have sAQ := sAD.trans sQ
      have tQ : (upd HD TQ (.tup [.ref ev, .ref ag])) TQ = some (.tup [.ref ev, .ref ag]) := upd_same
      have evQ := e9.same sAQ
      have agQ := agA.same sQ
      generalize upd HD TQ (.tup [.ref ev, .ref ag]) = HE at *
      refine f_tup (a := TQ) (xs := [.ref ev, .ref ag]) (fun j σ H' => Same HE H' ∧ ∃ x10 x11 x12 x13 x14, σ = [some (.ref sc), some (.ref st), some (.int k), some (.int n), some (.ref p), some (.int m), some (.ref ev), some (.ref lp), some (.int k2), some (.ref ag), x10, x11, x12, x13, x14]) (fun R k => k)
        ⟨Same.refl _, _, _, _, _, _, rfl⟩ (fun j σ H' _ pv => SqT.of (pv.1 _ _ tQ)) (fun j x σ HF hx pv => ?_) (fun σ HF pv => ?_)
      · obtain ⟨sF, x10, x11, x12, x13, x14, rfl⟩ := pv
        obtain ⟨o, rfl, oA0⟩ : ∃ o, x = .ref o ∧ EvAt a.c_Evening a.c_Bill HE o n rows := by
          cases j with
          | zero => cases hx; exact ⟨ev, rfl, evQ⟩
          | succ j =>
            cases j with
            | zero => cases hx; exact ⟨ag, rfl, agQ⟩
            | succ j => simp at hx
        have oA := oA0.same sF
        obtain ⟨dx2, tb2, ps2, o1, o2, o3⟩ := id oA
        refine w_name ?_
        dsimp only [List.set]
        walk_at "go"
        refine w_coA ?_
        walk_at "go"
        refine ⟨o, rfl, ?_⟩
        walk_at "go"
        refine ⟨⟨_, _, _, o1⟩, s_callO o1 T.co_Evening GC (hr.mono (by decide)) ⟨o, m, n, rows, rfl, oA, ok, m0, m1, fun TT r H1 hTT sG g1 sh => ?_⟩⟩
        rw [ek] at g1
        rw [hX] at sh
        refine g_pair (SqT.of g1) ?_
        dsimp only [List.set]
        walk_at "go"
        refine s_prop T.cl_Evening T.pr_Evening_seat_count GSc (hr.mono (by decide)) (sG _ _ o1) ⟨o, dx2, tb2, _, rfl, sG _ _ o1, ?_⟩
        walk_at "go"
        refine w_lcQ ?_
        walk_at "go"
        refine s_prop T.cl_Evening T.pr_Evening_bills GBi (hr.mono (by decide)) (sG _ _ o1) ⟨o, dx2, tb2, _, rfl, sG _ _ o1, ?_⟩
        refine c_tupI (a := tb2) (xs := ps2.map V.ref) (fun _ => False) (fun i o H' => ∃ qs : List Addr, o = qs.map V.ref ∧ RowsAt H' qs (rows.take i)) (fun _ z => z.elim) (fun D hD => ⟨[], rfl, rfl, fun i p b z => by simp at z⟩) (fun i o H' hi pv => ?_) (fun H' sB => SqT.of (sB _ _ id (sG _ _ o2))) (fun i o H' D l1 l2 _ hd pv => ?_) (fun _ => rfl) (fun i x H' ol hx sB pv => ?_) (fun rr ol H' hr0 sB pv hL => ?_) (fun R k => k)
        · obtain ⟨qs, rfl, hq⟩ := pv
          rw [List.length_map, hq.1, List.length_take]
          omega
        · obtain ⟨qs, rfl, hq⟩ := pv
          exact ⟨qs, rfl, hq.keep fun q xs z => by rw [upd_ne (fun z2 => by rw [z2, hd] at z; cases z)]; exact z⟩
        · obtain ⟨qs, rfl, hq⟩ := pv
          have sB' : Same H1 H' := fun b o h => sB b o id h
          rw [List.getElem?_map] at hx
          cases e : ps2[i]? with
          | none => rw [e] at hx; cases hx
          | some bp =>
            rw [e] at hx
            cases hx
            obtain ⟨hi, _⟩ := List.getElem?_eq_some_iff.1 e
            obtain ⟨b, eb⟩ : ∃ b, rows[i]? = some b := ⟨_, List.getElem?_eq_getElem (by rw [← o3.1]; exact hi)⟩
            obtain ⟨dy, tb3, g2, g3⟩ := o3.2 i bp b e eb
            have sGB := sG.trans sB'
            refine turnI_map fun R hR => ?_
            walk_at "go"
            refine s_prop T.cl_Bill T.pr_Bill_amount GA (hr.mono (by decide)) (sGB _ _ g2) ⟨bp, dy, tb3, _, rfl, sGB _ _ g2, ?_⟩
            walk_at "go"
            refine s_prop T.cl_Bill T.pr_Bill_seats GT (hr.mono (by decide)) (sGB _ _ g2) ⟨bp, dy, tb3, _, rfl, sGB _ _ g2, ?_⟩
            walk_at "go"
            refine ⟨by show 2 ≤ sizeLine; decide, fun u2 hu2 => ?_⟩
            have s2 := same_new (o := .tup [.int b.1, .ref tb3]) hu2
            refine hR _ _ (Same.b s2) ⟨qs ++ [u2], by rw [List.map_append]; rfl, ?_⟩
            rw [List.take_add_one, eb]
            exact (hq.keep fun q xs z => s2 _ _ z).snoc ⟨tb3, upd_same, s2 _ _ (sGB _ _ g3)⟩
        · obtain ⟨qs, rfl, hq⟩ := pv
          rw [List.length_map, o3.1, List.take_of_length_le (Nat.le_refl _)] at hq
          have sB' : Same H1 H' := fun b o h => sB b o id h
          walk_at "go"
          refine ⟨by show 2 ≤ sizeLine; decide, fun c1 hc1 => ?_⟩
          have sC1 := same_new (o := .tup [.int (n : Nat), .ref rr]) hc1
          walk_at "go"
          refine ⟨by show 2 ≤ sizeLine; decide, fun c2 hc2 => ?_⟩
          have sC2 := same_new (o := .tup [.int (n : Nat), .ref p]) hc2
          have sC := sC1.trans sC2
          have sH := ((sF.trans sG).trans sB').trans sC
          have s9H := sAQ.trans sH
          refine s_neSelf hr' (.tup (SqT.of (sC2 _ _ upd_same)) (.cons (.int _) (.cons (.lst (SqL.of (sC _ _ hL)) (rows_dp qs rows hq.1 fun i r b z1 z2 => (hq.keep fun q xs z => sC _ _ z).2 i r b z1 z2)) .nil)))
            (.tup (SqT.of upd_same) (.cons (.int _) (.cons (.lst (SqL.of (s9H _ _ p9)) (rows_dp rs rows r9.1 fun i r b z1 z2 => (r9.keep fun q xs z => s9H _ _ z).2 i r b z1 z2)) .nil))) (evD_ok ok) (by decide) (by simp [nb, nb.nbAll, nb_rows]) ?_
          have shH := (sh.same sB').same sC
          generalize upd (upd H' c1 (.tup [.int (n : Nat), .ref rr])) c2 (.tup [.int (n : Nat), .ref p]) = HH at *
          obtain ⟨ds, ts, i1, i2⟩ := id shH
          walk_at "go"
          refine s_prop T.cl_Shares T.pr_Shares_cents GCe (hr.mono (by decide)) i1 ⟨r, ds, ts, rfl, i1, ?_⟩
          walk_at "go"
          refine s_listOf (.inr (SqT.of i2)) fun c3 hc3 => ?_
          have sD1 := same_new (o := .lst (cs.map V.int)) hc3
          walk_at "go"
          refine ⟨by show 2 ≤ sizeLine; decide, fun c4 hc4 => ?_⟩
          have sD2 := same_new (o := .lst [.ref c3, .int (k2 : Nat)]) hc4
          walk_at "go"
          refine ⟨by show 2 ≤ sizeLine; decide, fun c5 hc5 => ?_⟩
          have sD3 := same_new (o := .lst [.ref lp, .int (k2 : Nat)]) hc5
          have sD := (sD1.trans sD2).trans sD3
          have s9D := s9H.trans sD
          have hcl : cs.length < 1000 := by rw [hcs.1]; omega
          refine s_fn GAl (hr.mono (by decide)) ⟨_, _, .list [.list (cs.map PyData.int), .int (k2 : Nat)], .list [.list (cs.map PyData.int), .int (k2 : Nat)], rfl, dp_li (sD3 _ _ upd_same) (sD3 _ _ (sD2 _ _ upd_same)), dp_li upd_same (s9D _ _ l9), ok_li hcl, ok_li hcl, fun bB HI sI hbB => ?_⟩
          obtain rfl : bB = true := hbB.2 rfl
          walk_at "go"
          have sHI := sD.trans sI
          have sFI := sH.trans sHI
          have oI := oA0.same (sFI)
          refine w_m1 ?_
          walk_at "go"
          refine s_fn GR (hr.mono (by decide)) ⟨o, m, n, rows, k2, rfl, oI, ok, m0, m1, ek, fun HJ sJ => ?_⟩
          rw [hX]
          refine ⟨⟨_, rfl⟩, ?_⟩
          walk_at "go"
          have rl := rec_len (n := n) (m := k2) (by omega) (by omega) hcs
          refine ⟨_, "\n", rfl, rfl, rfl, Nat.le_trans (show _ ≤ 1000 by omega) lim, ?_⟩
          rw [rec_split (by omega) (by omega) hcs]
          intro l1 hl1
          have sK := same_new (o := .lst ((linesV n cs k2).map V.str)) hl1
          have s9K := ((s9D.trans sI).trans sJ).trans sK
          walk_at "go"
          refine s_fn GLi (hr.mono (by decide)) ⟨n, lp, cs, k2, rfl, s9K _ _ l9, hcs.1, hn8, by omega, hcs.2, fun l2 HL hl2 sL h2 => ?_⟩
          refine s_neSelf hr' (.lst (SqL.of (sL _ _ upd_same)) (strs_dp _)) (.lst (SqL.of h2) (strs_dp _)) (ok_strs (by rw [lines_len]; omega) (lines_ascii (by omega) (by omega) hcs)) (by decide) (by simp [nb, nb_strs]) ?_
          walk_at "go"
          have sJL := (sJ.trans sK).trans sL
          refine s_fn GR (hr.mono (by decide)) ⟨o, m, n, rows, k2, rfl, oI.same sJL, ok, m0, m1, ek, fun HM sM => ?_⟩
          rw [hX]
          refine s_fn GPr (hr.mono (by decide)) ⟨n, cs, k2, rfl, hn2, hn8, hkn, hcs, fun pt pr HN hpt sN hpN shN => ?_⟩
          walk_at "go"
          refine s_ixT (SqT.of hpN) (v := .ref pr) rfl ?_
          walk_at "go"
          have sIN := (sJL.trans sM).trans sN
          refine s_neSh0 T GEq (hr.mono (by decide)) shN (shH.same (sHI.trans sIN)) ?_
          rw [decide_eq_true rfl]
          walk_at "go"
          refine s_ixT (SqT.of hpN) (v := .int (k2 : Nat)) rfl ?_
          walk_at "go"
          refine ite_n (fun z => absurd rfl z) (fun _ => ?_)
          walk_at "go"
          exact ⟨sFI.trans sIN, _, _, _, _, _, rfl⟩
      · obtain ⟨sF, x10, x11, x12, x13, x14, rfl⟩ := pv
        walk_at "go"
        refine s_fn GE (hr.mono (by decide)) ⟨ag, n, rows, rfl, agQ.same sF, ok, fun g1 HG hg1 sG h1 => ?_⟩
        walk_at "go"
        refine s_fn GE (hr.mono (by decide)) ⟨ev, n, rows, rfl, (evQ.same sF).same sG, ok, fun g2 HI hg2 sI h2 => ?_⟩
        refine s_neLsts hr' (SqL.of (sI _ _ h1)) (SqL.of h2) ?_
        rw [decide_eq_true rfl]
        walk_at "go"
        exact ⟨W9.same (((sAQ.trans sF).trans sG).trans sI), _, _, _, _, _, _, _, _, _, _, _, _, _, rfl⟩
    · obtain ⟨W2, x2, x3, x4, x5, x6, x7, x8, x9, x10, x11, x12, x13, x14, rfl⟩ := pv
      walk_at "go"
      exact q _
end

end Odd

namespace Odd
open PySem PySem.Spec PyProof.Rows L2
theorem all_fn {l : PySem.W.OpenLaw} {w : World} {K : PySem.W.Frag} {mg : Str → Option Value} {a : Ad} {fa : Addr} (T : Facts K mg a) (hfa : mg "law" = some (.ref fa)) :
    ∃ fd : FuncData, (∀ (s : Shared) (v : Value), BindsTo s fd ⟨[v], []⟩ [("_law_script", v)]) ∧ ∀ base : Heap, K.In base → base.Ns mainGlobals mg → FnOk l.prog w K mg base (L2.CX l.prog w) 11 fa fd ["_law_script"] (spLaw K) := by
  have e := hfa.symm.trans T.g_law
  cases e
  obtain ⟨fd, F⟩ := T.u_law
  refine ⟨fd, fun s v => ?_, fun base _ _ => ok_law T F⟩
  obtain ⟨oc, od, kV, doc, pm, an, cdv, ct, osl, rfl, lk, hcd⟩ := F.ex
  exact .of_eq rfl
theorem walk {l : PySem.W.OpenLaw} {q : Program} {loose : List Str} {XP : (Str → Option Value) → Heap → Prop} {YP : World → Heap → Prop} {d : DefRec} {K : Params → PySem.W.Frag} (hn : l.most = some 63) (hdf : d.params.defaults = [])
    (hY : ∀ (w : World) (h : Heap), YP w h → (K w.params).In h)
    (F : ∀ (w : World) (mg : Str → Option Value) (fa : Addr) (h : Heap), (K w.params).In h → h.Ns mainGlobals mg → mg d.name = some (.ref fa) →
      ∃ fd : FuncData, (∀ (s : Shared) (u : Value), BindsTo s fd ⟨[u], []⟩ [("_law_script", u)]) ∧ ∀ base : Heap, (K w.params).In base → base.Ns mainGlobals mg → FnOk l.prog w (K w.params) mg base (L2.CX l.prog w) 11 fa fd ["_law_script"] (spLaw (K w.params))) :
    PySem.W.WalkO q loose XP YP l.row.toRowW d [] (fun f vs => PySem.call f vs) :=
  L2.walk_of (n := 63) (k := 11) (x := "_law_script") (CX := fun w => L2.CX l.prog w) (sp := fun w => spLaw (K w.params)) hn (by decide) hdf ⟨rfl, by decide, by decide⟩ hY F (fun _ _ a ns hl _ hS => ⟨a, ns, rfl, hS, hl, fun _ => rfl⟩) fun _ _ _ _ _ x => by
    obtain ⟨_, _, _, _, _, _, _, _, _, _, _, _, z⟩ := x
    exact z
end Odd
open PySem PySem.W PyProof.Rows
set_option maxRecDepth 100000 in
set_option maxHeartbeats 0 in
theorem PySem.Challenge.cw_oddcents_k51_whole_texts_codes_and_recei_holds : PySem.Challenge.rw_oddcents_k51_whole_texts_codes_and_recei.Holds := by
  w_on; o_law; k_head; (case hw => w_witness2)
  k_fill
  refine Odd.walk (l := PySem.Challenge.rw_oddcents_k51_whole_texts_codes_and_recei) rfl rfl (fun w h Y => by first | exact PySem.W.kIn_of Y | exact PySem.W.km_in_of Y) ?F
  case F =>
    intro w mg fa h KX G hmg
    refine' Odd.all_fn (Odd.all_mk KX G ?z_TypeError ?z_bool ?z_classmethod ?z_dict ?z_divmod ?z_enumerate ?z_int ?z_isinstance ?z_len ?z_list ?z_max ?z_min ?z_property ?z_range ?z_sorted ?z_str ?z_sum ?z_super ?z_tuple ?z_zip ?g_MAX_AMOUNT ?g_MIN_SEAT_COUNT ?g_LINE_SIGNS ?g_MAX_CENT_DIGITS ?g_FIRST_BYTE ?g_GROUP ?g_MAX_DIGITS ?g__wall ?l1 ?c1 ?k1 ?g_is_between ?l2 ?c2 ?k2 ?g_is_digits ?l3 ?c3 ?k3 ?g_seats_of ?l4 ?c4 ?k4 ?g_check_amount ?l5 ?c5 ?k5 ?g_check_seats ?l6 ?c6 ?k6 ?g_check_seat_count ?l7 ?c7 ?k7 ?g_check_bills ?l8 ?c8 ?k8 ?g_check_mark ?l9 ?c9 ?k9 ?g_no_shares ?l10 ?c10 ?k10 ?g_seats_behind ?l11 ?c11 ?k11 ?g_split_bill ?l12 ?c12 ?k12 ?g_title_line ?l13 ?c13 ?k13 ?g_line_of ?l14 ?c14 ?k14 ?g_seat_line ?l15 ?c15 ?k15 ?g_receipt ?l16 ?c16 ?k16 ?g_cents_of_line ?l17 ?c17 ?k17 ?g_mark_of_line ?l18 ?c18 ?k18 ?g_parse_receipt ?l19 ?c19 ?k19 ?g_amount_bytes ?l20 ?c20 ?k20 ?g_checksum ?l21 ?c21 ?k21 ?g_encode_evening ?l22 ?c22 ?k22 ?g_byte_at ?l23 ?c23 ?k23 ?g_amount_at ?l24 ?c24 ?k24 ?g_decode_evening ?l25 ?c25 ?k25 ?g_row_of ?l26 ?c26 ?k26 ?g_format_evening ?l27 ?c27 ?k27 ?g_is_number ?l28 ?c28 ?k28 ?g_check_row ?l29 ?c29 ?k29 ?g_numbers_of_row ?l30 ?c30 ?k30 ?g_parse_evening ?l31 ?c31 ?k31 ?g__law_mix ?l32 ?c32 ?k32 ?g__law_next ?l33 ?c33 ?k33 ?g__law_alike ?l34 ?c34 ?k34 ?g__law_bill ?l35 ?c35 ?k35 ?g__law_bills ?l36 ?c36 ?k36 ?g__law_text ?l37 ?c37 ?k37 ?g__law_pay ?l38 ?c38 ?k38 ?g__law_paid ?l39 ?c39 ?k39 ?g__law_money ?l40 ?c40 ?k40 ?g__law_lines ?l41 ?c41 ?k41 ?g_law ?l42 ?c42 ?k42 ?g_CentError ?x_CentError ?xk_CentError ?xs_CentError ?xt_CentError ?g_InvalidBill ?g_InvalidEvening ?g_InvalidMark ?x_InvalidMark ?xk_InvalidMark ?xs_InvalidMark ?xt_InvalidMark ?g_UnknownSeat ?x_UnknownSeat ?xk_UnknownSeat ?xs_UnknownSeat ?xt_UnknownSeat ?g_OtherTable ?x_OtherTable ?xk_OtherTable ?xs_OtherTable ?xt_OtherTable ?g_InvalidNumber ?x_InvalidNumber ?xk_InvalidNumber ?xs_InvalidNumber ?xt_InvalidNumber ?g_InvalidText ?g_InvalidReceipt ?g_DecodeError ?g_Shares ?pg_Shares ?hd_Shares ?po_Shares ?sa_Shares ?ia_Shares ?ib_Shares ?ic_Shares ?id_Shares ?ob_Shares ?sf_Shares ?tyc_Shares ?kit_Shares_tuple ?kit_Shares_list ?kit_Shares_int ?na_Shares_cents ?ma_Shares__init_ ?mb_Shares__init_ ?l43 ?c43 ?k43 ?mk_Shares ?kc_Shares ?pa_Shares_cents ?pb_Shares_cents ?pc_Shares_cents ?pd_Shares_cents ?l44 ?c44 ?k44 ?pa_Shares_whole ?pb_Shares_whole ?pc_Shares_whole ?pd_Shares_whole ?l45 ?c45 ?k45 ?ma_Shares__getitem_ ?mb_Shares__getitem_ ?l46 ?c46 ?k46 ?ma_Shares__iter_ ?mb_Shares__iter_ ?l47 ?c47 ?k47 ?ma_Shares__len_ ?mb_Shares__len_ ?l48 ?c48 ?k48 ?ma_Shares__eq_ ?mb_Shares__eq_ ?l49 ?c49 ?k49 ?na_Shares__eq_ ?nf_Shares__eq_ ?nt_Shares__eq_ ?ma_Shares__add_ ?mb_Shares__add_ ?l50 ?c50 ?k50 ?ma_Shares__sub_ ?mb_Shares__sub_ ?l51 ?c51 ?k51 ?ma_Shares__mul_ ?mb_Shares__mul_ ?l52 ?c52 ?k52 ?oa_Shares__mul_ ?ob_Shares__mul_ ?oc_Shares__mul_ ?od_Shares__mul_ ?ma_Shares__neg_ ?mb_Shares__neg_ ?l53 ?c53 ?k53 ?ma_Shares__abs_ ?mb_Shares__abs_ ?l54 ?c54 ?k54 ?g_Bill ?pg_Bill ?hd_Bill ?po_Bill ?sa_Bill ?ia_Bill ?ib_Bill ?ic_Bill ?id_Bill ?ob_Bill ?sf_Bill ?tyc_Bill ?kit_Bill_tuple ?kit_Bill_list ?kit_Bill_int ?na_Bill_amount ?na_Bill_seats ?cra_Bill ?crb_Bill ?cva_Bill_MAX_SEATS ?ma_Bill__init_ ?mb_Bill__init_ ?l55 ?c55 ?k55 ?mk_Bill ?kc_Bill ?pa_Bill_amount ?pb_Bill_amount ?pc_Bill_amount ?pd_Bill_amount ?l56 ?c56 ?k56 ?pa_Bill_seats ?pb_Bill_seats ?pc_Bill_seats ?pd_Bill_seats ?l57 ?c57 ?k57 ?pa_Bill_odd_cents ?pb_Bill_odd_cents ?pc_Bill_odd_cents ?pd_Bill_odd_cents ?l58 ?c58 ?k58 ?ma_Bill__contains_ ?mb_Bill__contains_ ?l59 ?c59 ?k59 ?g_Evening ?pg_Evening ?hd_Evening ?po_Evening ?sa_Evening ?ia_Evening ?ib_Evening ?ic_Evening ?id_Evening ?ob_Evening ?sf_Evening ?tyc_Evening ?kit_Evening_tuple ?kit_Evening_list ?kit_Evening_int ?na_Evening_seat_count ?na_Evening_bills ?cra_Evening ?crb_Evening ?cva_Evening_MAX_BILLS ?ma_Evening__init_ ?mb_Evening__init_ ?l60 ?c60 ?k60 ?mk_Evening ?kc_Evening ?cma_Evening_together ?cmb_Evening_together ?cmc_Evening_together ?l61 ?c61 ?k61 ?pa_Evening_seat_count ?pb_Evening_seat_count ?pc_Evening_seat_count ?pd_Evening_seat_count ?l62 ?c62 ?k62 ?pa_Evening_bills ?pb_Evening_bills ?pc_Evening_bills ?pd_Evening_bills ?l63 ?c63 ?k63 ?ma_Evening__call_ ?mb_Evening__call_ ?l64 ?c64 ?k64 ?coc_Evening__call_ ?ma_Evening__getitem_ ?mb_Evening__getitem_ ?l65 ?c65 ?k65 ?ma_Evening__iter_ ?mb_Evening__iter_ ?l66 ?c66 ?k66 ?ma_Evening__len_ ?mb_Evening__len_ ?l67 ?c67 ?k67 ?ma_Evening__bool_ ?mb_Evening__bool_ ?l68 ?c68 ?k68 ?ma_Evening__add_ ?mb_Evening__add_ ?l69 ?c69 ?k69 ?ma_Evening__mul_ ?mb_Evening__mul_ ?l70 ?c70 ?k70 ?oa_Evening__mul_ ?ob_Evening__mul_ ?oc_Evening__mul_ ?od_Evening__mul_) hmg
    (case z_TypeError => k_is)
    (case z_bool => k_is)
    (case z_classmethod => k_is)
    (case z_dict => k_is)
    (case z_divmod => k_is)
    (case z_enumerate => k_is)
    (case z_int => k_is)
    (case z_isinstance => k_is)
    (case z_len => k_is)
    (case z_list => k_is)
    (case z_max => k_is)
    (case z_min => k_is)
    (case z_property => k_is)
    (case z_range => k_is)
    (case z_sorted => k_is)
    (case z_str => k_is)
    (case z_sum => k_is)
    (case z_super => k_is)
    (case z_tuple => k_is)
    (case z_zip => k_is)
    (case g_MAX_AMOUNT => k_is)
    (case g_MIN_SEAT_COUNT => k_is)
    (case g_LINE_SIGNS => k_is)
    (case g_MAX_CENT_DIGITS => k_is)
    (case g_FIRST_BYTE => k_is)
    (case g_GROUP => k_is)
    (case g_MAX_DIGITS => k_is)
    (case g__wall => k_is)
    (case l1 => k_is)
    (case c1 => k_is)
    (case k1 => k_is)
    (case g_is_between => k_is)
    (case l2 => k_is)
    (case c2 => k_is)
    (case k2 => k_is)
    (case g_is_digits => k_is)
    (case l3 => k_is)
    (case c3 => k_is)
    (case k3 => k_is)
    (case g_seats_of => k_is)
    (case l4 => k_is)
    (case c4 => k_is)
    (case k4 => k_is)
    (case g_check_amount => k_is)
    (case l5 => k_is)
    (case c5 => k_is)
    (case k5 => k_is)
    (case g_check_seats => k_is)
    (case l6 => k_is)
    (case c6 => k_is)
    (case k6 => k_is)
    (case g_check_seat_count => k_is)
    (case l7 => k_is)
    (case c7 => k_is)
    (case k7 => k_is)
    (case g_check_bills => k_is)
    (case l8 => k_is)
    (case c8 => k_is)
    (case k8 => k_is)
    (case g_check_mark => k_is)
    (case l9 => k_is)
    (case c9 => k_is)
    (case k9 => k_is)
    (case g_no_shares => k_is)
    (case l10 => k_is)
    (case c10 => k_is)
    (case k10 => k_is)
    (case g_seats_behind => k_is)
    (case l11 => k_is)
    (case c11 => k_is)
    (case k11 => k_is)
    (case g_split_bill => k_is)
    (case l12 => k_is)
    (case c12 => k_is)
    (case k12 => k_is)
    (case g_title_line => k_is)
    (case l13 => k_is)
    (case c13 => k_is)
    (case k13 => k_is)
    (case g_line_of => k_is)
    (case l14 => k_is)
    (case c14 => k_is)
    (case k14 => k_is)
    (case g_seat_line => k_is)
    (case l15 => k_is)
    (case c15 => k_is)
    (case k15 => k_is)
    (case g_receipt => k_is)
    (case l16 => k_is)
    (case c16 => k_is)
    (case k16 => k_is)
    (case g_cents_of_line => k_is)
    (case l17 => k_is)
    (case c17 => k_is)
    (case k17 => k_is)
    (case g_mark_of_line => k_is)
    (case l18 => k_is)
    (case c18 => k_is)
    (case k18 => k_is)
    (case g_parse_receipt => k_is)
    (case l19 => k_is)
    (case c19 => k_is)
    (case k19 => k_is)
    (case g_amount_bytes => k_is)
    (case l20 => k_is)
    (case c20 => k_is)
    (case k20 => k_is)
    (case g_checksum => k_is)
    (case l21 => k_is)
    (case c21 => k_is)
    (case k21 => k_is)
    (case g_encode_evening => k_is)
    (case l22 => k_is)
    (case c22 => k_is)
    (case k22 => k_is)
    (case g_byte_at => k_is)
    (case l23 => k_is)
    (case c23 => k_is)
    (case k23 => k_is)
    (case g_amount_at => k_is)
    (case l24 => k_is)
    (case c24 => k_is)
    (case k24 => k_is)
    (case g_decode_evening => k_is)
    (case l25 => k_is)
    (case c25 => k_is)
    (case k25 => k_is)
    (case g_row_of => k_is)
    (case l26 => k_is)
    (case c26 => k_is)
    (case k26 => k_is)
    (case g_format_evening => k_is)
    (case l27 => k_is)
    (case c27 => k_is)
    (case k27 => k_is)
    (case g_is_number => k_is)
    (case l28 => k_is)
    (case c28 => k_is)
    (case k28 => k_is)
    (case g_check_row => k_is)
    (case l29 => k_is)
    (case c29 => k_is)
    (case k29 => k_is)
    (case g_numbers_of_row => k_is)
    (case l30 => k_is)
    (case c30 => k_is)
    (case k30 => k_is)
    (case g_parse_evening => k_is)
    (case l31 => k_is)
    (case c31 => k_is)
    (case k31 => k_is)
    (case g__law_mix => k_is)
    (case l32 => k_is)
    (case c32 => k_is)
    (case k32 => k_is)
    (case g__law_next => k_is)
    (case l33 => k_is)
    (case c33 => k_is)
    (case k33 => k_is)
    (case g__law_alike => k_is)
    (case l34 => k_is)
    (case c34 => k_is)
    (case k34 => k_is)
    (case g__law_bill => k_is)
    (case l35 => k_is)
    (case c35 => k_is)
    (case k35 => k_is)
    (case g__law_bills => k_is)
    (case l36 => k_is)
    (case c36 => k_is)
    (case k36 => k_is)
    (case g__law_text => k_is)
    (case l37 => k_is)
    (case c37 => k_is)
    (case k37 => k_is)
    (case g__law_pay => k_is)
    (case l38 => k_is)
    (case c38 => k_is)
    (case k38 => k_is)
    (case g__law_paid => k_is)
    (case l39 => k_is)
    (case c39 => k_is)
    (case k39 => k_is)
    (case g__law_money => k_is)
    (case l40 => k_is)
    (case c40 => k_is)
    (case k40 => k_is)
    (case g__law_lines => k_is)
    (case l41 => k_is)
    (case c41 => k_is)
    (case k41 => k_is)
    (case g_law => k_is)
    (case l42 => k_is)
    (case c42 => k_is)
    (case k42 => k_is)
    (case g_CentError => k_is)
    (case x_CentError => k_exc)
    (case xk_CentError => k_is)
    (case xs_CentError => k_is)
    (case xt_CentError => k_is)
    (case g_InvalidBill => k_is)
    (case g_InvalidEvening => k_is)
    (case g_InvalidMark => k_is)
    (case x_InvalidMark => k_exc)
    (case xk_InvalidMark => k_is)
    (case xs_InvalidMark => k_is)
    (case xt_InvalidMark => k_is)
    (case g_UnknownSeat => k_is)
    (case x_UnknownSeat => k_exc)
    (case xk_UnknownSeat => k_is)
    (case xs_UnknownSeat => k_is)
    (case xt_UnknownSeat => k_is)
    (case g_OtherTable => k_is)
    (case x_OtherTable => k_exc)
    (case xk_OtherTable => k_is)
    (case xs_OtherTable => k_is)
    (case xt_OtherTable => k_is)
    (case g_InvalidNumber => k_is)
    (case x_InvalidNumber => k_exc)
    (case xk_InvalidNumber => k_is)
    (case xs_InvalidNumber => k_is)
    (case xt_InvalidNumber => k_is)
    (case g_InvalidText => k_is)
    (case g_InvalidReceipt => k_is)
    (case g_DecodeError => k_is)
    (case g_Shares => k_is)
    (case pg_Shares => k_is)
    (case hd_Shares => k_is)
    (case po_Shares => k_is)
    (case sa_Shares => k_is)
    (case ia_Shares => k_is)
    (case ib_Shares => k_is)
    (case ic_Shares => k_is)
    (case id_Shares => k_is)
    (case ob_Shares => k_is)
    (case sf_Shares => k_is)
    (case tyc_Shares => k_is)
    (case kit_Shares_tuple => k_is)
    (case kit_Shares_list => k_is)
    (case kit_Shares_int => k_is)
    (case na_Shares_cents => k_is)
    (case ma_Shares__init_ => k_is)
    (case mb_Shares__init_ => k_is)
    (case l43 => k_is)
    (case c43 => k_is)
    (case k43 => k_is)
    (case mk_Shares => k_is)
    (case kc_Shares => k_is)
    (case pa_Shares_cents => k_is)
    (case pb_Shares_cents => k_is)
    (case pc_Shares_cents => k_is)
    (case pd_Shares_cents => k_is)
    (case l44 => k_is)
    (case c44 => k_is)
    (case k44 => k_is)
    (case pa_Shares_whole => k_is)
    (case pb_Shares_whole => k_is)
    (case pc_Shares_whole => k_is)
    (case pd_Shares_whole => k_is)
    (case l45 => k_is)
    (case c45 => k_is)
    (case k45 => k_is)
    (case ma_Shares__getitem_ => k_is)
    (case mb_Shares__getitem_ => k_is)
    (case l46 => k_is)
    (case c46 => k_is)
    (case k46 => k_is)
    (case ma_Shares__iter_ => k_is)
    (case mb_Shares__iter_ => k_is)
    (case l47 => k_is)
    (case c47 => k_is)
    (case k47 => k_is)
    (case ma_Shares__len_ => k_is)
    (case mb_Shares__len_ => k_is)
    (case l48 => k_is)
    (case c48 => k_is)
    (case k48 => k_is)
    (case ma_Shares__eq_ => k_is)
    (case mb_Shares__eq_ => k_is)
    (case l49 => k_is)
    (case c49 => k_is)
    (case k49 => k_is)
    (case na_Shares__eq_ => k_is)
    (case nf_Shares__eq_ => k_is)
    (case nt_Shares__eq_ => k_is)
    (case ma_Shares__add_ => k_is)
    (case mb_Shares__add_ => k_is)
    (case l50 => k_is)
    (case c50 => k_is)
    (case k50 => k_is)
    (case ma_Shares__sub_ => k_is)
    (case mb_Shares__sub_ => k_is)
    (case l51 => k_is)
    (case c51 => k_is)
    (case k51 => k_is)
    (case ma_Shares__mul_ => k_is)
    (case mb_Shares__mul_ => k_is)
    (case l52 => k_is)
    (case c52 => k_is)
    (case k52 => k_is)
    (case oa_Shares__mul_ => k_is)
    (case ob_Shares__mul_ => k_is)
    (case oc_Shares__mul_ => k_is)
    (case od_Shares__mul_ => k_is)
    (case ma_Shares__neg_ => k_is)
    (case mb_Shares__neg_ => k_is)
    (case l53 => k_is)
    (case c53 => k_is)
    (case k53 => k_is)
    (case ma_Shares__abs_ => k_is)
    (case mb_Shares__abs_ => k_is)
    (case l54 => k_is)
    (case c54 => k_is)
    (case k54 => k_is)
    (case g_Bill => k_is)
    (case pg_Bill => k_is)
    (case hd_Bill => k_is)
    (case po_Bill => k_is)
    (case sa_Bill => k_is)
    (case ia_Bill => k_is)
    (case ib_Bill => k_is)
    (case ic_Bill => k_is)
    (case id_Bill => k_is)
    (case ob_Bill => k_is)
    (case sf_Bill => k_is)
    (case tyc_Bill => k_is)
    (case kit_Bill_tuple => k_is)
    (case kit_Bill_list => k_is)
    (case kit_Bill_int => k_is)
    (case na_Bill_amount => k_is)
    (case na_Bill_seats => k_is)
    (case cra_Bill => k_is)
    (case crb_Bill => k_is)
    (case cva_Bill_MAX_SEATS => k_is)
    (case ma_Bill__init_ => k_is)
    (case mb_Bill__init_ => k_is)
    (case l55 => k_is)
    (case c55 => k_is)
    (case k55 => k_is)
    (case mk_Bill => k_is)
    (case kc_Bill => k_is)
    (case pa_Bill_amount => k_is)
    (case pb_Bill_amount => k_is)
    (case pc_Bill_amount => k_is)
    (case pd_Bill_amount => k_is)
    (case l56 => k_is)
    (case c56 => k_is)
    (case k56 => k_is)
    (case pa_Bill_seats => k_is)
    (case pb_Bill_seats => k_is)
    (case pc_Bill_seats => k_is)
    (case pd_Bill_seats => k_is)
    (case l57 => k_is)
    (case c57 => k_is)
    (case k57 => k_is)
    (case pa_Bill_odd_cents => k_is)
    (case pb_Bill_odd_cents => k_is)
    (case pc_Bill_odd_cents => k_is)
    (case pd_Bill_odd_cents => k_is)
    (case l58 => k_is)
    (case c58 => k_is)
    (case k58 => k_is)
    (case ma_Bill__contains_ => k_is)
    (case mb_Bill__contains_ => k_is)
    (case l59 => k_is)
    (case c59 => k_is)
    (case k59 => k_is)
    (case g_Evening => k_is)
    (case pg_Evening => k_is)
    (case hd_Evening => k_is)
    (case po_Evening => k_is)
    (case sa_Evening => k_is)
    (case ia_Evening => k_is)
    (case ib_Evening => k_is)
    (case ic_Evening => k_is)
    (case id_Evening => k_is)
    (case ob_Evening => k_is)
    (case sf_Evening => k_is)
    (case tyc_Evening => k_is)
    (case kit_Evening_tuple => k_is)
    (case kit_Evening_list => k_is)
    (case kit_Evening_int => k_is)
    (case na_Evening_seat_count => k_is)
    (case na_Evening_bills => k_is)
    (case cra_Evening => k_is)
    (case crb_Evening => k_is)
    (case cva_Evening_MAX_BILLS => k_is)
    (case ma_Evening__init_ => k_is)
    (case mb_Evening__init_ => k_is)
    (case l60 => k_is)
    (case c60 => k_is)
    (case k60 => k_is)
    (case mk_Evening => k_is)
    (case kc_Evening => k_is)
    (case cma_Evening_together => k_is)
    (case cmb_Evening_together => k_is)
    (case cmc_Evening_together => k_is)
    (case l61 => k_is)
    (case c61 => k_is)
    (case k61 => k_is)
    (case pa_Evening_seat_count => k_is)
    (case pb_Evening_seat_count => k_is)
    (case pc_Evening_seat_count => k_is)
    (case pd_Evening_seat_count => k_is)
    (case l62 => k_is)
    (case c62 => k_is)
    (case k62 => k_is)
    (case pa_Evening_bills => k_is)
    (case pb_Evening_bills => k_is)
    (case pc_Evening_bills => k_is)
    (case pd_Evening_bills => k_is)
    (case l63 => k_is)
    (case c63 => k_is)
    (case k63 => k_is)
    (case ma_Evening__call_ => k_is)
    (case mb_Evening__call_ => k_is)
    (case l64 => k_is)
    (case c64 => k_is)
    (case k64 => k_is)
    (case coc_Evening__call_ => k_is)
    (case ma_Evening__getitem_ => k_is)
    (case mb_Evening__getitem_ => k_is)
    (case l65 => k_is)
    (case c65 => k_is)
    (case k65 => k_is)
    (case ma_Evening__iter_ => k_is)
    (case mb_Evening__iter_ => k_is)
    (case l66 => k_is)
    (case c66 => k_is)
    (case k66 => k_is)
    (case ma_Evening__len_ => k_is)
    (case mb_Evening__len_ => k_is)
    (case l67 => k_is)
    (case c67 => k_is)
    (case k67 => k_is)
    (case ma_Evening__bool_ => k_is)
    (case mb_Evening__bool_ => k_is)
    (case l68 => k_is)
    (case c68 => k_is)
    (case k68 => k_is)
    (case ma_Evening__add_ => k_is)
    (case mb_Evening__add_ => k_is)
    (case l69 => k_is)
    (case c69 => k_is)
    (case k69 => k_is)
    (case ma_Evening__mul_ => k_is)
    (case mb_Evening__mul_ => k_is)
    (case l70 => k_is)
    (case c70 => k_is)
    (case k70 => k_is)
    (case oa_Evening__mul_ => k_is)
    (case ob_Evening__mul_ => k_is)
    (case oc_Evening__mul_ => k_is)
    (case od_Evening__mul_ => k_is)

