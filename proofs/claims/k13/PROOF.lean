import PyProof.Rows.All
import Wide.All
import OpenK.AllK
import Wide.FinOn
import HandS.ForMost
import HandS.Exc
import HandS.TryOnly
import HandS.ExcOwn
import HandS.WordsExc
import HandS.Star
import HandS.OwnEq
import HandS.SlotsOwn
import HandS.Property
import HandS.TryMany
import HandS.Wide
import HandS.IsInst
import HandS.Zip
import PyProof.WalksMore
import HandS.Walk
import HandS.ClsMeth
import KE.GoesMore
import KE.GoesEnum
import HandS.TupAny
import HandS.Conv
import HandS.Gcd
import HandS.Style
import HandS.Nested
import KE.KDflt
import HandS.EndTab
import KE.KNestM
import PyProof.NeKinds
import HandS.Dict
import HandS.Small
import PyProof.Rows.TupMore
import HandS.Text
import HandS.StrMore
import HandS.TupMul
import HandS.SortKw
import KE.DataMinKey
import KE.LtSeq
import HandS.SortInts
import HandS.SetBool
import HandS.Strs
import PyProof.Rows.TupDisplay
import HandS.SetFor
import HandS.Deep
import PySem.Challenge.RW_oddcents_k13_known_tables
import HandS.EndBits
set_option Elab.async false
set_option linter.all false
set_option maxRecDepth 100000
set_option maxHeartbeats 20000000
namespace Odd
open PySem PySem.Spec PyProof.Rows L2

/-! ### own operators of plain instances -/
section
variable {X : Cx} {CX : CXT} {pins : List (Addr × Obj)} {σ : L2.St} {H : Hp} {s : Shared} {a C dx g : Addr} {fs : List (Str × V)} {n : Nat} {sp : Sp} {E : XK}

theorem inst_at (I : Inv X pins σ H s) (e : H a = some (.ins C dx fs)) : ∃ ox od, PySem.W.InstAt s.heap a ox C (some od) := by
  obtain ⟨mA, O, _⟩ := ins_get I.hok e
  obtain ⟨od, J, _⟩ := O.look
  exact ⟨_, _, J⟩

theorem call_ref {Q : VK} {us : List Value} {vs : List V} (F : FnR X.prog X.w X.K X.mg X.base CX n g sp) (hr : Room n X.A) (hx : Passes CX X E) (I : Inv X pins σ H s) (r : Vals vs us) (h : sp vs H Q E) :
    wpAny (model X.prog X.w) X.A (call (.ref g) us) (EP X pins σ Q) X.xe s := wpAny_call (run_fnR F hr hx I r h)
theorem call_in1 {Q : VK} {us : List Value} {vs : List V} (F : FnR X.prog X.w X.K X.mg X.base CX n g sp) (hr : Room (n + 1) X.A) (hx : Passes CX X E) (I : Inv X pins σ H s) (r : Vals vs us) (h : sp vs H Q E) :
    wpAny (model X.prog X.w) X.A.in1 (call (.ref g) us) (EP X pins σ Q) X.xe s := wpAny_call (SlX.run_at F hr.in1 I.env0.in1 hx I r h)

/-- x op y, both instances of the class at C, whose def is at g -/
def rOpSame (C : Addr) (sp : Sp) (E : XK) : R2 := fun x y H Q => ∃ a b dx dy fs gs, x = .ref a ∧ y = .ref b ∧ H a = some (.ins C dx fs) ∧ H b = some (.ins C dy gs) ∧ sp [x, y] H Q E
theorem op_same {op : Operator} (hc : PySem.W.selfFirst X.K C = true) (hs : PySem.W.findIn X.K (.ref C) (PySem.dunder op.info.2) = some (some (.ref g))) (hf : PySem.W.isFn X.K (.ref g) = true)
    (F : FnR X.prog X.w X.K X.mg X.base CX n g sp) (hr : Room n X.A) (hx : Passes CX X E) : OpR X (binaryOp op) (rOpSame C sp E) := by
  intro pins s σ H x y v u Q I rx ry h
  obtain ⟨a, b, dx, dy, fs, gs, rfl, rfl, ha, hb, q⟩ := h
  cases (show v = Value.ref a from rx)
  cases (show u = Value.ref b from ry)
  obtain ⟨ox, od, J⟩ := inst_at I ha
  obtain ⟨oy, od', J'⟩ := inst_at I hb
  obtain ⟨m, hF⟩ := I.fr
  refine PySem.W.binop_K hF I.ok.mod.kin J J'.type hc hs hf (wpAny_mono (call_ref (vs := [.ref a, .ref b]) F hr hx I (.cons rfl (.cons rfl .nil)) q) (fun w s' z => ?_) fun _ _ x => x)
  obtain ⟨z', H', I', rz, qz⟩ := z
  exact SlX.cmpback rz ⟨z', H', I', rz, qz⟩

/-- x op n, n an int -/
def rOpInt (C : Addr) (sp : Sp) (E : XK) : R2 := fun x y H Q => ∃ a i dx fs, x = .ref a ∧ y = .int i ∧ H a = some (.ins C dx fs) ∧ sp [x, y] H Q E
theorem op_int {op : Operator} {fo ro rc : Option Value} (hc : PySem.W.selfFirst X.K C = true) (hs : PySem.W.findIn X.K (.ref C) (PySem.dunder op.info.2) = some (some (.ref g))) (hf : PySem.W.isFn X.K (.ref g) = true)
    (hrc : PySem.W.findIn X.K (.ref C) (dunderR op.info.2) = some rc) (hp : rc = none ∨ ∃ g : Addr, rc = some (.ref g)) (h1 : PySem.W.findIn X.K (.type "int") (PySem.dunder op.info.2) = some fo) (h2 : PySem.W.findIn X.K (.type "int") (dunderR op.info.2) = some ro)
    (hsub : PySem.W.subIn X.K (.type "int") (.ref C) = some false)
    (F : FnR X.prog X.w X.K X.mg X.base CX n g sp) (hr : Room n X.A) (hx : Passes CX X E) : OpR X (binaryOp op) (rOpInt C sp E) := by
  intro pins s σ H x y v u Q I rx ry h
  obtain ⟨a, i, dx, fs, rfl, rfl, ha, q⟩ := h
  cases (show v = Value.ref a from rx)
  obtain ⟨t, e⟩ := (show ∃ t, u = Value.int i t from ry)
  cases e
  obtain ⟨ox, od, J⟩ := inst_at I ha
  obtain ⟨m, hF⟩ := I.fr
  refine PySem.W.ksp_binT (T := "int") hF I.ok.mod.kin J (by first | rfl | kernel_rfl) hc hs hf hrc hp h1 h2 hsub (wpAny_mono (call_ref (vs := [.ref a, .int i]) F hr hx I (.cons rfl (.cons ⟨t, rfl⟩ .nil)) q) (fun w s' z => ?_) fun _ _ x => x)
  obtain ⟨z', H', I', rz, qz⟩ := z
  exact SlX.cmpback rz ⟨z', H', I', rz, qz⟩

/-- -x -/
def rNeg (C : Addr) (sp : Sp) (E : XK) : V → Hp → VK → Prop := fun x H Q => ∃ a dx fs, x = .ref a ∧ H a = some (.ins C dx fs) ∧ sp [x] H Q E
theorem un_ins (hs : PySem.W.findIn X.K (.ref C) "__neg__" = some (some (.ref g))) (hf : PySem.W.isFn X.K (.ref g) = true)
    (F : FnR X.prog X.w X.K X.mg X.base CX n g sp) (hr : Room n X.A) (hx : Passes CX X E) : UnR X (unaryOp .USub) (rNeg C sp E) := by
  intro pins s σ H x v Q I rx h
  obtain ⟨a, dx, fs, rfl, ha, q⟩ := h
  cases (show v = Value.ref a from rx)
  obtain ⟨ox, od, J⟩ := inst_at I ha
  obtain ⟨m, hF⟩ := I.fr
  exact PySem.W.ksp_neg hF I.ok.mod.kin J hs hf (call_ref (vs := [.ref a]) F hr hx I (.cons rfl .nil) q)

/-- len(x) -/
def rLenI (C : Addr) (sp : Sp) (E : XK) : List V → Hp → VK → Prop := fun vs H Q => ∃ a dx fs, vs = [.ref a] ∧ H a = some (.ins C dx fs) ∧ sp [.ref a] H (fun z H' => ∃ i, z = .int i ∧ 0 ≤ i ∧ i < 2 ^ 63 ∧ Q z H') E
theorem call_lenI (hs : PySem.W.findIn X.K (.ref C) "__len__" = some (some (.ref g))) (hf : PySem.W.isFn X.K (.ref g) = true)
    (F : FnR X.prog X.w X.K X.mg X.base CX n g sp) (hr : Room (n + 1) X.A) (hx : Passes CX X E) : CallR X (.builtin "len") (rLenI C sp E) := by
  intro pins s σ H xs us Q I r h
  obtain ⟨a, dx, fs, rfl, ha, q⟩ := h
  obtain ⟨u, rfl, ru⟩ := vals1 r
  cases (show u = Value.ref a from ru)
  obtain ⟨ox, od, J⟩ := inst_at I ha
  obtain ⟨m, hF⟩ := I.fr
  refine PySem.W.len_K hF I.ok.mod.kin J hs hf (wpAny_mono (call_in1 (vs := [.ref a]) F hr hx I (.cons rfl .nil) q) (fun w s' z => ?_) fun _ _ x => x)
  obtain ⟨z', H', I', rz, i, ei, h0, h1, qz⟩ := z
  subst ei
  obtain ⟨t, e⟩ := (show ∃ t, w = Value.int i t from rz)
  cases e
  exact ⟨⟨h0, h1⟩, .int i, H', I'.tok _, ⟨_, rfl⟩, qz⟩

/-- abs(x) -/
def rAbsI (C : Addr) (sp : Sp) (E : XK) : List V → Hp → VK → Prop := fun vs H Q => ∃ a dx fs, vs = [.ref a] ∧ H a = some (.ins C dx fs) ∧ sp [.ref a] H Q E
theorem call_absI (hs : PySem.W.findIn X.K (.ref C) "__abs__" = some (some (.ref g))) (hf : PySem.W.isFn X.K (.ref g) = true)
    (F : FnR X.prog X.w X.K X.mg X.base CX n g sp) (hr : Room (n + 1) X.A) (hx : Passes CX X E) : CallR X (.builtin "abs") (rAbsI C sp E) := by
  intro pins s σ H xs us Q I r h
  obtain ⟨a, dx, fs, rfl, ha, q⟩ := h
  obtain ⟨u, rfl, ru⟩ := vals1 r
  cases (show u = Value.ref a from ru)
  obtain ⟨ox, od, J⟩ := inst_at I ha
  refine Calls.call_function_entry kind_abs plain_abs entry_abs (args_abs _) ?_
  unfold Builtin.«abs»
  refine wpAny_bind (m := oneArg "abs" _) (wpAny_pure ?_)
  refine wpAny_bind (m := callSpecial? (.ref a) (Str.ofString "__abs__")) (PySem.W.special_fn I.kIn J hs (beq_iff_eq.mp hf) (wpAny_mono (call_in1 (vs := [.ref a]) F hr hx I (.cons rfl .nil) q) (fun w s' z => ?_) fun _ _ x => x))
  exact wpAny_pure ⟨_, rfl, z⟩
end
end Odd

namespace Odd
open PySem PySem.Spec PyProof.Rows L2

/-! ### rules that leave the choice to the reading -/
/-- X runs the body of X0: itself, or a comprehension's block in it -/
structure Like (X0 X : Cx) : Prop where
  prog : X.prog = X0.prog
  w : X.w = X0.w
  K : X.K = X0.K
  mg : X.mg = X0.mg
  base : X.base = X0.base
  A : X.A = X0.A
  calm : X.calm = X0.calm
theorem Like.refl {X : Cx} : Like X X := ⟨rfl, rfl, rfl, rfl, rfl, rfl, rfl⟩
abbrev Pas (X : Cx) (E : XK) : Prop := Passes (L2.CX X.prog X.w) X E
abbrev Fn (X : Cx) (k : Nat) (f : Addr) (sp : Sp) : Prop := FnR X.prog X.w X.K X.mg X.base (L2.CX X.prog X.w) k f sp
section
variable {X0 X : Cx} {E : XK}
theorem Like.fn {k : Nat} {f : Addr} {sp : Sp} (l : Like X0 X) (F : Fn X0 k f sp) : Fn X k f sp := by
  unfold Fn at F ⊢
  rw [l.prog, l.w, l.K, l.mg, l.base]
  exact F
theorem Like.room {k : Nat} (l : Like X0 X) (r : Room k X0.A) : Room k X.A := by rw [l.A]; exact r

/-! what may be chosen -/
def OpD (X0 : Cx) (E : XK) (f : Value → Value → Sem Value) (r : R2) : Prop := ∀ X, Like X0 X → Pas X E → OpR X f r
def UnD (X0 : Cx) (E : XK) (f : Value → Sem Value) (r : V → Hp → VK → Prop) : Prop := ∀ X, Like X0 X → Pas X E → UnR X f r
def CaD (X0 : Cx) (E : XK) (u : Value) (r : List V → Hp → VK → Prop) : Prop := ∀ X, Like X0 X → Pas X E → CallR X u r
def TrD (X0 : Cx) (E : XK) (r : V → Hp → (Bool → Hp → Prop) → Prop) : Prop := ∀ X, Like X0 X → Pas X E → TruR X r
def AtR (X : Cx) (f : Str) (r : V → Hp → VK → Prop) : Prop :=
  ∀ (b : Bool) (pins : List (Addr × Obj)) (s : Shared) (σ : L2.St) (H : Hp) (x : V) (v : Value) (Q : VK), Inv X pins σ H s → RelV x v → r x H Q → wpAny (model X.prog X.w) X.A (getAttr v f b) (EP X pins σ Q) X.xe s
def AtD (X0 : Cx) (E : XK) (f : Str) (r : V → Hp → VK → Prop) : Prop := ∀ X, Like X0 X → Pas X E → AtR X f r
/-- a subscript, also of an own class's instance -/
def IxO (X : Cx) (r : R2) : Prop :=
  ∀ (value slice : Expr) (pins : List (Addr × Obj)) (s : Shared) (σ : L2.St) (H : Hp) (x y : V) (v u : Value) (Q : VK), Inv X pins σ H s → RelV x v → RelV y u → r x y H Q →
    subscripted slice false v u = operate [v, u] (getItem v u) → subscripted slice true v u = runValue (.builtin "lifetime.subscript" ⟨[v, u], []⟩) → wpAny (model X.prog X.w) X.A (subscriptTail value slice v u) (EP X pins σ Q) X.xe s
def IxD (X0 : Cx) (E : XK) (r : R2) : Prop := ∀ X, Like X0 X → Pas X E → IxO X r

/-! the readings -/
def tOpA (X0 : Cx) (E : XK) (f : Value → Value → Sem Value) (ta tb : TE) : TE := fun σ H Q => ta σ H fun x H1 => tb σ H1 fun y H2 => ∃ r, OpD X0 E f r ∧ r x y H2 Q
def tUnA (X0 : Cx) (E : XK) (f : Value → Sem Value) (ta : TE) : TE := fun σ H Q => ta σ H fun x H1 => ∃ r, UnD X0 E f r ∧ r x H1 Q
def tAtA (X0 : Cx) (E : XK) (f : Str) (ta : TE) : TE := fun σ H Q => ta σ H fun x H1 => ∃ r, AtD X0 E f r ∧ r x H1 Q
def tIxA (X0 : Cx) (E : XK) (ta tb : TE) : TE := fun σ H Q => ta σ H fun x H1 => tb σ H1 fun y H2 => ∃ r, IxD X0 E r ∧ r x y H2 Q
def tTrA (X0 : Cx) (E : XK) (ta : TE) : TT := fun σ H Q => ta σ H fun x H1 => ∃ r, TrD X0 E r ∧ r x H1 Q
def tChA (X0 : Cx) (E : XK) (f g : Value → Value → Sem Value) (ta tb tc : TE) : TE := fun σ H Q => ta σ H fun x H1 => tb σ H1 fun y H2 => ∃ r, OpD X0 E f r ∧ r x y H2 fun z H3 => ∃ k, z = .bl k ∧
  (if k = true then tc σ H3 fun w' H4 => ∃ r', OpD X0 E g r' ∧ r' y w' H4 Q else Q (.bl false) H3)
/-- a built-in function or type by its name -/
def tBiA (X0 : Cx) (E : XK) (x : Str) (u : Value) (t : TA) : TE := fun σ H Q => X0.mg x = none ∧ t σ H fun vs H1 => ∃ r, CaD X0 E u r ∧ r vs H1 Q
/-- a def or class of the module by its name -/
def tGlA (X0 : Cx) (E : XK) (x : Str) (t : TA) : TE := fun σ H Q => ∃ f, X0.mg x = some (.ref f) ∧ PySem.W.keepIn X0.K (.ref f) = true ∧ t σ H fun vs H1 => ∃ r, CaD X0 E (.ref f) r ∧ r vs H1 Q
/-- own methods -/
def tMeA (X0 : Cx) (E : XK) (m : Str) (ta : TE) (t : TA) : TE := fun σ H Q => ta σ H fun x H1 => ∃ a C dx fs g, x = .ref a ∧ H1 a = some (.ins C dx fs) ∧ Cls X0.K C ∧ Meth X0.K C m g ∧ PySem.W.keepIn X0.K (.ref g) = true ∧ fs.lookup m = none ∧
  t σ H1 fun vs H2 => ∃ r, CaD X0 E (.ref g) r ∧ r (x :: vs) H2 Q
/-- what a for walks: a list, a tuple -/
def iSeq (K : PySem.W.Frag) (tl : TE) : TI := fun σ H R => tl σ H fun x H1 => ∃ a, x = .ref a ∧ (((∃ xs, SqL K H1 a xs) ∧ R (Itl K a) H1) ∨ ((∃ xs, SqT K H1 a xs) ∧ R (Itt K a) H1))

variable {a b c e o : Expr} {es : List Expr} {ta tb tc te : TE} {t : TA} {pos p apos sp_ : Pos} {x m : Str}
theorem pe_opA {op : Operator} (l : Like X0 X) (h : Pas X E) (ha : PE X a ta) (hb : PE X b tb) : PE X (.BinOp a op b pos) (tOpA X0 E (binaryOp op) ta tb) := by
  refine ⟨fun pins s σ H Q I q => ?_⟩
  exact wpAny_BinOp (binT ha hb I q fun v u s2 x y H2 I2 rx ry q => let ⟨r, hr, q⟩ := q; hr X l h pins s2 σ H2 x y v u Q I2 rx ry q)
theorem pe_unA {op : UnaryOp} (l : Like X0 X) (h : Pas X E) (ha : PE X a ta) : PE X (.UnaryOp op a pos) (tUnA X0 E (unaryOp op) ta) := by
  refine ⟨fun pins s σ H Q I q => ?_⟩
  exact UnaryOp_ (thn (ha.run pins s σ H _ I q) fun v s1 ⟨x, H1, I1, r1, r, hr, q1⟩ => hr X l h pins s1 σ H1 x v Q I1 r1 q1)
theorem pe_cmpA {op : CmpOp} (l : Like X0 X) (h : Pas X E) (ha : PE X a ta) (hb : PE X b tb) (hm : behindInMarks op b = false) : PE X (.Compare a [op] [b] pos) (tOpA X0 E (compareOp op) ta tb) := by
  refine ⟨fun pins s σ H Q I q => ?_⟩
  exact wpAny_Compare1 (binT ha hb I q fun v u s2 x y H2 I2 rx ry q => let ⟨r, hr, q⟩ := q; hr X l h pins s2 σ H2 x y v u Q I2 rx ry q) hm
theorem pt_cmpA {op : CmpOp} (l : Like X0 X) (h : Pas X E) (ha : PE X a ta) (hb : PE X b tb) (hm : behindInMarks op b = false) : PT X (.Compare a [op] [b] pos) (tTest (tOpA X0 E (compareOp op) ta tb)) := by
  refine ⟨fun pins s σ H Q I q => ?_⟩
  refine wpAny_isTrue_Compare1 (thn (ha.run pins s σ H _ I q) fun v s1 ⟨x, H1, I1, r1, q1⟩ => thn (hb.run pins s1 σ H1 _ I1 q1) fun u s2 ⟨y, H2, I2, r2, r, hr, q2⟩ =>
    thn (hr X l h pins s2 σ H2 x y v u _ I2 r1 r2 q2) fun c s3 ⟨z, H3, I3, r3, k, e, q3⟩ => ?_) hm
  subst e
  cases r3
  exact wpAny_truthy_bool ⟨H3, I3, q3⟩
theorem pe_chA {op op' : CmpOp} (l : Like X0 X) (h : Pas X E) (ha : PE X a ta) (hb : PE X b tb) (hc : PE X c tc) (hm : lastMarks [op, op'] [b, c] = false := by with_unfolding_all rfl) :
    PE X (.Compare a [op, op'] [b, c] pos) (tChA X0 E (compareOp op) (compareOp op') ta tb tc) := by
  refine ⟨fun pins s σ H Q I q => ?_⟩
  refine Compare_chain (thn (ha.run pins s σ H _ I q) fun v s1 ⟨x, H1, I1, r1, q1⟩ => chain_link (thn (hb.run pins s1 σ H1 _ I1 q1) fun u s2 ⟨y, H2, I2, r2, r, hr, q2⟩ =>
    thn (hr X l h pins s2 σ H2 x y v u _ I2 r1 r2 q2) fun d s3 ⟨z, H3, I3, r3, k, e, q3⟩ => ?_)) hm
  subst e
  cases r3
  refine wpAny_truthy_bool ?_
  cases k with
  | false => exact ite_ff ⟨.bl false, H3, I3, rfl, q3⟩
  | true => exact ite_tt (chain_last (thn (hc.run pins s3 σ H3 _ I3 q3) fun w' s4 ⟨z', H4, I4, r4, r', hr', q4⟩ => hr' X l h pins s4 σ H4 y z' u w' Q I4 r2 r4 q4))
theorem pt_chA {op op' : CmpOp} (l : Like X0 X) (h : Pas X E) (ha : PE X a ta) (hb : PE X b tb) (hc : PE X c tc) (hm : lastMarks [op, op'] [b, c] = false := by with_unfolding_all rfl) :
    PT X (.Compare a [op, op'] [b, c] pos) (tTest (tChA X0 E (compareOp op) (compareOp op') ta tb tc)) := by
  refine ⟨fun pins s σ H Q I q => ?_⟩
  refine isTrue_chain (thn (ha.run pins s σ H _ I q) fun v s1 ⟨x, H1, I1, r1, q1⟩ => test_link (thn (hb.run pins s1 σ H1 _ I1 q1) fun u s2 ⟨y, H2, I2, r2, r, hr, q2⟩ =>
    thn (hr X l h pins s2 σ H2 x y v u _ I2 r1 r2 q2) fun d s3 ⟨z, H3, I3, r3, k, e, q3⟩ => ?_)) hm
  subst e
  cases r3
  refine wpAny_truthy_bool ?_
  cases k with
  | false =>
    obtain ⟨k, e, q4⟩ := q3
    cases e
    exact ite_ff ⟨H3, I3, q4⟩
  | true =>
    refine ite_tt (test_last (thn (hc.run pins s3 σ H3 _ I3 q3) fun w' s4 ⟨z', H4, I4, r4, r', hr', q4⟩ => thn (hr' X l h pins s4 σ H4 y z' u w' _ I4 r2 r4 q4) fun d s5 ⟨z5, H5, I5, r5, k, e, q5⟩ => ?_))
    subst e
    cases r5
    exact wpAny_truthy_bool ⟨H5, I5, q5⟩
theorem pt_trA (l : Like X0 X) (h : Pas X E) (ha : PE X a ta) (he : ∀ whole, isTrue a X.env whole = (do let v ← whole; standAt a.pos; holding [v] (truthy v)) := by intro _; rfl) : PT X a (tTrA X0 E ta) := by
  refine ⟨fun pins s σ H Q I q => ?_⟩
  exact isTrue_plain (thn (ha.run pins s σ H _ I q) fun v s1 ⟨x, H1, I1, r1, r, hr, q1⟩ => hr X l h pins s1 σ H1 x v Q I1 r1 q1) (he _)
theorem pe_atA (l : Like X0 X) (h : Pas X E) {f : Str} (he : PE X e te) (hb : attributeBase e f X.env (eval e X.env) = eval e X.env := by rfl) : PE X (.Attribute e f pos) (tAtA X0 E f te) := by
  refine ⟨fun pins s σ H Q I q => ?_⟩
  refine attr_of hb (thn (he.run pins s σ H _ I q) fun u s1 ⟨x, H1, I1, rx, r, hr, q⟩ => hr X l h _ pins s1 σ H1 x u Q I1 rx q)
theorem pe_ixA (l : Like X0 X) (h : Pas X E) (ha : PE X a ta) (hb : PE X b tb) (hs : ∀ o i, subscripted b false o i = operate [o, i] (getItem o i) := by exact fun _ _ => rfl)
    (hs2 : ∀ o i, subscripted b true o i = runValue (.builtin "lifetime.subscript" ⟨[o, i], []⟩) := by exact fun _ _ => rfl) : PE X (.Subscript a b pos) (tIxA X0 E ta tb) := by
  refine ⟨fun pins s σ H Q I q => ?_⟩
  exact Subscript_ (binT ha hb I q fun v u s2 x y H2 I2 rx ry q => let ⟨r, hr, q⟩ := q; hr X l h a b pins s2 σ H2 x y v u Q I2 rx ry q (hs _ _) (hs2 _ _))
theorem pe_biA {id : String} (l : Like X0 X) (h : Pas X E) (hg : Gl X x) (hv : bootBuiltins x = some (.builtin id)) (ha : PA X (e :: es) t) (hn : x ≠ "__name__" := by decide) (hdb : (x == ("__debug__" : Str)) = false := by decide)
    (he : starEach (e :: es) X.env = (false, eval e X.env) :: starEach es X.env := by rfl) (hpl : (backTo pos (starEach es X.env)).any (·.1) = false := by rfl) : PE X (.Call (.Name x p) (e :: es) [] pos) (tBiA X0 E x (.builtin id) t) := by
  refine ⟨fun pins s σ H Q I ⟨hm, q⟩ => ?_⟩
  rw [← l.mg] at hm
  refine wpAny_Call_Name_kw (ld_blt I hg hm hv ?_ hn hdb)
  exact PyProof.Rows.callWith_builtin1 (thn (ha.run pos pins s σ H _ I q) fun us s1 ⟨vs, H1, I1, r1, r, hr, q1⟩ => hr X l h pins s1 σ H1 vs us Q I1 r1 q1) he hpl
theorem pe_tyA {T : String} (l : Like X0 X) (h : Pas X E) (hg : Gl X x) (hv : bootBuiltins x = some (.type T)) (ha : PA X (e :: es) t) (hn : x ≠ "__name__" := by decide) (hdb : (x == ("__debug__" : Str)) = false := by decide)
    (he : starEach (e :: es) X.env = (false, eval e X.env) :: starEach es X.env := by rfl) (hpl : (backTo pos (starEach es X.env)).any (·.1) = false := by rfl) : PE X (.Call (.Name x p) (e :: es) [] pos) (tBiA X0 E x (.type T) t) := by
  refine ⟨fun pins s σ H Q I ⟨hm, q⟩ => ?_⟩
  rw [← l.mg] at hm
  refine wpAny_Call_Name_kw (ld_blt I hg hm hv ?_ hn hdb)
  exact PyProof.Rows.callWith_type1 (thn (ha.run pos pins s σ H _ I q) fun us s1 ⟨vs, H1, I1, r1, r, hr, q1⟩ => hr X l h pins s1 σ H1 vs us Q I1 r1 q1) he hpl
theorem pe_glA (l : Like X0 X) (h : Pas X E) (hg : Gl X x) (ha : PA X (e :: es) t) (hdb : (x == ("__debug__" : Str)) = false := by decide) (he : starEach (e :: es) X.env = (false, eval e X.env) :: starEach es X.env := by rfl)
    (hpl : (backTo pos (starEach es X.env)).any (·.1) = false := by rfl) : PE X (.Call (.Name x p) (e :: es) [] pos) (tGlA X0 E x t) := by
  refine ⟨fun pins s σ H Q I ⟨f, hm, hk, q⟩ => ?_⟩
  rw [← l.mg] at hm
  rw [← l.K] at hk
  refine wpAny_Call_Name_kw (ld_glob I hg hm ?_ hdb)
  exact PySem.W.callWith_K (h₀ := X.base) I.ok.mod.kin hk (thn (ha.run pos pins s σ H _ I q) fun us s1 ⟨vs, H1, I1, r1, r, hr, q1⟩ => ⟨I1.kIn, hr X l h pins s1 σ H1 vs us Q I1 r1 q1⟩) he hpl
theorem pe_gl0 (l : Like X0 X) (h : Pas X E) (hg : Gl X x) (hdb : (x == ("__debug__" : Str)) = false := by decide) : PE X (.Call (.Name x p) [] [] pos) (tGlA X0 E x tNil) := by
  refine ⟨fun pins s σ H Q I ⟨f, hm, hk, r, hr, q⟩ => ?_⟩
  rw [← l.mg] at hm
  rw [← l.K] at hk
  refine wpAny_Call_Name_kw (ld_glob I hg hm ?_ hdb)
  exact PySem.W.callWith_K0 I.kIn hk (hr X l h pins s σ H [] [] Q I .nil q)
/-- x(*y) -/
def tGlS (X0 : Cx) (E : XK) (x : Str) (te : TE) : TE := fun σ H Q => ∃ f, X0.mg x = some (.ref f) ∧ PySem.W.keepIn X0.K (.ref f) = true ∧ te σ H fun y H1 => ∃ a xs, y = V.ref a ∧ (SqT X0.K H1 a xs ∨ SqL X0.K H1 a xs) ∧ ∃ r, CaD X0 E (.ref f) r ∧ r xs H1 Q
theorem pe_glS (l : Like X0 X) (h : Pas X E) (hg : Gl X x) (he : PE X e te) (hd : (x == ("__debug__" : Str)) = false := by decide) (hst : starEach [.Starred e sp_] X.env = [(true, eval e X.env)] := by rfl) :
    PE X (.Call (.Name x p) [.Starred e sp_] [] pos) (tGlS X0 E x te) := by
  refine ⟨fun pins s σ H Q I ⟨f, hm, hk, q⟩ => ?_⟩
  rw [← l.mg] at hm
  rw [← l.K] at hk
  refine wpAny_Call_Name_kw (ld_glob I hg hm ?_ hd)
  refine PySem.W.callWith_S (h₀ := X.base) I.ok.mod.kin hk (thn (he.run pins s σ H _ I q) fun v s1 ⟨y, H1, I1, ry, a, xs, ey, hxs, r, hr, q⟩ => ?_) hst
  subst ey
  obtain rfl : v = Value.ref a := ry
  rw [← l.K] at hxs
  exact StX.star_any I1 hxs fun us s2 I2 rv => ⟨I2.kIn, hr X l h pins s2 σ H1 xs us Q I2 rv q⟩
/-- x(e, .., *y) -/
theorem pe_glS2 (l : Like X0 X) (h : Pas X E) (hg : Gl X x) (ha : PA X (e :: es) t) (hd : (x == ("__debug__" : Str)) = false := by decide)
    (he : starEach (e :: es) X.env = (false, eval e X.env) :: starEach es X.env := by rfl) (hst : (backTo pos (starEach es X.env)).any (·.1) = true := by rfl) :
    PE X (.Call (.Name x p) (e :: es) [] pos) (tGlA X0 E x t) := by
  refine ⟨fun pins s σ H Q I ⟨f, hm, hk, q⟩ => ?_⟩
  rw [← l.mg] at hm
  rw [← l.K] at hk
  refine wpAny_Call_Name_kw (ld_glob I hg hm ?_ hd)
  exact PySem.W.callWith_S2 (h₀ := X.base) I.ok.mod.kin hk (thn (ha.run pos pins s σ H _ I q) fun us s1 ⟨vs, H1, I1, r1, r, hr, q1⟩ => ⟨I1.kIn, hr X l h pins s1 σ H1 vs us Q I1 r1 q1⟩) he hst
theorem pi_seq {tg e : Expr} (he : PE X e te) : PI X tg e (iSeq X.K te) := by
  refine ⟨fun pins s σ H R I q => ?_⟩
  refine thn (he.run pins s σ H _ I q) fun v s1 ⟨x, H1, I1, r1, a, ex, q1⟩ => ?_
  subst ex
  cases r1
  rcases q1 with ⟨⟨xs, hq⟩, q⟩ | ⟨⟨xs, hq⟩, q⟩
  · obtain ⟨its, rv, p, hz⟩ := I1.list hq
    refine wpAny_pyIter_list p.isList ?_
    refine ⟨s1.heap.objs.size, [s1.heap.objs.size], _, _, H1, rfl, I1.kept (t' := s1.toks) fun b o e => Heap.get?_push_of_some _ e, turn_list a _, ⟨_, Heap.get?_push_size _ rfl, rfl, rfl⟩, fun b hb => ?_, q⟩
    have e : b = s1.heap.objs.size := by simpa using hb
    subst e
    exact I1.fpOk (Nat.le_refl _) (I1.hok.fresh (Nat.le_refl _))
  · obtain ⟨its, rv, p, hz⟩ := I1.tuple hq
    refine wpAny_pyIter_tuple (show s1.heap.IsTuple a its.toArray from p) ?_
    refine ⟨s1.heap.objs.size, [s1.heap.objs.size], _, _, H1, rfl, I1.kept (t' := s1.toks) fun b o e => Heap.get?_push_of_some _ e, turn_tuple a _, ⟨_, Heap.get?_push_size _ rfl, rfl, rfl⟩, fun b hb => ?_, q⟩
    have e : b = s1.heap.objs.size := by simpa using hb
    subst e
    exact I1.fpOk (Nat.le_refl _) (I1.hok.fresh (Nat.le_refl _))
end
end Odd

namespace Odd
open PySem PySem.Spec PyProof.Rows L2

/-! ### more rules -/
section
variable {X0 X : Cx} {E : XK} {a b e : Expr} {rest : List Expr} {ta tb te : TE} {pos p p2 : Pos} {x m : Str}
/-- not e as a value, by any truth -/
def tNotA (X0 : Cx) (E : XK) (ta : TE) : TE := fun σ H Q => ta σ H fun x H1 => ∃ r, TrD X0 E r ∧ r x H1 fun c H2 => Q (.bl (!c)) H2
theorem pe_notA (l : Like X0 X) (h : Pas X E) (ha : PE X a ta) : PE X (.UnaryOp .Not a pos) (tNotA X0 E ta) := by
  refine ⟨fun pins s σ H Q I q => ?_⟩
  refine UnaryOp_ (thn (ha.run pins s σ H _ I q) fun v s1 ⟨x, H1, I1, r1, r, hr, q1⟩ => ?_)
  exact not_of (thn (hr X l h pins s1 σ H1 x v (fun c H2 => Q (.bl (!c)) H2) I1 r1 q1) fun c s2 ⟨H2, I2, q2⟩ => ⟨.bl (!c), H2, I2, rfl, q2⟩)
/-- a built-in class as a value; a class or def of the module as a value -/
def tBvA (X0 : Cx) (x : Str) (v : V) : TE := fun σ H Q => X0.mg x = none ∧ Q v H
theorem pe_bvA {v : V} {u : Value} (l : Like X0 X) (hg : Gl X x) (hv : bootBuiltins x = some u) (r : RelV v u) (hn : x ≠ "__name__" := by decide) (hd : (x == ("__debug__" : Str)) = false := by decide) : PE X (.Name x pos) (tBvA X0 x v) :=
  ⟨fun pins s σ H Q I ⟨hm, q⟩ => ld_blt I hg (by rw [l.mg]; exact hm) hv ⟨v, H, I, r, q⟩ hn hd⟩
def tGvA (X0 : Cx) (x : Str) : TE := fun σ H Q => ∃ f, X0.mg x = some (.ref f) ∧ Q (.ref f) H
theorem pe_gvA (l : Like X0 X) (hg : Gl X x) (hd : (x == ("__debug__" : Str)) = false := by decide) : PE X (.Name x pos) (tGvA X0 x) :=
  ⟨fun pins s σ H Q I ⟨f, hm, q⟩ => ld_glob I hg (by rw [l.mg]; exact hm) ⟨.ref f, H, I, rfl, q⟩ hd⟩
/-- x op= e -/
def tAugA (X0 : Cx) (E : XK) (i : Nat) (f : Value → Value → Sem Value) (te : TE) : TS := tAug i te (fun x y H Q => ∃ r, OpD X0 E f r ∧ r x y H Q)
theorem ps_augA {op : Operator} {i : Nat} {pos' : Pos} (l : Like X0 X) (h : Pas X E) (hN : X.N.Nodup) (hi : X.N[i]? = some x) (hx : Loc X.env.scope x) (he : PE X e te) (hf : X.fn x = true ∨ X.env.scope.names.lookup x = some .local := by first | exact .inl rfl | exact .inr rfl | assumption) :
    PS X (.AugAssign (.Name x pos') op e pos) (tAugA X0 E i (inplaceOp op) te) :=
  ps_aug hN hi hx he (fun pins s σ H x y v u Q I rx ry ⟨r, hr, q⟩ => hr X l h pins s σ H x y v u Q I rx ry q) hf
/-- an own exception class without an __init__ -/
structure ExcC (K : PySem.W.Frag) (mg : Str → Option Value) (x : Str) (C : Addr) : Prop where
  mg : mg x = some (.ref C)
  exc : PySem.W.excIn K C [.type "ValueError", .type "Exception", .type "BaseException", .type "object"] "ValueError.__new__" = true
  kp : PySem.W.keepIn K (.ref C) = true
  sub : PySem.W.subIn K (.ref C) (.type "BaseException") = some true
  ty : PySem.W.typeIn K (.ref C) = some (.type "type")
/-- raise x('..') -/
def tRaA (X0 : Cx) (W : WX) (x : Str) : TS := fun _ σ H => ∃ C, ExcC X0.K X0.mg x C ∧ W (.ref C) none σ H
theorem ps_raA {W : WX} {j : Nat} {pos' : Pos} (hc : X.calm = true) (tk : Takes X W) (hg : Gl X x) (hdb : (x == ("__debug__" : Str)) = false := by decide) :
    PS X (.Raise (some (.Call (.Name x p) [.Constant (.str m) j p2] [] pos')) none pos) (tRaA X W x) := by
  refine ⟨fun pins s σ H D I ⟨C, c, q⟩ => ?_⟩
  exact (ps_raise hc tk (pmk_own PySem.F.excBase_ValueError c.exc c.mg c.kp (raises_own c.sub c.ty) hg hdb)).run pins s σ H D I q
end
section
variable {P : Program} {w : World} {K : PySem.W.Frag} {mg : Str → Option Value} {base : Heap} {N : List Str} {qual : Str} {sc : Scope} {f : Addr} {cd : Value} {A : Around} {outer : List Env} {s : Shared} {H : Hp} {E : XK}
theorem tk_main : Takes (cxOf (L2.CX P w) P w K mg base N qual sc f cd A outer s H E) (fun cls d _ H => E cls d H) := takes_of rfl rfl rfl rfl
theorem pas_main : Pas (cxOf (L2.CX P w) P w K mg base N qual sc f cd A outer s H E) E := passes_call tk_main fun _ _ _ _ h => h
theorem own_main : PassesOwn (model P w) (cxOf (L2.CX P w) P w K mg base N qual sc f cd A outer s H E).A (cxOf (L2.CX P w) P w K mg base N qual sc f cd A outer s H E).env (cxOf (L2.CX P w) P w K mg base N qual sc f cd A outer s H E).xe := passes_of rfl
end

/-! ### the steps of a reading -/
section
variable {X0 : Cx} {E : XK} {σ : L2.St} {H : Hp} {Q : VK} {QB : Bool → Hp → Prop} {QA : List V → Hp → Prop} {D : Ends} {ta tb tc te : TE} {t u : TT} {tr : TA} {ts tz : TS} {v : V} {i : Nat} {g : TG} {f : Value → Value → Sem Value} {f1 : Value → Sem Value} {x : Str} {uu : Value}
theorem w_var (h : σ[i]? = some (some v)) (q : Q v H) : tVar i σ H Q := ⟨v, h, q⟩
theorem w_c (q : Q v H) : tC v σ H Q := q
theorem w_op (h : ta σ H fun x H1 => tb σ H1 fun y H2 => ∃ r, OpD X0 E f r ∧ r x y H2 Q) : tOpA X0 E f ta tb σ H Q := h
theorem w_un (h : ta σ H fun x H1 => ∃ r, UnD X0 E f1 r ∧ r x H1 Q) : tUnA X0 E f1 ta σ H Q := h
theorem w_at (h : ta σ H fun y H1 => ∃ r, AtD X0 E x r ∧ r y H1 Q) : tAtA X0 E x ta σ H Q := h
theorem w_ix (h : ta σ H fun x H1 => tb σ H1 fun y H2 => ∃ r, IxD X0 E r ∧ r x y H2 Q) : tIxA X0 E ta tb σ H Q := h
theorem w_tr (h : ta σ H fun x H1 => ∃ r, TrD X0 E r ∧ r x H1 QB) : tTrA X0 E ta σ H QB := h
theorem w_notA (h : ta σ H fun x H1 => ∃ r, TrD X0 E r ∧ r x H1 fun c H2 => Q (.bl (!c)) H2) : tNotA X0 E ta σ H Q := h
theorem w_ch {f2 : Value → Value → Sem Value} (h : ta σ H fun x H1 => tb σ H1 fun y H2 => ∃ r, OpD X0 E f r ∧ r x y H2 fun z H3 => ∃ k, z = .bl k ∧ (if k = true then tc σ H3 fun w' H4 => ∃ r', OpD X0 E f2 r' ∧ r' y w' H4 Q else Q (.bl false) H3)) :
    tChA X0 E f f2 ta tb tc σ H Q := h
theorem w_bi (hm : X0.mg x = none) (h : tr σ H fun vs H1 => ∃ r, CaD X0 E uu r ∧ r vs H1 Q) : tBiA X0 E x uu tr σ H Q := ⟨hm, h⟩
theorem w_gl {a : Addr} (hm : X0.mg x = some (.ref a)) (hk : PySem.W.keepIn X0.K (.ref a) = true) (h : tr σ H fun vs H1 => ∃ r, CaD X0 E (.ref a) r ∧ r vs H1 Q) : tGlA X0 E x tr σ H Q := ⟨a, hm, hk, h⟩
theorem w_glS {a : Addr} (hm : X0.mg x = some (.ref a)) (hk : PySem.W.keepIn X0.K (.ref a) = true) (h : te σ H fun y H1 => ∃ b xs, y = V.ref b ∧ (SqT X0.K H1 b xs ∨ SqL X0.K H1 b xs) ∧ ∃ r, CaD X0 E (.ref a) r ∧ r xs H1 Q) : tGlS X0 E x te σ H Q := ⟨a, hm, hk, h⟩
theorem w_bv (hm : X0.mg x = none) (q : Q v H) : tBvA X0 x v σ H Q := ⟨hm, q⟩
theorem w_gv {a : Addr} (hm : X0.mg x = some (.ref a)) (q : Q (.ref a) H) : tGvA X0 x σ H Q := ⟨a, hm, q⟩
theorem w_nil (q : QA [] H) : tNil σ H QA := q
theorem w_cons (h : ta σ H fun x H1 => tr σ H1 fun xs H2 => QA (x :: xs) H2) : tCons ta tr σ H QA := h
theorem w_tup (h : tr σ H fun xs H1 => xs.length ≤ sizeLine ∧ ∀ p, H1 p = none → Q (.ref p) (upd H1 p (.tup xs))) : tTup tr σ H Q := h
theorem w_lst (h : tr σ H fun xs H1 => xs.length ≤ sizeLine ∧ ∀ p, H1 p = none → Q (.ref p) (upd H1 p (.lst xs))) : tLst tr σ H Q := h
theorem w_test (h : ta σ H fun x H' => ∃ k, x = .bl k ∧ QB k H') : tTest ta σ H QB := h
theorem w_and (h : t σ H fun c H1 => if c = true then u σ H1 QB else QB false H1) : tAnd t u σ H QB := h
theorem w_or (h : t σ H fun c H1 => if c = true then QB true H1 else u σ H1 QB) : tOr t u σ H QB := h
theorem w_not (h : t σ H fun c H1 => QB (!c) H1) : tNot t σ H QB := h
theorem w_andV (h : ta σ H fun x H1 => ∃ c, x = .bl c ∧ if c = true then tb σ H1 Q else Q (.bl false) H1) : tAndV ta tb σ H Q := h
theorem w_orV (h : ta σ H fun x H1 => ∃ c, x = .bl c ∧ if c = true then Q (.bl true) H1 else tb σ H1 Q) : tOrV ta tb σ H Q := h
theorem w_ifx (h : t σ H fun c H1 => if c = true then ta σ H1 Q else tb σ H1 Q) : tIf t ta tb σ H Q := h
theorem w_seq (h : ts { D with nx := tz D } σ H) : tSeq ts tz D σ H := h
theorem w_asg (h : te σ H fun x H1 => g x σ H1 D.nx) : tAsg te g D σ H := h
theorem w_name {R : L2.St → Hp → Prop} (h : R (σ.set i (some v)) H) : gName i v σ H R := h
theorem w_ret (h : te σ H D.rt) : tRet te D σ H := h
theorem w_retN (h : D.rt .non H) : tRetN D σ H := h
theorem w_next (h : D.nx σ H) : tNext D σ H := h
theorem w_drop (h : te σ H fun _ H1 => D.nx σ H1) : tDrop te D σ H := h
theorem w_if (h : t σ H fun b H1 => if b = true then ts D σ H1 else tz D σ H1) : tIfS t ts tz D σ H := h
theorem w_fld {K : PySem.W.Frag} {fl : Str} (h : tb σ H fun y H1 => ta σ H1 fun x H2 => ∃ a C dx fs, x = .ref a ∧ H2 a = some (.ins C dx fs) ∧ Cls K C ∧ NoAttr K C fl ∧ fs.length < 1000 ∧ D.nx σ (upd H2 a (.ins C dx (putF fl y fs)))) : sFld K ta tb fl D σ H := h
theorem ite_d {p : Prop} [Decidable p] {A B : Prop} (h1 : p → A) (h2 : ¬ p → B) : if decide p = true then A else B := by
  by_cases h : p
  · rw [decide_eq_true h]; exact iteT (h1 h)
  · rw [decide_eq_false h]; exact iteF (h2 h)
theorem ite_n {p : Prop} [Decidable p] {A B : Prop} (h1 : ¬ p → A) (h2 : p → B) : if (!decide p) = true then A else B := by
  by_cases h : p
  · rw [decide_eq_true h]; exact iteF (h2 h)
  · rw [decide_eq_false h]; exact iteT (h1 h)
theorem ite_nf {A B : Prop} (h : A) : if (!false) = true then A else B := iteT h
theorem ite_nt {A B : Prop} (h : B) : if (!true) = true then A else B := iteF h
theorem bl_ex {k : Bool} {R : Bool → Prop} (h : R k) : ∃ c, V.bl k = V.bl c ∧ R c := ⟨k, rfl, h⟩
end
/-! ### what may be chosen: ints -/
section
variable {X0 : Cx} {E : XK} {H : Hp} {Q : VK} {i j : Int} {QB : Bool → Hp → Prop}
theorem s_add (q : Q (.int (i + j)) H) : ∃ r, OpD X0 E (binaryOp .Add) r ∧ r (.int i) (.int j) H Q := ⟨_, fun _ _ _ => op_add, i, j, rfl, rfl, q⟩
theorem s_sub (q : Q (.int (i - j)) H) : ∃ r, OpD X0 E (binaryOp .Sub) r ∧ r (.int i) (.int j) H Q := ⟨_, fun _ _ _ => op_sub, i, j, rfl, rfl, q⟩
theorem s_lt (q : Q (.bl (decide (i < j))) H) : ∃ r, OpD X0 E (compareOp .Lt) r ∧ r (.int i) (.int j) H Q := ⟨_, fun _ _ _ => op_lt, i, j, rfl, rfl, q⟩
theorem s_le (q : Q (.bl (decide (i ≤ j))) H) : ∃ r, OpD X0 E (compareOp .LtE) r ∧ r (.int i) (.int j) H Q := ⟨_, fun _ _ _ => op_le, i, j, rfl, rfl, q⟩
theorem s_gt (q : Q (.bl (decide (j < i))) H) : ∃ r, OpD X0 E (compareOp .Gt) r ∧ r (.int i) (.int j) H Q := ⟨_, fun _ _ _ => op_gt, i, j, rfl, rfl, q⟩
theorem s_ge (q : Q (.bl (decide (j ≤ i))) H) : ∃ r, OpD X0 E (compareOp .GtE) r ∧ r (.int i) (.int j) H Q := ⟨_, fun _ _ _ => op_ge, i, j, rfl, rfl, q⟩
theorem s_eqI (q : Q (.bl (decide (i = j))) H) : ∃ r, OpD X0 E (compareOp .Eq) r ∧ r (.int i) (.int j) H Q := ⟨_, fun _ _ _ => op_eq, rfl, by rw [dec_int, Bool.beq_eq_decide_eq]; exact q⟩
theorem s_neI (q : Q (.bl (!decide (i = j))) H) : ∃ r, OpD X0 E (compareOp .NotEq) r ∧ r (.int i) (.int j) H Q := ⟨_, fun _ _ _ => op_ne, rfl, by rw [dec_int, Bool.beq_eq_decide_eq]; exact q⟩
theorem s_eqB {b c : Bool} (q : Q (.bl (decide (b = c))) H) : ∃ r, OpD X0 E (compareOp .Eq) r ∧ r (.bl b) (.bl c) H Q := ⟨_, fun _ _ _ => op_eq, rfl, by rw [dec_bl, Bool.beq_eq_decide_eq]; exact q⟩
theorem s_neB {b c : Bool} (q : Q (.bl (!decide (b = c))) H) : ∃ r, OpD X0 E (compareOp .NotEq) r ∧ r (.bl b) (.bl c) H Q := ⟨_, fun _ _ _ => op_ne, rfl, by rw [dec_bl, Bool.beq_eq_decide_eq]; exact q⟩
theorem s_mul (h : CMul i j) (q : Q (.int (i * j)) H) : ∃ r, OpD X0 E (binaryOp .Mult) r ∧ r (.int i) (.int j) H Q := ⟨_, fun _ _ _ => op_mul, i, j, rfl, rfl, h, q⟩
theorem s_mod (h : 0 < j) (q : Q (.int (i % j)) H) : ∃ r, OpD X0 E (binaryOp .Mod) r ∧ r (.int i) (.int j) H Q := ⟨_, fun _ _ _ => op_mod, i, j, rfl, rfl, h, q⟩
theorem s_fdiv (h : CDiv i j) (q : Q (.int (i / j)) H) : ∃ r, OpD X0 E (binaryOp .FloorDiv) r ∧ r (.int i) (.int j) H Q := ⟨_, fun _ _ _ => op_fdiv, i, j, rfl, rfl, h, q⟩
theorem s_pow (h : CPow i j) (q : Q (.int (i ^ j.toNat)) H) : ∃ r, OpD X0 E (binaryOp .Pow) r ∧ r (.int i) (.int j) H Q := ⟨_, fun _ _ _ => op_pow, i, j, rfl, rfl, h, q⟩
theorem s_neg (q : Q (.int (-i)) H) : ∃ r, UnD X0 E (unaryOp .USub) r ∧ r (.int i) H Q := ⟨_, fun _ _ _ => un_neg, i, rfl, q⟩
theorem s_truB {b : Bool} (q : QB b H) : ∃ r, TrD X0 E r ∧ r (.bl b) H QB := ⟨fun x H Q => ∃ k, TruV X0.K x H k ∧ Q k H, fun X l _ => by rw [← l.K]; exact tru_ok, b, rfl, q⟩
theorem s_truI (q : QB (i != 0) H) : ∃ r, TrD X0 E r ∧ r (.int i) H QB := ⟨fun x H Q => ∃ k, TruV X0.K x H k ∧ Q k H, fun X l _ => by rw [← l.K]; exact tru_ok, _, rfl, q⟩
/-- isinstance(x, T), a built-in T -/
theorem s_isi {x : V} {t : Value} {n : String} {b : Bool} (ty : TyX X0.K H x t) (hk : PySem.W.kitOne X0.K t (.type n) = some b) (q : Q (.bl b) H) : ∃ r, CaD X0 E (.builtin "isinstance") r ∧ r [x, .ty n] H Q :=
  ⟨rIsi X0.K, fun X l _ => by rw [← l.K]; exact call_isi, x, .ty n, t, .type n, b, rfl, .ty n, ty, hk, q⟩
theorem s_isiI {n : String} {b : Bool} (hk : kitB "int" n = some b) (q : Q (.bl b) H) : ∃ r, CaD X0 E (.builtin "isinstance") r ∧ r [.int i, .ty n] H Q := s_isi (.base (.int i)) (kit_ty hk) q
/-- a def -/
theorem s_fn {k : Nat} {f : Addr} {sp : Sp} {vs : List V} (F : Fn X0 k f sp) (hr : Room k X0.A) (q : sp vs H Q E) : ∃ r, CaD X0 E (.ref f) r ∧ r vs H Q :=
  ⟨fun vs H Q => sp vs H Q E, fun X l h pins s σ H xs us Q I r q => call_ref (l.fn F) (l.room hr) h I r q, q⟩
/-- a class with an __init__ -/
theorem s_mk {k : Nat} {C f : Addr} {sp : Sp} {vs : List V} (M : Mk X0.K C f) (F : Fn X0 k f sp) (hr : Room (k + 1) X0.A)
    (q : ∀ x dx, H x = none → H dx = none → dx ≠ x → sp (V.ref x :: vs) (upd (upd H dx (.own x)) x (.ins C dx [])) (fun v H2 => v = .non ∧ Q (.ref x) H2) E) : ∃ r, CaD X0 E (.ref C) r ∧ r vs H Q :=
  ⟨fun vs H Q => ∀ x dx, H x = none → H dx = none → dx ≠ x → sp (V.ref x :: vs) (upd (upd H dx (.own x)) x (.ins C dx [])) (fun v H2 => v = .non ∧ Q (.ref x) H2) E,
    fun X l h pins s σ H xs us Q I r q => StX.run_makeR (by rw [l.K]; exact M) (l.fn F) (l.room hr) h I r q, q⟩
/-- x.f, an attribute of the instance -/
theorem s_fld {a C dx : Addr} {fs : List (Str × V)} {f : Str} {v : V} (e : H a = some (.ins C dx fs)) (c : Cls X0.K C) (n : NoAttr X0.K C f) (lk : fs.lookup f = some v) (q : Q v H) : ∃ r, AtD X0 E f r ∧ r (.ref a) H Q :=
  ⟨fun x H Q => ∃ a C dx fs v, x = .ref a ∧ H a = some (.ins C dx fs) ∧ Cls X0.K C ∧ NoAttr X0.K C f ∧ fs.lookup f = some v ∧ Q v H,
    fun X l h b pins s σ H x u Q I rx ⟨a, C, dx, fs, v, ex, e, c, n, lk, q⟩ => by
      subst ex
      obtain rfl : u = Value.ref a := rx
      rw [← l.K] at c n
      exact getattr_ok I e c n lk fun u' s2 I2 ru => ⟨v, H, I2, ru, q⟩, a, C, dx, fs, v, rfl, e, c, n, lk, q⟩
end
end Odd

namespace Odd
open PySem PySem.Spec PyProof.Rows L2

/-- x op n with n an int: neither side's type meddles -/
structure OpInt (K : PySem.W.Frag) (C : Addr) (m r : Str) : Prop where
  rr : PySem.W.findIn K (.ref C) r = some none
  h1 : ∃ fo, PySem.W.findIn K (.type "int") m = some fo
  h2 : ∃ ro, PySem.W.findIn K (.type "int") r = some ro
  sb : PySem.W.subIn K (.type "int") (.ref C) = some false
/-- x != y by the own == -/
structure OwnNe (K : PySem.W.Frag) (C : Addr) : Prop where
  ne : PySem.W.findIn K (.ref C) "__ne__" = some (some (.builtin "object.__ne__"))
  own : PySem.W.notFirst K C (.ref C) = true
  tup : PySem.W.notFirst K C (.type "tuple") = true

section
variable {X : Cx} {CX : CXT} {pins : List (Addr × Obj)} {σ : L2.St} {H : Hp} {s : Shared} {a C dx g : Addr} {fs : List (Str × V)} {n : Nat} {sp : Sp} {E : XK}

/-- x == y (and <, ..), x an instance of the class at C, y of a type that does not go first -/
def rCmpI (K : PySem.W.Frag) (C : Addr) (sp : Sp) (E : XK) : R2 := fun x y H Q => ∃ a dx fs t, x = .ref a ∧ H a = some (.ins C dx fs) ∧ TyX K H y t ∧ PySem.W.notFirst K C t = true ∧ sp [x, y] H Q E
theorem op_cmpI {op : CmpOp} (hop : ∀ a b, compareOp op a b = richCompare op a b) (hs : PySem.W.findIn X.K (.ref C) (cmpInfo op).2.1 = some (some (.ref g))) (hf : PySem.W.isFn X.K (.ref g) = true) (F : FnR X.prog X.w X.K X.mg X.base CX n g sp)
    (hr : Room n X.A) (hx : Passes CX X E) : OpR X (compareOp op) (rCmpI X.K C sp E) := by
  intro pins s σ H x y v u Q I rx ry h
  obtain ⟨a, dx, fs, t, rfl, ha, ty, hn, q⟩ := h
  cases (show v = Value.ref a from rx)
  obtain ⟨ox, od, J⟩ := inst_at I ha
  obtain ⟨PP, Z, hz, _⟩ := kit_of I ry ty
  obtain ⟨m, hF⟩ := I.fr
  rw [hop]
  refine PySem.W.cmp_K (op := op) (tb := t) hr.units0 hF I.ok.mod.kin J (Z.ty _ _ I.kIn hz) hn hs hf (wpAny_mono (call_ref (vs := [.ref a, y]) F hr hx I (.cons rfl (.cons ry .nil)) q) (fun w s' z => ?_) fun _ _ x => x)
  obtain ⟨z', H', I', rz, qz⟩ := z
  exact SlX.cmpback rz ⟨z', H', I', rz, qz⟩

/-- x[i] -/
def rIxI (C : Addr) (sp : Sp) (E : XK) : R2 := fun x y H Q => ∃ a dx fs, x = .ref a ∧ H a = some (.ins C dx fs) ∧ sp [x, y] H Q E
theorem fnIn_fun {K : PySem.W.Frag} {x qual : Str} {st : Stmt} {f : Addr} {fd : FuncData} (F : Fun K x qual st f fd) : PySem.W.fnIn K f = true := by
  obtain ⟨oc, od, kV, doc, pm, an, cdv, ct, osl, rfl, lk, hcd⟩ := F.ex
  unfold PySem.W.fnIn
  rw [lk]
theorem ix_ins (hs : PySem.W.findIn X.K (.ref C) "__getitem__" = some (some (.ref g))) (hf : PySem.W.fnIn X.K g = true) (hfn : PySem.W.isFn X.K (.ref g) = true) (F : FnR X.prog X.w X.K X.mg X.base CX n g sp)
    (hr : Room (n + 1) X.A) (hx : Passes CX X E) : IxO X (rIxI C sp E) := by
  intro value slice pins s σ H x y v u Q I rx ry h _ hsl
  obtain ⟨a, dx, fs, rfl, ha, q⟩ := h
  cases (show v = Value.ref a from rx)
  obtain ⟨ox, od, J⟩ := inst_at I ha
  obtain ⟨m, hF⟩ := I.fr
  exact PySem.W.sub_K hF I.ok.mod.kin J hs hf hfn (call_in1 (vs := [.ref a, y]) F hr hx I (.cons rfl (.cons ry .nil)) q) hsl
theorem ix_plain {r : R2} (h : IxR X r) : IxO X r := fun value slice pins s σ H x y v u Q I rx ry q h1 _ => h value slice pins s σ H x y v u Q I rx ry q h1

/-- a property that raises nothing -/
def rPropI (C : Addr) (sp : Sp) : V → Hp → VK → Prop := fun x H Q => ∃ a dx fs, x = .ref a ∧ H a = some (.ins C dx fs) ∧ sp [x] H Q E0
theorem at_prop {f : Str} {p : Addr} (c : Cls X.K C) (hp : PropOf X.K C f p g) (F : FnR X.prog X.w X.K X.mg X.base (L2.CX X.prog X.w) n g sp) (hr : Room (n + 1) X.A) : AtR X f (rPropI C sp) := by
  intro b pins s σ H x v Q I rx h
  obtain ⟨a, dx, fs, rfl, ha, q⟩ := h
  cases (show v = Value.ref a from rx)
  obtain ⟨ox, od, J⟩ := inst_at I ha
  obtain ⟨rest, hrec⟩ := hp.rec_
  have I1 : Inv X pins σ H { s with toks := s.toks + 1 } := I.tok (s.toks + 1)
  have hc : (PySem.W.clsIn X.K C).isSome = true := by
    obtain ⟨cd, hc, _⟩ := PySem.W.any_some c.hd
    rw [hc]
    rfl
  refine PySem.W.get_bind I.kIn J (PySem.W.plainGet_of (c.get f)).1 (PySem.W.findObj_data hc hp.at_ hp.get hp.tak) (PySem.W.plainGet_of (c.get f)).2 (wpAny_call (PySem.W.prop_get (s := { s with toks := s.toks + 1 }) I.kIn hrec ?_))
  refine codeAny_mono (F X.A.in1 X.stack { s with toks := s.toks + 1 } H [.ref a] [.ref a] Q E0 hr.in1 I1.env0.in1 (.cons rfl .nil) q) fun r s' hq => ?_
  cases r with
  | error er =>
    obtain ⟨_, _, _, _, _, _, _, _, _, _, _, _, z⟩ := hq
    exact z.elim
  | ok fl =>
    cases fl with
    | ret u =>
      obtain ⟨v, H', I3, rv, q3⟩ := I1.after hq
      exact wpAny_of_eq (PySem.W.handedOut_of (handed_of rv)) ⟨v, H', I3, rv, q3⟩
    | next => exact False.elim hq
    | brk => exact False.elim hq
    | cont => exact False.elim hq
end

section
variable {X0 : Cx} {E : XK} {H : Hp} {Q : VK} {k : Nat} {C g a b dx dy : Addr} {fs gs : List (Str × V)} {sp : Sp} {m f : Str} {y : V}
/-- both instances of one class -/
theorem s_opSame {op : Operator} (hc : PySem.W.selfFirst X0.K C = true) (M : Meth X0.K C m g) (hm : PySem.dunder op.info.2 = m) (F : Fn X0 k g sp) (hr : Room k X0.A) (ha : H a = some (.ins C dx fs)) (hb : H b = some (.ins C dy gs)) (q : sp [.ref a, .ref b] H Q E) :
    ∃ r, OpD X0 E (binaryOp op) r ∧ r (.ref a) (.ref b) H Q := by
  subst hm
  exact ⟨rOpSame C sp E, fun X l h => op_same (by rw [l.K]; exact hc) (by rw [l.K]; exact M.at_) (by rw [l.K]; exact M.fn) (l.fn F) (l.room hr) h, a, b, dx, dy, fs, gs, rfl, rfl, ha, hb, q⟩
theorem s_opInt {op : Operator} {r' : Str} {i : Int} (hc : PySem.W.selfFirst X0.K C = true) (M : Meth X0.K C m g) (O : OpInt X0.K C m r') (hm : PySem.dunder op.info.2 = m) (hr' : dunderR op.info.2 = r') (F : Fn X0 k g sp) (hr : Room k X0.A) (ha : H a = some (.ins C dx fs))
    (q : sp [.ref a, .int i] H Q E) : ∃ r, OpD X0 E (binaryOp op) r ∧ r (.ref a) (.int i) H Q := by
  subst hm hr'
  obtain ⟨fo, h1⟩ := O.h1
  obtain ⟨ro, h2⟩ := O.h2
  exact ⟨rOpInt C sp E, fun X l h => op_int (by rw [l.K]; exact hc) (by rw [l.K]; exact M.at_) (by rw [l.K]; exact M.fn) (by rw [l.K]; exact O.rr) (.inl rfl) (by rw [l.K]; exact h1) (by rw [l.K]; exact h2) (by rw [l.K]; exact O.sb) (l.fn F) (l.room hr) h,
    a, i, dx, fs, rfl, rfl, ha, q⟩
theorem s_negI (M : Meth X0.K C "__neg__" g) (F : Fn X0 k g sp) (hr : Room k X0.A) (ha : H a = some (.ins C dx fs)) (q : sp [.ref a] H Q E) : ∃ r, UnD X0 E (unaryOp .USub) r ∧ r (.ref a) H Q :=
  ⟨rNeg C sp E, fun X l h => un_ins (by rw [l.K]; exact M.at_) (by rw [l.K]; exact M.fn) (l.fn F) (l.room hr) h, a, dx, fs, rfl, ha, q⟩
theorem s_absI (M : Meth X0.K C "__abs__" g) (F : Fn X0 k g sp) (hr : Room (k + 1) X0.A) (ha : H a = some (.ins C dx fs)) (q : sp [.ref a] H Q E) : ∃ r, CaD X0 E (.builtin "abs") r ∧ r [.ref a] H Q :=
  ⟨rAbsI C sp E, fun X l h => call_absI (by rw [l.K]; exact M.at_) (by rw [l.K]; exact M.fn) (l.fn F) (l.room hr) h, a, dx, fs, rfl, ha, q⟩
theorem s_lenI (M : Meth X0.K C "__len__" g) (F : Fn X0 k g sp) (hr : Room (k + 1) X0.A) (ha : H a = some (.ins C dx fs)) (q : sp [.ref a] H (fun z H' => ∃ i, z = .int i ∧ 0 ≤ i ∧ i < 2 ^ 63 ∧ Q z H') E) : ∃ r, CaD X0 E (.builtin "len") r ∧ r [.ref a] H Q :=
  ⟨rLenI C sp E, fun X l h => call_lenI (by rw [l.K]; exact M.at_) (by rw [l.K]; exact M.fn) (l.fn F) (l.room hr) h, a, dx, fs, rfl, ha, q⟩
theorem s_ixI {x qual : Str} {st : Stmt} {fd : FuncData} (M : Meth X0.K C "__getitem__" g) (U : Fun X0.K x qual st g fd) (F : Fn X0 k g sp) (hr : Room (k + 1) X0.A) (ha : H a = some (.ins C dx fs)) (q : sp [.ref a, y] H Q E) :
    ∃ r, IxD X0 E r ∧ r (.ref a) y H Q :=
  ⟨rIxI C sp E, fun X l h => ix_ins (by rw [l.K]; exact M.at_) (by rw [l.K]; exact fnIn_fun U) (by rw [l.K]; exact M.fn) (l.fn F) (l.room hr) h, a, dx, fs, rfl, ha, q⟩
theorem s_prop {p : Addr} (c : Cls X0.K C) (hp : PropOf X0.K C f p g) (F : Fn X0 k g sp) (hr : Room (k + 1) X0.A) (ha : H a = some (.ins C dx fs)) (q : sp [.ref a] H Q E0) : ∃ r, AtD X0 E f r ∧ r (.ref a) H Q :=
  ⟨rPropI C sp, fun X l h => at_prop (by rw [l.K]; exact c) (by rw [l.K]; exact hp) (l.fn F) (l.room hr), a, dx, fs, rfl, ha, q⟩
theorem s_eqOwn {t : Value} (M : Meth X0.K C "__eq__" g) (F : Fn X0 k g sp) (hr : Room k X0.A) (ha : H a = some (.ins C dx fs)) (ty : TyX X0.K H y t) (hn : PySem.W.notFirst X0.K C t = true) (q : sp [.ref a, y] H Q E) :
    ∃ r, OpD X0 E (compareOp .Eq) r ∧ r (.ref a) y H Q :=
  ⟨rCmpI X0.K C sp E, fun X l h => by rw [← l.K]; exact op_cmpI (op := .Eq) (fun _ _ => rfl) (by rw [l.K]; exact M.at_) (by rw [l.K]; exact M.fn) (l.fn F) (l.room hr) h, a, dx, fs, t, rfl, ha, ty, hn, q⟩
theorem s_ixL {xs : List V} {i : Int} {v : V} (h : SqL X0.K H a xs) (ha : atI xs i = some v) (q : Q v H) : ∃ r, IxD X0 E r ∧ r (.ref a) (.int i) H Q :=
  ⟨rIxL X0.K, fun X l _ => by rw [← l.K]; exact ix_plain ix_list, a, xs, i, v, rfl, rfl, h, ha, q⟩
theorem s_ixT {xs : List V} {i : Int} {v : V} (h : SqT X0.K H a xs) (ha : atI xs i = some v) (q : Q v H) : ∃ r, IxD X0 E r ∧ r (.ref a) (.int i) H Q :=
  ⟨rIxT X0.K, fun X l _ => by rw [← l.K]; exact ix_plain ix_tup, a, xs, i, v, rfl, rfl, h, ha, q⟩
/-- len of a list, of a tuple -/
theorem s_lenL {xs : List V} (h : SqL X0.K H a xs) (q : Q (.int xs.length) H) : ∃ r, CaD X0 E (.builtin "len") r ∧ r [.ref a] H Q :=
  ⟨fun vs H Q => ∃ x n, vs = [x] ∧ LenV X0.K x H n ∧ Q (.int n) H, fun X l _ => by rw [← l.K]; exact call_len, .ref a, xs.length, rfl, .inl ⟨xs, h, rfl⟩, q⟩
theorem s_lenT {xs : List V} (h : SqT X0.K H a xs) (q : Q (.int xs.length) H) : ∃ r, CaD X0 E (.builtin "len") r ∧ r [.ref a] H Q :=
  ⟨fun vs H Q => ∃ x n, vs = [x] ∧ LenV X0.K x H n ∧ Q (.int n) H, fun X l _ => by rw [← l.K]; exact call_len, .ref a, xs.length, rfl, .inr ⟨xs, h, rfl⟩, q⟩
end

/-! ### a def's promise by positional values -/
section
variable {P : Program} {w : World} {K : PySem.W.Frag} {mg : Str → Option Value} {base : Heap}
theorem fnr_ok {x qual : Str} {st : Stmt} {f : Addr} {fd : FuncData} {N ps : List Str} {k : Nat} {sp : Sp} (F : Fun K x qual st f fd) (S : FnScope N ps (defScope st)) (hb : Binds K fd ps []) (len : ∀ vs H Q E, sp vs H Q E → vs.length = ps.length)
    (hbody : ∀ (cdv : Value) (A : Around) (outer : List Env) (s : Shared) (H : Hp) (vs : List V) (Q : VK) (E : XK), Room k (A.deeper (envOfC qual (defScope st) s.heap.objs.size f cdv)) → sp vs H Q E →
      ∃ t, PSs (cxOf (L2.CX P w) P w K mg base N qual (defScope st) f cdv A outer s H E) (defBody st) t ∧ t { nx := fun _ H' => Q .non H', rt := Q } (start N vs) H) : FnR P w K mg base (L2.CX P w) (k + 1) f sp :=
  ((F.okX S len hbody).raw hb .nil).imp fun vs H Q E h => by rw [List.append_nil]; exact h
theorem fnr_star {x qual pv : Str} {st : Stmt} {f : Addr} {fd : FuncData} {N ps : List Str} {k : Nat} {sp : Sp} (F : Fun K x qual st f fd) (S : FnScope N (ps ++ [pv]) (defScope st))
    (hb : ∀ (kV doc pm : Value) (an : Option Addr) (cdv ct : Value) (us rest : List Value), us.length = ps.length → bindArgs (PySem.W.fnOf x qual (defArgs st) (defBody st) (defScope st) .none kV doc pm an cdv ct) ⟨us ++ rest, []⟩ = (newTuple rest >>= fun t => pure (ps.zip us ++ [(pv, t)])))
    (hbody : ∀ (cdv : Value) (A : Around) (outer : List Env) (s : Shared) (H : Hp) (vs : List V) (Q : VK) (E : XK), Room k (A.deeper (envOfC qual (defScope st) s.heap.objs.size f cdv)) → sp vs H Q E →
      ∃ t, PSs (cxOf (L2.CX P w) P w K mg base N qual (defScope st) f cdv A outer s H E) (defBody st) t ∧ t { nx := fun _ H' => Q .non H', rt := Q } (start N vs) H) :
    FnR P w K mg base (L2.CX P w) (k + 1) f (fun vs H Q E => ∃ ws rest, vs = ws ++ rest ∧ ws.length = ps.length ∧ rest.length ≤ sizeLine ∧ ∀ p, H p = Option.none → sp (ws ++ [V.ref p]) (upd H p (.tup rest)) Q E) := by
  obtain ⟨oc, od, kV, doc, pm, an, cdv, ct, osl, rfl, lk, hcd⟩ := F.ex
  exact StX.fn_star lk hcd S StX.cxUp (hb kV doc pm an cdv ct) fun A outer s H vs Q E hr hsp => hbody cdv A outer s H vs Q E hr hsp
theorem fnr_star1 {x qual p1 pv : Str} {st : Stmt} {f : Addr} {fd : FuncData} {N : List Str} {k : Nat} {sp : Sp} (F : Fun K x qual st f fd) (S : FnScope N ([p1] ++ [pv]) (defScope st))
    (h0 : ∀ (kV doc pm : Value) (an : Option Addr) (cdv ct a : Value), bindArgs (PySem.W.fnOf x qual (defArgs st) (defBody st) (defScope st) .none kV doc pm an cdv ct) ⟨[a], []⟩ = (newTuple [] >>= fun t => pure [(p1, a), (pv, t)]))
    (h1 : ∀ (kV doc pm : Value) (an : Option Addr) (cdv ct a r : Value) (rs : List Value), bindArgs (PySem.W.fnOf x qual (defArgs st) (defBody st) (defScope st) .none kV doc pm an cdv ct) ⟨a :: r :: rs, []⟩ = (newTuple (r :: rs) >>= fun t => pure [(p1, a), (pv, t)]))
    (hbody : ∀ (cdv : Value) (A : Around) (outer : List Env) (s : Shared) (H : Hp) (vs : List V) (Q : VK) (E : XK), Room k (A.deeper (envOfC qual (defScope st) s.heap.objs.size f cdv)) → sp vs H Q E →
      ∃ t, PSs (cxOf (L2.CX P w) P w K mg base N qual (defScope st) f cdv A outer s H E) (defBody st) t ∧ t { nx := fun _ H' => Q .non H', rt := Q } (start N vs) H) :
    FnR P w K mg base (L2.CX P w) (k + 1) f (fun vs H Q E => ∃ ws rest, vs = ws ++ rest ∧ ws.length = [p1].length ∧ rest.length ≤ sizeLine ∧ ∀ p, H p = Option.none → sp (ws ++ [V.ref p]) (upd H p (.tup rest)) Q E) :=
  fnr_star F S (fun kV doc pm an cdv ct us rest hl => StX.bind_star1 (B := fun l => bindArgs (PySem.W.fnOf x qual (defArgs st) (defBody st) (defScope st) .none kV doc pm an cdv ct) ⟨l, []⟩) (h0 kV doc pm an cdv ct) (h1 kV doc pm an cdv ct) us rest hl) hbody
end
end Odd

namespace Odd
open PySem PySem.Spec PyProof.Rows L2
/-! ### sum, max, min of a tuple of ints -/
section
variable {prog : Program} {w : World} {A : Around} {E : Value → Shared → Prop} {s : Shared} {l : Addr} {its : List Value} {ns : List Int} {Q : Value → Shared → Prop}
theorem tup_walk {xs : Array (Int × Tok)} {items : Array Value} {R : Value → Shared → Prop} (hl : s.heap.IsTuple l items)
    (h : ∀ s₂ : Shared, s₂ = { s with heap := s₂.heap } → (∀ b o, s.heap.get? b = some o → s₂.heap.get? b = some o) → (s₂.heap.IsTupleIter s.heap.objs.size l 0 ∧ s₂.heap.IsTuple l items) → (∀ b ∈ [s.heap.objs.size, l], b < s₂.heap.objs.size) → l ≠ s.heap.objs.size → R (.ref s.heap.objs.size) s₂) :
    wpAny (model prog w) A (pyIter (.ref l)) R E s := by
  have hlt : l < s.heap.objs.size := by
    obtain ⟨o, ho, _⟩ := hl
    exact Heap.lt_size ho
  refine wpAny_pyIter_tuple hl (h _ rfl (fun b o e => Heap.get?_push_of_some _ e) ⟨⟨_, Heap.get?_push_size _ rfl, rfl, rfl⟩, hl.at fun o e => Heap.get?_push_of_some _ e⟩ (fun b hb => ?_) (Nat.ne_of_lt hlt))
  show b < (s.heap.push _).objs.size
  rw [Heap.size_push]
  simp only [List.mem_cons, List.not_mem_nil, or_false] at hb
  rcases hb with rfl | rfl
  · exact Nat.lt_succ_self _
  · exact Nat.lt_succ_of_lt hlt
theorem old_of {s s₂ : Shared} {h' : Heap} (k : ∀ b o, s.heap.get? b = some o → s₂.heap.get? b = some o) (hk : ∀ b o, b ∉ [s.heap.objs.size] → s₂.heap.get? b = some o → h'.get? b = some o) : ∀ b o, s.heap.get? b = some o → h'.get? b = some o := fun b o e =>
  hk b o (fun z => by rw [List.mem_singleton] at z; subst z; exact absurd (Heap.lt_size e) (Nat.lt_irrefl _)) (k b o e)
theorem sumT_raw (hh : A.handled = none) (hl : s.heap.IsTuple l its.toArray) (hi : IntsAre its ns)
    (h : ∀ h' tk t', (∀ b o, s.heap.get? b = some o → h'.get? b = some o) → Q (.int ns.sum t') { s with heap := h', toks := tk }) : wpAny (model prog w) A (call (.builtin "sum") [.ref l]) Q E s := by
  obtain ⟨xs, e⟩ := hi.allInts.items
  have hn : numsOf (intItems xs).toList = ns := by rw [← e]; exact hi.numsOf
  rw [nums_intItems] at hn
  rw [e] at hl
  refine call_sum_walkG (tup_walk (xs := xs) hl fun s₂ e2 k st hfp hne => ?_)
  refine ⟨_, _, _, _, _, _, numAt xs, rfl, Walks.tuple (A := A.in1) hh _ l hne (intItems xs), st, hfp, (fun _ _ => intItems_at), fun h' tk t' hk => ?_⟩
  have z := h h' tk t' (old_of k hk)
  have e3 : (intItems xs).size = xs.size := by simp [intItems]
  rw [e3, preSum_eq, List.take_of_length_le (by simp), hn]
  rw [e2]
  exact z
theorem maxT_raw (hh : A.handled = none) (hl : s.heap.IsTuple l its.toArray) (hi : IntsAre its ns) (hne : 0 < ns.length)
    (h : ∀ h' tk M t', (∀ b o, s.heap.get? b = some o → h'.get? b = some o) → M ∈ ns → (∀ a, a ∈ ns → a ≤ M) → Q (.int M t') { s with heap := h', toks := tk }) : wpAny (model prog w) A (call (.builtin "max") [.ref l]) Q E s := by
  obtain ⟨xs, e⟩ := hi.allInts.items
  have hn : numsOf (intItems xs).toList = ns := by rw [← e]; exact hi.numsOf
  rw [nums_intItems] at hn
  subst hn
  rw [e] at hl
  have hsz : 0 < xs.size := by simpa using hne
  refine call_max_walk (tup_walk (xs := xs) hl fun s₂ e2 k st hfp hne => ?_)
  refine ⟨_, _, _, _, _, _, _, rfl, Walks.tuple (A := A.in1) hh _ l hne (intItems xs), st, hfp, by simpa [intItems] using hsz, CmpOf.ints_gt (numAt xs) (fun _ _ => intItems_at), fun v h' tk hP hk => ?_⟩
  have hP' : (intItems xs)[argBest (fun i j => decide (numAt xs i > numAt xs j)) (xs.size - 1)]? = some v := by simpa [intItems] using hP
  obtain ⟨t, rfl⟩ := intItems_at hP'
  obtain ⟨h1, h2⟩ := argBest_gt (numAt xs) (xs.size - 1)
  rw [e2]
  refine h h' tk _ t (old_of k hk) ?_ fun a ha => ?_
  · rw [numAt_eq]; exact PySem.getD_mem (by rw [List.length_map, Array.length_toList]; omega)
  · obtain ⟨j, hj, rfl⟩ := mem_getD ha
    rw [List.length_map, Array.length_toList] at hj
    rw [← numAt_eq]; exact h2 j (by omega)
theorem minT_raw (hh : A.handled = none) (hl : s.heap.IsTuple l its.toArray) (hi : IntsAre its ns) (hne : 0 < ns.length)
    (h : ∀ h' tk M t', (∀ b o, s.heap.get? b = some o → h'.get? b = some o) → M ∈ ns → (∀ a, a ∈ ns → M ≤ a) → Q (.int M t') { s with heap := h', toks := tk }) : wpAny (model prog w) A (call (.builtin "min") [.ref l]) Q E s := by
  obtain ⟨xs, e⟩ := hi.allInts.items
  have hn : numsOf (intItems xs).toList = ns := by rw [← e]; exact hi.numsOf
  rw [nums_intItems] at hn
  subst hn
  rw [e] at hl
  have hsz : 0 < xs.size := by simpa using hne
  refine call_min_walk (tup_walk (xs := xs) hl fun s₂ e2 k st hfp hne => ?_)
  refine ⟨_, _, _, _, _, _, _, rfl, Walks.tuple (A := A.in1) hh _ l hne (intItems xs), st, hfp, by simpa [intItems] using hsz, CmpOf.ints_lt (numAt xs) (fun _ _ => intItems_at), fun v h' tk hP hk => ?_⟩
  have hP' : (intItems xs)[argBest (fun i j => decide (numAt xs i < numAt xs j)) (xs.size - 1)]? = some v := by simpa [intItems] using hP
  obtain ⟨t, rfl⟩ := intItems_at hP'
  obtain ⟨h1, h2⟩ := argBest_lt (numAt xs) (xs.size - 1)
  rw [e2]
  refine h h' tk _ t (old_of k hk) ?_ fun a ha => ?_
  · rw [numAt_eq]; exact PySem.getD_mem (by rw [List.length_map, Array.length_toList]; omega)
  · obtain ⟨j, hj, rfl⟩ := mem_getD ha
    rw [List.length_map, Array.length_toList] at hj
    rw [← numAt_eq]; exact h2 j (by omega)
end
def rSumT (K : PySem.W.Frag) : List V → Hp → VK → Prop := fun vs H Q => ∃ (a : Addr) (ns : List Int), vs = [V.ref a] ∧ SqT K H a (ns.map V.int) ∧ Q (.int ns.sum) H
def rMaxT (K : PySem.W.Frag) : List V → Hp → VK → Prop := fun vs H Q => ∃ (a : Addr) (ns : List Int), vs = [V.ref a] ∧ SqT K H a (ns.map V.int) ∧ 0 < ns.length ∧ ∀ m, m ∈ ns → (∀ y, y ∈ ns → y ≤ m) → Q (.int m) H
def rMinT (K : PySem.W.Frag) : List V → Hp → VK → Prop := fun vs H Q => ∃ (a : Addr) (ns : List Int), vs = [V.ref a] ∧ SqT K H a (ns.map V.int) ∧ 0 < ns.length ∧ ∀ m, m ∈ ns → (∀ y, y ∈ ns → m ≤ y) → Q (.int m) H
section
variable {X : Cx}
theorem cr_sumT (hc : X.calm = true) : CallR X (.builtin "sum") (rSumT X.K) := by
  intro pins s σ H vs us Q I r h
  obtain ⟨a, ns, rfl, hs, q⟩ := h
  obtain ⟨its, rv, hl, _⟩ := I.tuple hs
  rw [Vals.ref1 r]
  exact sumT_raw (I.ok.hd hc) hl rv.ints fun h' tk t' hk => ⟨.int _, H, I.kept hk, ⟨_, rfl⟩, q⟩
theorem cr_maxT (hc : X.calm = true) : CallR X (.builtin "max") (rMaxT X.K) := by
  intro pins s σ H vs us Q I r h
  obtain ⟨a, ns, rfl, hs, hne, q⟩ := h
  obtain ⟨its, rv, hl, _⟩ := I.tuple hs
  rw [Vals.ref1 r]
  exact maxT_raw (I.ok.hd hc) hl rv.ints hne fun h' tk m t' hk h1 h2 => ⟨.int _, H, I.kept hk, ⟨_, rfl⟩, q m h1 h2⟩
theorem cr_minT (hc : X.calm = true) : CallR X (.builtin "min") (rMinT X.K) := by
  intro pins s σ H vs us Q I r h
  obtain ⟨a, ns, rfl, hs, hne, q⟩ := h
  obtain ⟨its, rv, hl, _⟩ := I.tuple hs
  rw [Vals.ref1 r]
  exact minT_raw (I.ok.hd hc) hl rv.ints hne fun h' tk m t' hk h1 h2 => ⟨.int _, H, I.kept hk, ⟨_, rfl⟩, q m h1 h2⟩
end
/-- the greatest, the least of ints (0 of none) -/
def maxI : List Int → Int
  | [] => 0
  | [a] => a
  | a :: b :: r => max a (maxI (b :: r))
def minI : List Int → Int
  | [] => 0
  | [a] => a
  | a :: b :: r => min a (minI (b :: r))
theorem maxI_spec : ∀ (l : List Int), l ≠ [] → maxI l ∈ l ∧ ∀ y ∈ l, y ≤ maxI l
  | [], h => absurd rfl h
  | [a], _ => ⟨List.mem_singleton.mpr rfl, fun y hy => by rw [List.mem_singleton] at hy; subst hy; exact Int.le_refl _⟩
  | a :: b :: r, _ => by
    obtain ⟨h1, h2⟩ := maxI_spec (b :: r) (by simp)
    refine ⟨?_, fun y hy => ?_⟩
    · show max a (maxI (b :: r)) ∈ _
      rcases Int.le_total a (maxI (b :: r)) with q | q
      · rw [Int.max_eq_right q]; exact List.mem_cons_of_mem _ h1
      · rw [Int.max_eq_left q]; exact List.mem_cons_self
    · show y ≤ max a (maxI (b :: r))
      rcases List.mem_cons.mp hy with rfl | hy
      · exact Int.le_max_left _ _
      · exact Int.le_trans (h2 y hy) (Int.le_max_right _ _)
theorem minI_spec : ∀ (l : List Int), l ≠ [] → minI l ∈ l ∧ ∀ y ∈ l, minI l ≤ y
  | [], h => absurd rfl h
  | [a], _ => ⟨List.mem_singleton.mpr rfl, fun y hy => by rw [List.mem_singleton] at hy; subst hy; exact Int.le_refl _⟩
  | a :: b :: r, _ => by
    obtain ⟨h1, h2⟩ := minI_spec (b :: r) (by simp)
    refine ⟨?_, fun y hy => ?_⟩
    · show min a (minI (b :: r)) ∈ _
      rcases Int.le_total a (minI (b :: r)) with q | q
      · rw [Int.min_eq_left q]; exact List.mem_cons_self
      · rw [Int.min_eq_right q]; exact List.mem_cons_of_mem _ h1
    · show min a (minI (b :: r)) ≤ y
      rcases List.mem_cons.mp hy with rfl | hy
      · exact Int.min_le_left _ _
      · exact Int.le_trans (Int.min_le_right _ _) (h2 y hy)
theorem max_one {l : List Int} {m : Int} (h1 : m ∈ l) (h2 : ∀ y ∈ l, y ≤ m) : m = maxI l := by
  obtain ⟨a, b⟩ := maxI_spec l (fun e => by subst e; cases h1)
  have := h2 _ a
  have := b _ h1
  omega
theorem min_one {l : List Int} {m : Int} (h1 : m ∈ l) (h2 : ∀ y ∈ l, m ≤ y) : m = minI l := by
  obtain ⟨a, b⟩ := minI_spec l (fun e => by subst e; cases h1)
  have := h2 _ a
  have := b _ h1
  omega
section
variable {X0 : Cx} {E : XK} {H : Hp} {Q : VK} {a : Addr} {ns : List Int}
theorem s_sumT (hc : X0.calm = true) (h : SqT X0.K H a (ns.map V.int)) (q : Q (.int ns.sum) H) : ∃ r, CaD X0 E (.builtin "sum") r ∧ r [.ref a] H Q :=
  ⟨rSumT X0.K, fun X l _ => by rw [← l.K]; exact cr_sumT (l.calm.trans hc), a, ns, rfl, h, q⟩
theorem s_sumL (hc : X0.calm = true) (h : SqL X0.K H a (ns.map V.int)) (q : Q (.int ns.sum) H) : ∃ r, CaD X0 E (.builtin "sum") r ∧ r [.ref a] H Q :=
  ⟨rSum X0.K, fun X l _ => by rw [← l.K]; exact cr_sum (l.calm.trans hc), a, ns, rfl, h, q⟩
theorem s_maxT (hc : X0.calm = true) (h : SqT X0.K H a (ns.map V.int)) (hn : ns ≠ []) (q : Q (.int (maxI ns)) H) : ∃ r, CaD X0 E (.builtin "max") r ∧ r [.ref a] H Q :=
  ⟨rMaxT X0.K, fun X l _ => by rw [← l.K]; exact cr_maxT (l.calm.trans hc), a, ns, rfl, h, List.length_pos_iff.mpr hn, fun m h1 h2 => by rw [max_one h1 h2]; exact q⟩
theorem s_minT (hc : X0.calm = true) (h : SqT X0.K H a (ns.map V.int)) (hn : ns ≠ []) (q : Q (.int (minI ns)) H) : ∃ r, CaD X0 E (.builtin "min") r ∧ r [.ref a] H Q :=
  ⟨rMinT X0.K, fun X l _ => by rw [← l.K]; exact cr_minT (l.calm.trans hc), a, ns, rfl, h, List.length_pos_iff.mpr hn, fun m h1 h2 => by rw [min_one h1 h2]; exact q⟩
theorem s_maxL (hc : X0.calm = true) (h : SqL X0.K H a (ns.map V.int)) (hn : ns ≠ []) (q : Q (.int (maxI ns)) H) : ∃ r, CaD X0 E (.builtin "max") r ∧ r [.ref a] H Q :=
  ⟨rMax X0.K, fun X l _ => by rw [← l.K]; exact cr_max (l.calm.trans hc), a, ns, rfl, h, List.length_pos_iff.mpr hn, fun m h1 h2 => by rw [max_one h1 h2]; exact q⟩
theorem s_minL (hc : X0.calm = true) (h : SqL X0.K H a (ns.map V.int)) (hn : ns ≠ []) (q : Q (.int (minI ns)) H) : ∃ r, CaD X0 E (.builtin "min") r ∧ r [.ref a] H Q :=
  ⟨rMin X0.K, fun X l _ => by rw [← l.K]; exact cr_min (l.calm.trans hc), a, ns, rfl, h, List.length_pos_iff.mpr hn, fun m h1 h2 => by rw [min_one h1 h2]; exact q⟩
/-- tuple(xs), list(xs) -/
theorem s_tupleL {xs : List V} (h : SqL X0.K H a xs) (q : ∀ l, H l = none → Q (.ref l) (upd H l (.tup xs))) : ∃ r, CaD X0 E (.type "tuple") r ∧ r [.ref a] H Q :=
  ⟨fun vs H Q => ∃ p ys, vs = [.ref p] ∧ ((SqL X0.K H p ys ∧ ∀ l, H l = none → Q (.ref l) (upd H l (.tup ys))) ∨ (SqT X0.K H p ys ∧ Q (.ref p) H)), fun X l _ => by rw [← l.K]; exact call_tuple_of, a, xs, rfl, .inl ⟨h, q⟩⟩
theorem s_listOf {xs : List V} (h : SqL X0.K H a xs ∨ SqT X0.K H a xs) (q : ∀ l, H l = none → Q (.ref l) (upd H l (.lst xs))) : ∃ r, CaD X0 E (.type "list") r ∧ r [.ref a] H Q :=
  ⟨fun vs H Q => ∃ p ys, vs = [.ref p] ∧ (SqL X0.K H p ys ∨ SqT X0.K H p ys) ∧ ∀ l, H l = none → Q (.ref l) (upd H l (.lst ys)), fun X l _ => by rw [← l.K]; exact call_list_of, a, xs, rfl, h, q⟩
end
end Odd

namespace Odd
open PySem PySem.Spec PyProof.Rows L2 RZ
/-! ### comprehensions whose turns only make objects -/
theorem same_new {H : Hp} {p : Addr} {o : HO} (h : H p = none) : Same H (upd H p o) := fun b u e => by rw [upd_ne (ne_of_none e h)]; exact e
theorem same_mut {H H' : Hp} {p : Addr} {o : HO} (s : Same H H') (h : H p = none) : Same H (upd H' p o) := fun b u e => by rw [upd_ne (ne_of_none e h)]; exact s b u e
theorem same_t {K : PySem.W.Frag} {H H' : Hp} {a : Addr} {xs : List V} (e : Same H H') (h : SqT K H a xs) : SqT K H' a xs := by
  rcases h with (h | ⟨o, h⟩) | h
  · exact .inl (.inl (e _ _ h))
  · exact .inl (.inr ⟨o, e _ _ h⟩)
  · exact .inr h
theorem sz5 {n : Nat} (h : n ≤ 100000) : n ≤ sizeLine := Nat.le_trans h (by decide)
/-- one turn: what the test and the element give -/
def Turn1 (tt : TT) (te : TE) (σ2 : L2.St) (H' : Hp) (o o' : List V) : Prop :=
  ∀ (K1 : VK) (K0 : Hp → Prop), (∀ y H4, Same H' H4 → o' = o ++ [y] → K1 y H4) → (∀ H3, Same H' H3 → o' = o → K0 H3) → tt σ2 H' fun b H3 => if b = true then te σ2 H3 K1 else K0 H3
theorem turn1_map {te : TE} {σ2 : L2.St} {H' : Hp} {o : List V} {y : V} (h : ∀ R : VK, (∀ H4, Same H' H4 → R y H4) → te σ2 H' R) : Turn1 tYes te σ2 H' o (o ++ [y]) := fun K1 K0 k1 _ => by
  show (if true = true then te σ2 H' K1 else K0 H')
  rw [if_pos rfl]
  exact h K1 fun H4 s => k1 y H4 s rfl
section
variable {K : PySem.W.Frag} {J : It} {n : Nat} {G : Hp → Prop} {Y : Nat → Hp → V → Hp → Prop} {g : TG} {tt : TT} {te : TE} {vs : List Nat} {σ : L2.St} {H : Hp} {Q : VK}
theorem c_walk (w : Walk J n G Y) (out : Nat → List V) (h0 : out 0 = []) (hz : ∀ i, i < n → (out i).length < 100000) (hG : ∀ H', Same H H' → G H')
    (turn : ∀ i x H1 H', i < n → Same H H1 → Y i H1 x H' → Same H1 H' ∧ ∀ R : L2.St → Hp → Prop, (∀ σ2 H2, Same H' H2 → wipe σ2 vs = wipe σ vs → Turn1 tt te σ2 H2 (out i) (out (i + 1)) → R σ2 H2) → g x (wipe σ vs) H' R)
    (q : ∀ p H', H p = none → Same H H' → H' p = some (.lst (out n)) → Q (.ref p) H') :
    ∀ D, H D = none → ∃ W : Nat → Nat → Hp → Prop, (∃ m, W 0 m (upd H D (.lst []))) ∧ ∀ i m H, W i m H →
      (J.stop i H ∧ Q (.ref D) H) ∨ (J.go i H ∧ ∃ Nx : Hp → Prop, (∀ H', Nx H' → ∃ m', m' < m ∧ W (i + 1) m' H') ∧ ∀ x H', J.yld i H x H' → g x (wipe σ vs) H' fun σ2 H2 => wipe σ2 vs = wipe σ vs ∧ tt σ2 H2 fun b H3 =>
        if b = true then te σ2 H3 fun y H4 => ∃ acc, H4 D = some (.lst acc) ∧ acc.length < sizeLine ∧ Nx (upd H4 D (.lst (acc ++ [y]))) else Nx H3) := fun D hD =>
  lc_it w (Qd := fun H' => Q (.ref D) H') (fun i H' => Same H H' ∧ H' D = some (.lst (out i))) ⟨same_new hD, by rw [upd_same, h0]⟩ (fun i H' _ p => hG H' p.1) (fun i x H1 H' hi p y => by
      obtain ⟨s1, tn⟩ := turn i x H1 H' hi p.1 y
      refine tn _ fun σ2 H2 s2 ew t => ⟨ew, ?_⟩
      have sD : H2 D = some (.lst (out i)) := s2 _ _ (s1 _ _ p.2)
      have sH : Same H H2 := (p.1.trans s1).trans s2
      exact t _ _ (fun y H4 s4 eo => ⟨out i, s4 _ _ sD, Nat.lt_of_lt_of_le (hz i hi) (by decide), same_mut (sH.trans s4) hD, by rw [upd_same, eo]⟩) fun H3 s3 eo => ⟨sH.trans s3, by rw [eo]; exact s3 _ _ sD⟩)
    fun H' p => q D H' hD p.1 p.2
variable {a b : Addr} {xs ys : List V} {j : Nat}
theorem walk_listS : Walk (Itl K a) xs.length (fun H => SqL K H a xs) (YAt xs) :=
  ⟨fun i _ hi q => ⟨xs, xs[i], q, by simp [hi]⟩, fun _ q => ⟨xs, q, Nat.le_refl _⟩, fun i H x H' _ q y => ⟨y.1, y.2 xs q⟩⟩
theorem walk_tupS : Walk (Itt K a) xs.length (fun H => SqT K H a xs) (YAt xs) :=
  ⟨fun i _ hi q => ⟨xs, xs[i], q, by simp [hi]⟩, fun _ q => ⟨xs, q, Nat.le_refl _⟩, fun i H x H' _ q y => ⟨y.1, y.2 xs q⟩⟩
theorem walk_zipTS (hn : n = min xs.length ys.length) : Walk (ItzT K a b) n (fun H => SqT K H a xs ∧ SqT K H b ys) (YPair (fun i => xs[i]?) (fun i => ys[i]?)) := by
  subst hn
  refine ⟨fun i _ hi q => ?_, fun _ q => ⟨xs, ys, q.1, q.2, by omega⟩, fun i H v H' _ q y => ?_⟩
  · have h1 : i < xs.length := by omega
    have h2 : i < ys.length := by omega
    exact ⟨xs, ys, xs[i], ys[i], q.1, q.2, by simp [h1], by simp [h2]⟩
  · obtain ⟨T, x, z, h1, h2, h3, h4, h5⟩ := y
    exact ⟨T, x, z, h1, h2, h3, h4 xs q.1, h5 ys q.2⟩
/-- over a tuple, a list: the target a name -/
theorem c_tup (out : Nat → List V) (h0 : out 0 = []) (hz : ∀ i, i < xs.length → (out i).length < 100000) (hx : SqT K H a xs) (hw : ∀ x, wipe ((wipe σ vs).set j (some x)) vs = wipe σ vs)
    (turn : ∀ i x H', xs[i]? = some x → Same H H' → Turn1 tt te ((wipe σ vs).set j (some x)) H' (out i) (out (i + 1))) (q : ∀ p H', H p = none → Same H H' → H' p = some (.lst (out xs.length)) → Q (.ref p) H')
    {tl : TE} (ht : ∀ R : VK, R (.ref a) H → tl σ H R) : tLc (iSeq K tl) (gName j) tt te vs σ H Q :=
  ht _ ⟨a, rfl, .inr ⟨⟨xs, hx⟩, c_walk walk_tupS out h0 hz (fun H' s => same_t s hx) (fun i x H1 H' hi s y => by
    obtain ⟨e1, e2⟩ := y
    subst e1
    exact ⟨Same.refl _, fun R k => k _ _ (Same.refl _) (hw x) (turn i x _ e2 s)⟩) q⟩⟩
theorem c_list (out : Nat → List V) (h0 : out 0 = []) (hz : ∀ i, i < xs.length → (out i).length < 100000) (hx : SqL K H a xs) (hw : ∀ x, wipe ((wipe σ vs).set j (some x)) vs = wipe σ vs)
    (turn : ∀ i x H', xs[i]? = some x → Same H H' → Turn1 tt te ((wipe σ vs).set j (some x)) H' (out i) (out (i + 1))) (q : ∀ p H', H p = none → Same H H' → H' p = some (.lst (out xs.length)) → Q (.ref p) H')
    {tl : TE} (ht : ∀ R : VK, R (.ref a) H → tl σ H R) : tLc (iSeq K tl) (gName j) tt te vs σ H Q :=
  ht _ ⟨a, rfl, .inl ⟨⟨xs, hx⟩, c_walk walk_listS out h0 hz (fun H' s => s.seq hx) (fun i x H1 H' hi s y => by
    obtain ⟨e1, e2⟩ := y
    subst e1
    exact ⟨Same.refl _, fun R k => k _ _ (Same.refl _) (hw x) (turn i x _ e2 s)⟩) q⟩⟩
/-- over range(n) -/
theorem c_rng {ta : TA} {n : Nat} (out : Nat → List V) (h0 : out 0 = []) (hn : n < 100000) (hz : ∀ i, i < n → (out i).length < 100000) (hw : ∀ x, wipe ((wipe σ vs).set j (some x)) vs = wipe σ vs)
    (turn : ∀ (i : Nat) H', i < n → Same H H' → Turn1 tt te ((wipe σ vs).set j (some (.int i))) H' (out i) (out (i + 1))) (q : ∀ p H', H p = none → Same H H' → H' p = some (.lst (out n)) → Q (.ref p) H')
    (ht : ∀ R : List V → Hp → Prop, R [.int n] H → ta σ H R) : tLc (iRng1 ta) (gName j) tt te vs σ H Q :=
  ht _ ⟨n, rfl, by omega, by omega, by
    rw [Int.toNat_natCast]
    exact c_walk (Y := YFn fun i => .int (0 + (i : Int))) (G := fun _ => True) ⟨fun i _ hi _ => hi, fun _ _ => Nat.le_refl _, fun i H x H' _ _ y => y⟩ out h0 hz (fun _ _ => True.intro) (fun i x H1 H' hi s y => by
      obtain ⟨e1, e2⟩ := y
      subst e1 e2
      refine ⟨Same.refl _, fun R k => k _ _ (Same.refl _) (hw _) ?_⟩
      show Turn1 tt te ((wipe σ vs).set j (some (.int ((0 : Int) + (i : Int))))) _ _ _
      rw [Int.zero_add]
      exact turn i _ hi s) q⟩
/-- over zip of two tuples: the target two names -/
theorem c_zipT {ta : TA} {j2 : Nat} (out : Nat → List V) (h0 : out 0 = []) (hz : ∀ i, i < min xs.length ys.length → (out i).length < 100000) (hx : SqT K H a xs) (hy : SqT K H b ys)
    (hw : ∀ x y, wipe (((wipe σ vs).set j (some x)).set j2 (some y)) vs = wipe σ vs)
    (turn : ∀ i x y H', xs[i]? = some x → ys[i]? = some y → Same H H' → Turn1 tt te (((wipe σ vs).set j (some x)).set j2 (some y)) H' (out i) (out (i + 1)))
    (q : ∀ p H', H p = none → Same H H' → H' p = some (.lst (out (min xs.length ys.length))) → Q (.ref p) H') (ht : ∀ R : List V → Hp → Prop, R [.ref a, .ref b] H → ta σ H R) :
    tLc (iZipA K ta) (gTup K 2 (gCons (gName j) (gCons (gName j2) gNil))) tt te vs σ H Q :=
  ht _ ⟨a, b, xs, ys, rfl, .inr ⟨hx, hy, c_walk (walk_zipTS rfl) out h0 hz (fun H' s => ⟨same_t s hx, same_t s hy⟩) (fun i x H1 H' hi s y => by
    obtain ⟨T, x, z, e1, e2, e3, e4, e5⟩ := y
    subst e1 e3
    exact ⟨same_new e2, fun R k => ⟨T, [x, z], rfl, SqT.of upd_same, rfl, x, [z], rfl, z, [], rfl, rfl, k _ _ (Same.refl _) (hw x z) (turn i x z _ e4 e5 (s.trans (same_new e2)))⟩⟩) q⟩⟩
end
end Odd

namespace Odd
open PySem PySem.Spec PyProof.Rows L2
/-! ### data in the heap -/
section
variable {K : PySem.W.Frag} {H H' : Hp}
mutual
theorem dp_same (s : Same H H') : ∀ {v : V} {d : PyData}, Dp K H v d → Dp K H' v d
  | _, _, .non => .non
  | _, _, .bl b => .bl b
  | _, _, .int i => .int i
  | _, _, .str x => .str x
  | _, _, .lst h hs => .lst (s.seq h) (dpAll_same s hs)
  | _, _, .tup h hs => .tup (same_t s h) (dpAll_same s hs)
theorem dpAll_same (s : Same H H') : ∀ {vs : List V} {ds : List PyData}, DpAll K H vs ds → DpAll K H' vs ds
  | _, _, .nil => .nil
  | _, _, .cons h hs => .cons (dp_same s h) (dpAll_same s hs)
end
theorem dp_ints : ∀ (cs : List Int), DpAll K H (cs.map V.int) (cs.map PyData.int)
  | [] => .nil
  | c :: cs => .cons (.int c) (dp_ints cs)
theorem dpAll_len : ∀ {vs : List V} {ds : List PyData}, DpAll K H vs ds → vs.length = ds.length
  | _, _, .nil => rfl
  | _, _, .cons _ hs => congrArg (· + 1) (dpAll_len hs)
theorem dpAll_get : ∀ {vs : List V} {ds : List PyData} {i : Nat} {d : PyData}, DpAll K H vs ds → ds[i]? = some d → ∃ v, vs[i]? = some v ∧ Dp K H v d
  | _, _, _, _, .nil, e => by simp at e
  | _, _, 0, _, .cons h _, e => by simp at e; subst e; exact ⟨_, rfl, h⟩
  | _, _, i + 1, _, .cons _ hs, e => by
    obtain ⟨v, h1, h2⟩ := dpAll_get (i := i) hs (by simpa using e)
    exact ⟨v, by simpa using h1, h2⟩
theorem dpAll_map {α : Type} {f : α → V} {g : α → PyData} (h : ∀ x, Dp K H (f x) (g x)) : ∀ l : List α, DpAll K H (l.map f) (l.map g)
  | [] => .nil
  | x :: l => .cons (h x) (dpAll_map h l)
end
/-- data without a bool among its parts -/
def nb : PyData → Bool
  | .none => true
  | .bool _ => false
  | .int _ => true
  | .str _ => true
  | .list xs => nbAll xs
  | .tuple xs => nbAll xs
  | .dict _ => false
where nbAll : List PyData → Bool
  | [] => true
  | x :: xs => nb x && nbAll xs
mutual
theorem eqv_iff : ∀ {d e : PyData}, nb d = true → nb e = true → (PyData.eqv d e = true ↔ d = e)
  | .none, e, _, he => by cases e <;> simp_all [PyData.eqv, nb]
  | .bool b, _, h, _ => by simp [nb] at h
  | .int i, e, _, he => by cases e <;> simp_all [PyData.eqv, nb]
  | .str x, e, _, he => by cases e <;> simp_all [PyData.eqv, nb]
  | .list xs, e, h, he => by
    cases e with
    | list ys =>
      have := eqvAll_iff (xs := xs) (ys := ys) (by simpa [nb] using h) (by simpa [nb] using he)
      simpa [PyData.eqv] using this
    | _ => simp_all [PyData.eqv, nb]
  | .tuple xs, e, h, he => by
    cases e with
    | tuple ys =>
      have := eqvAll_iff (xs := xs) (ys := ys) (by simpa [nb] using h) (by simpa [nb] using he)
      simpa [PyData.eqv] using this
    | _ => simp_all [PyData.eqv, nb]
  | .dict _, _, h, _ => by simp [nb] at h
theorem eqvAll_iff : ∀ {xs ys : List PyData}, nb.nbAll xs = true → nb.nbAll ys = true → (PyData.eqvAll xs ys = true ↔ xs = ys)
  | [], [], _, _ => by simp [PyData.eqvAll]
  | [], _ :: _, _, _ => by simp [PyData.eqvAll]
  | _ :: _, [], _, _ => by simp [PyData.eqvAll]
  | x :: xs, y :: ys, h, h' => by
    have h1 : nb x = true ∧ nb.nbAll xs = true := by simpa [nb.nbAll] using h
    have h2 : nb y = true ∧ nb.nbAll ys = true := by simpa [nb.nbAll] using h'
    have a := eqv_iff (d := x) (e := y) h1.1 h2.1
    have b := eqvAll_iff (xs := xs) (ys := ys) h1.2 h2.2
    simp only [PyData.eqvAll, Bool.and_eq_true, a, b, List.cons.injEq]
end
theorem eqv_dec {d e : PyData} {p : Prop} [Decidable p] (h : nb d = true) (h' : nb e = true) (q : d = e ↔ p) : PyData.eqv d e = decide p := by
  rw [Bool.eq_iff_iff, eqv_iff h h', decide_eq_true_iff, q]
theorem nb_ints : ∀ cs : List Int, nb.nbAll (cs.map PyData.int) = true
  | [] => rfl
  | _ :: cs => by simp [nb.nbAll, nb, nb_ints cs]
theorem lay_ints : ∀ cs : List Int, PyData.canLayAll0 (cs.map PyData.int) = true
  | [] => by simp [PyData.canLayAll0]
  | _ :: cs => by simp [PyData.canLayAll0, PyData.canLay0, lay_ints cs]
theorem dep_ints : ∀ cs : List Int, PyData.depthAll (cs.map PyData.int) = 0
  | [] => by simp [PyData.depthAll]
  | _ :: cs => by simp [PyData.depthAll, PyData.depth, dep_ints cs]
theorem shaped_tup (cs : List Int) : SeqAt.shaped (.tuple (cs.map PyData.int)) = true := by
  simp [SeqAt.shaped, PyData.canLay0, PyData.depth, lay_ints, dep_ints]
theorem shaped_lst (cs : List Int) : SeqAt.shaped (.list (cs.map PyData.int)) = true := by
  simp [SeqAt.shaped, PyData.canLay0, PyData.depth, lay_ints, dep_ints]
theorem map_int_inj {cs ds : List Int} : cs.map PyData.int = ds.map PyData.int ↔ cs = ds := by
  constructor
  · intro h
    have := congrArg (List.map fun d => match d with | PyData.int i => i | _ => 0) h
    simpa [List.map_map, Function.comp_def] using this
  · rintro rfl; rfl
theorem eqv_tups (cs ds : List Int) : PyData.eqv (.tuple (cs.map PyData.int)) (.tuple (ds.map PyData.int)) = decide (cs = ds) :=
  eqv_dec (by simp [nb, nb_ints]) (by simp [nb, nb_ints]) (by rw [PyData.tuple.injEq]; exact map_int_inj)
theorem eqv_lsts (cs ds : List Int) : PyData.eqv (.list (cs.map PyData.int)) (.list (ds.map PyData.int)) = decide (cs = ds) :=
  eqv_dec (by simp [nb, nb_ints]) (by simp [nb, nb_ints]) (by rw [PyData.list.injEq]; exact map_int_inj)
section
variable {X0 : Cx} {E : XK} {H : Hp} {Q : VK} {x y : V} {d e : PyData} {a b : Addr} {cs ds : List Int}
theorem s_eqD (hu : X0.A.units + 64 < cLine) (hx : Dp X0.K H x d) (hy : Dp X0.K H y e) (h1 : SeqAt.shaped d = true) (h2 : SeqAt.shaped e = true) (q : Q (.bl (PyData.eqv d e)) H) : ∃ r, OpD X0 E (compareOp .Eq) r ∧ r x y H Q :=
  ⟨rEqD X0.K, fun X l _ => by rw [← l.K]; exact op_eqD (by rw [l.A]; exact hu), d, e, hx, hy, h1, h2, q⟩
theorem s_neD (hu : X0.A.units + 64 < cLine) (hx : Dp X0.K H x d) (hy : Dp X0.K H y e) (h1 : SeqAt.shaped d = true) (h2 : SeqAt.shaped e = true) (q : Q (.bl (!PyData.eqv d e)) H) : ∃ r, OpD X0 E (compareOp .NotEq) r ∧ r x y H Q :=
  ⟨rNeD X0.K, fun X l _ => by rw [← l.K]; exact op_neD (by rw [l.A]; exact hu), d, e, hx, hy, h1, h2, q⟩
theorem s_eqTups (hu : X0.A.units + 64 < cLine) (ha : SqT X0.K H a (cs.map V.int)) (hb : SqT X0.K H b (ds.map V.int)) (q : Q (.bl (decide (cs = ds))) H) : ∃ r, OpD X0 E (compareOp .Eq) r ∧ r (.ref a) (.ref b) H Q :=
  s_eqD hu (.tup ha (dp_ints _)) (.tup hb (dp_ints _)) (shaped_tup _) (shaped_tup _) (by rw [eqv_tups]; exact q)
theorem s_neTups (hu : X0.A.units + 64 < cLine) (ha : SqT X0.K H a (cs.map V.int)) (hb : SqT X0.K H b (ds.map V.int)) (q : Q (.bl (!decide (cs = ds))) H) : ∃ r, OpD X0 E (compareOp .NotEq) r ∧ r (.ref a) (.ref b) H Q :=
  s_neD hu (.tup ha (dp_ints _)) (.tup hb (dp_ints _)) (shaped_tup _) (shaped_tup _) (by rw [eqv_tups]; exact q)
theorem s_eqLsts (hu : X0.A.units + 64 < cLine) (ha : SqL X0.K H a (cs.map V.int)) (hb : SqL X0.K H b (ds.map V.int)) (q : Q (.bl (decide (cs = ds))) H) : ∃ r, OpD X0 E (compareOp .Eq) r ∧ r (.ref a) (.ref b) H Q :=
  s_eqD hu (.lst ha (dp_ints _)) (.lst hb (dp_ints _)) (shaped_lst _) (shaped_lst _) (by rw [eqv_lsts]; exact q)
theorem s_neLsts (hu : X0.A.units + 64 < cLine) (ha : SqL X0.K H a (cs.map V.int)) (hb : SqL X0.K H b (ds.map V.int)) (q : Q (.bl (!decide (cs = ds))) H) : ∃ r, OpD X0 E (compareOp .NotEq) r ∧ r (.ref a) (.ref b) H Q :=
  s_neD hu (.lst ha (dp_ints _)) (.lst hb (dp_ints _)) (shaped_lst _) (shaped_lst _) (by rw [eqv_lsts]; exact q)
/-- isinstance of an own class -/
theorem s_isiC {C : Addr} {t : Value} {b : Bool} (ty : TyX X0.K H x t) (hk : PySem.W.kitOne X0.K t (.ref C) = some b) (q : Q (.bl b) H) : ∃ r, CaD X0 E (.builtin "isinstance") r ∧ r [x, .ref C] H Q :=
  ⟨rIsi X0.K, fun X l _ => by rw [← l.K]; exact call_isi, x, .ref C, t, .ref C, b, rfl, .own C, ty, hk, q⟩
theorem tyx_ins {K : PySem.W.Frag} {C dx : Addr} {fs : List (Str × V)} (h : H a = some (.ins C dx fs)) (c : Cls K C) (si : SlX.SIsi K C) : TyX K H (.ref a) (.ref C) := .base (.ins h c si.ca si.cn si.ct si.cm)
theorem kit_self {K : PySem.W.Frag} {t : Value} : PySem.W.kitOne K t t = some true := by
  unfold PySem.W.kitOne
  rw [if_pos (by exact beq_self_eq_true t)]
theorem s_truT {xs : List V} {QB : Bool → Hp → Prop} (h : SqT X0.K H a xs) (q : QB (!xs.isEmpty) H) : ∃ r, TrD X0 E r ∧ r (.ref a) H QB :=
  ⟨fun x H Q => ∃ k, TruV X0.K x H k ∧ Q k H, fun X l _ => by rw [← l.K]; exact tru_ok, _, .inr (.inl ⟨xs, h, rfl⟩), q⟩
theorem s_truL {xs : List V} {QB : Bool → Hp → Prop} (h : SqL X0.K H a xs) (q : QB (!xs.isEmpty) H) : ∃ r, TrD X0 E r ∧ r (.ref a) H QB :=
  ⟨fun x H Q => ∃ k, TruV X0.K x H k ∧ Q k H, fun X l _ => by rw [← l.K]; exact tru_ok, _, .inl ⟨xs, h, rfl⟩, q⟩
/-- great numbers -/
theorem s_mulW {i j : Int} (h : CMulW i j) (q : Q (.int (i * j)) H) : ∃ r, OpD X0 E (binaryOp .Mult) r ∧ r (.int i) (.int j) H Q := ⟨_, fun _ _ _ => op_mulW, i, j, rfl, rfl, h, q⟩
theorem s_fdivW {i j : Int} (h : CDivW i j) (q : Q (.int (i / j)) H) : ∃ r, OpD X0 E (binaryOp .FloorDiv) r ∧ r (.int i) (.int j) H Q := ⟨_, fun _ _ _ => op_fdivW, i, j, rfl, rfl, h, q⟩
end
theorem kit_own {K : PySem.W.Frag} {C : Addr} {T : String} {b : Bool} (hd : PySem.W.hasDictIn K C = true) (h1 : PySem.W.typeIn K (.ref C) = some (.type "type")) (h2 : PySem.W.subIn K (.type T) (.ref C) = some b) : PySem.W.kitOne K (.type T) (.ref C) = some b := by
  have hc : (PySem.W.clsIn K C).isSome = true := by
    obtain ⟨cd, hc, _⟩ := PySem.W.any_some hd
    rw [hc]
    rfl
  unfold PySem.W.kitOne PySem.W.kitCls
  rw [if_neg (by simp)]
  show (if ((PySem.W.clsIn K C).isSome && PySem.W.typeIn K (.ref C) == some (.type "type")) = true then PySem.W.subIn K (.type T) (.ref C) else none) = some b
  rw [hc, h1]
  exact h2
end Odd

namespace Odd
open PySem PySem.Spec PyProof.Rows L2
/-- all tracked but what stands at S is as it was -/
def SameB (S : Addr → Prop) (H H' : Hp) : Prop := ∀ b o, ¬ S b → H b = some o → H' b = some o
theorem SameB.refl {S : Addr → Prop} (H : Hp) : SameB S H H := fun _ _ _ h => h
theorem SameB.trans {S : Addr → Prop} {H H1 H2 : Hp} (a : SameB S H H1) (b : SameB S H1 H2) : SameB S H H2 := fun c o n h => b c o n (a c o n h)
theorem Same.b {S : Addr → Prop} {H H' : Hp} (s : Same H H') : SameB S H H' := fun b o _ h => s b o h
theorem turn1_filter {tt : TT} {te : TE} {σ2 : L2.St} {H' : Hp} {o : List V} {y : V} {b : Bool} (ht : ∀ R : Bool → Hp → Prop, (∀ H3, Same H' H3 → R b H3) → tt σ2 H' R)
    (he : b = true → ∀ H3, Same H' H3 → ∀ R : VK, (∀ H4, Same H3 H4 → R y H4) → te σ2 H3 R) : Turn1 tt te σ2 H' o (if b = true then o ++ [y] else o) := fun K1 K0 k1 k0 => ht _ fun H3 s3 => by
  cases b with
  | true => exact iteT (he rfl H3 s3 K1 fun H4 s4 => k1 y H4 (s3.trans s4) (by rw [if_pos rfl]))
  | false => exact iteF (k0 H3 s3 (by rw [if_neg Bool.false_ne_true]))
section
variable {K : PySem.W.Frag} {H : Hp} {Q : VK} {σ : L2.St} {to ti : TE} {v : V} {t : TSet} {R : L2.St → Hp → Prop}
theorem w_gsub (h : to σ H fun o H1 => ti σ H1 fun i H2 => t o i v H2 fun H3 => R σ H3) : gSub to ti t v σ H R := h
theorem s_setL {p : Addr} {xs : List V} {k : Int} {j : Nat} {RH : Hp → Prop} (h : H p = some (.lst xs)) (hj : ixN xs.length k = some j) (q : RH (upd H p (.lst (xs.set j v)))) : rSetL (.ref p) (.int k) v H RH := ⟨p, xs, k, j, rfl, rfl, h, hj, q⟩
/-- the type of a datum -/
def tyn : PyData → String
  | .none => "NoneType"
  | .bool _ => "bool"
  | .int _ => "int"
  | .str _ => "str"
  | .list _ => "list"
  | .tuple _ => "tuple"
  | .dict _ => "dict"
theorem tyx_l {a : Addr} {xs : List V} (h : SqL K H a xs) : TyX K H (.ref a) (.type "list") := by
  rcases h with (h | ⟨o, h⟩) | ⟨o, its, n, hk, hc, _⟩
  · exact .base (.lst h)
  · exact .base (.frz h)
  · exact .kList hk hc
theorem tyx_t {a : Addr} {xs : List V} (h : SqT K H a xs) : TyX K H (.ref a) (.type "tuple") := by
  rcases h with (h | ⟨o, h⟩) | ⟨o, its, n, hk, hc, _⟩
  · exact .base (.tup h)
  · exact .fTuple h
  · exact .kTuple hk hc
theorem tyx_dp {d : PyData} (h : Dp K H v d) : TyX K H v (.type (tyn d)) := by
  cases h with
  | non => exact .base .non
  | bl b => exact .base (.bl b)
  | int i => exact .base (.int i)
  | str x => exact .base (.str x)
  | lst h _ => exact tyx_l h
  | tup h _ => exact tyx_t h
end
section
variable {X0 : Cx} {E : XK} {H : Hp} {Q : VK} {x : V}
/-- isinstance(x, (tuple, list)) -/
theorem s_isiTL {d : PyData} {tp : Addr} {n m : String} {b : Bool} (h : Dp X0.K H x d) (ht : H tp = some (.tup [.ty n, .ty m])) (hk : PySem.W.kitAny X0.K (.type (tyn d)) [.type n, .type m] = some b) (q : Q (.bl b) H) :
    ∃ r, CaD X0 E (.builtin "isinstance") r ∧ r [x, .ref tp] H Q :=
  ⟨rIsiT X0.K, fun X l _ => by rw [← l.K]; exact call_isiT, x, tp, [.ty n, .ty m], .type (tyn d), [.type n, .type m], b, rfl, ht, .cons (.ty _) (.cons (.ty _) .nil), tyx_dp h, hk, q⟩
theorem s_isiD {d : PyData} {n : String} {b : Bool} (h : Dp X0.K H x d) (hk : kitB (tyn d) n = some b) (q : Q (.bl b) H) : ∃ r, CaD X0 E (.builtin "isinstance") r ∧ r [x, .ty n] H Q :=
  s_isi (tyx_dp h) (kit_ty hk) q
end
def isTL : PyData → Bool
  | .list _ => true
  | .tuple _ => true
  | _ => false
def isL : PyData → Bool
  | .list _ => true
  | _ => false
def isB : PyData → Bool
  | .bool _ => true
  | _ => false
def isI : PyData → Bool
  | .bool _ => true
  | .int _ => true
  | _ => false
theorem kit_TL {K : PySem.W.Frag} (d : PyData) (hd : ∀ kvs, d ≠ .dict kvs) : PySem.W.kitAny K (.type (tyn d)) [.type "tuple", .type "list"] = some (isTL d) := by
  have n : ∀ T : String, kitB T "tuple" = some false → kitB T "list" = some false → PySem.W.kitAny K (.type T) [.type "tuple", .type "list"] = some false := fun T h1 h2 =>
    kitAny_cons (b := false) (kit_ty h1) (fun _ => kitAny_cons (b := false) (kit_ty h2) (fun _ => kitAny_nil) fun z => nomatch z) fun z => nomatch z
  cases d with
  | dict kvs => exact absurd rfl (hd kvs)
  | list xs => exact kitAny_cons (b := false) (kit_ty (by decide +kernel : kitB "list" "tuple" = some false)) (fun _ => kitAny_cons (b := true) (kit_ty (by decide +kernel : kitB "list" "list" = some true)) (fun z => nomatch z) fun _ => rfl) fun z => nomatch z
  | tuple xs => exact kitAny_cons (b := true) (kit_ty (by decide +kernel : kitB "tuple" "tuple" = some true)) (fun z => nomatch z) fun _ => rfl
  | none => exact n "NoneType" (by decide +kernel) (by decide +kernel)
  | bool b => exact n "bool" (by decide +kernel) (by decide +kernel)
  | int i => exact n "int" (by decide +kernel) (by decide +kernel)
  | str x => exact n "str" (by decide +kernel) (by decide +kernel)
theorem kit_L (d : PyData) (hd : ∀ kvs, d ≠ .dict kvs) : kitB (tyn d) "list" = some (isL d) := by
  cases d with
  | dict kvs => exact absurd rfl (hd kvs)
  | list xs => exact (by decide +kernel : kitB "list" "list" = some true)
  | tuple xs => exact (by decide +kernel : kitB "tuple" "list" = some false)
  | none => exact (by decide +kernel : kitB "NoneType" "list" = some false)
  | bool b => exact (by decide +kernel : kitB "bool" "list" = some false)
  | int i => exact (by decide +kernel : kitB "int" "list" = some false)
  | str x => exact (by decide +kernel : kitB "str" "list" = some false)
theorem kit_B (d : PyData) (hd : ∀ kvs, d ≠ .dict kvs) : kitB (tyn d) "bool" = some (isB d) := by
  cases d with
  | dict kvs => exact absurd rfl (hd kvs)
  | list xs => exact (by decide +kernel : kitB "list" "bool" = some false)
  | tuple xs => exact (by decide +kernel : kitB "tuple" "bool" = some false)
  | none => exact (by decide +kernel : kitB "NoneType" "bool" = some false)
  | bool b => exact (by decide +kernel : kitB "bool" "bool" = some true)
  | int i => exact (by decide +kernel : kitB "int" "bool" = some false)
  | str x => exact (by decide +kernel : kitB "str" "bool" = some false)
theorem kit_I (d : PyData) (hd : ∀ kvs, d ≠ .dict kvs) : kitB (tyn d) "int" = some (isI d) := by
  cases d with
  | dict kvs => exact absurd rfl (hd kvs)
  | list xs => exact (by decide +kernel : kitB "list" "int" = some false)
  | tuple xs => exact (by decide +kernel : kitB "tuple" "int" = some false)
  | none => exact (by decide +kernel : kitB "NoneType" "int" = some false)
  | bool b => exact (by decide +kernel : kitB "bool" "int" = some true)
  | int i => exact (by decide +kernel : kitB "int" "int" = some true)
  | str x => exact (by decide +kernel : kitB "str" "int" = some false)
theorem dp_nd {K : PySem.W.Frag} {H : Hp} {v : V} {d : PyData} (h : Dp K H v d) : ∀ kvs, d ≠ .dict kvs := fun kvs e => by
  subst e
  cases h
end Odd

namespace Odd
open PySem PySem.Spec PyProof.Rows L2
/-! ### names, attributes of classes, calls of locals, of instances, of classmethods -/
section
variable {X0 X : Cx} {E : XK} {x m : Str} {e o : Expr} {es : List Expr} {te ta : TE} {t : TA} {p pos apos sp_ : Pos}
/-- a name of the module that holds an int -/
def tGvI (X0 : Cx) (x : Str) : TE := fun σ H Q => ∃ n u, X0.mg x = some (.int n u) ∧ Q (.int n) H
theorem pe_gvI (l : Like X0 X) (hg : Gl X x) (hd : (x == ("__debug__" : Str)) = false := by decide) : PE X (.Name x pos) (tGvI X0 x) :=
  ⟨fun pins s σ H Q I ⟨n, u, hm, q⟩ => ld_glob I hg (by rw [l.mg]; exact hm) ⟨.int n, H, I, ⟨u, rfl⟩, q⟩ hd⟩
theorem w_gvI {σ : L2.St} {H : Hp} {Q : VK} {n : Int} {u : Tok} (h : X0.mg x = some (.int n u)) (q : Q (.int n) H) : tGvI X0 x σ H Q := ⟨n, u, h, q⟩
/-- C.f, a constant of the class -/
theorem s_cval {H : Hp} {Q : VK} {C : Addr} {mc u : Value} {f : Str} {v : V} (r : ClX.CRead X0.K C mc) (k : ClX.CVal X0.K C mc f v u) (q : Q v H) : ∃ r, AtD X0 E f r ∧ r (.ref C) H Q :=
  ⟨fun x H Q => x = .ref C ∧ Q v H, fun X l h b pins s σ H x w Q I rx ⟨ex, q⟩ => by
    subst ex
    obtain rfl : w = Value.ref C := rx
    rw [← l.K] at r k
    exact ClX.getcval_ok I r k fun s2 I2 => ⟨v, H, I2, k.rel, q⟩, rfl, q⟩
/-- x(e, .., *y), x a local -/
def tLoA (X0 : Cx) (E : XK) (i : Nat) (t : TA) : TE := fun σ H Q => ∃ f, σ[i]? = some (some (.ref f)) ∧ PySem.W.keepIn X0.K (.ref f) = true ∧ t σ H fun vs H1 => ∃ r, CaD X0 E (.ref f) r ∧ r vs H1 Q
theorem pe_loS2 {i : Nat} (l : Like X0 X) (h : Pas X E) (hN : X.N[i]? = some x) (hv : Vis X.env.scope x) (ha : PA X (e :: es) t) (hd : (x == ("__debug__" : Str)) = false := by decide) (hcd : (x == ("__classdict__" : Str)) = false := by decide)
    (he : starEach (e :: es) X.env = (false, eval e X.env) :: starEach es X.env := by rfl) (hst : (backTo pos (starEach es X.env)).any (·.1) = true := by rfl) :
    PE X (.Call (.Name x p) (e :: es) [] pos) (tLoA X0 E i t) := by
  refine ⟨fun pins s σ H Q I ⟨f, hs, hk, q⟩ => ?_⟩
  rw [← l.K] at hk
  refine wpAny_Call_Name_kw (thn ((pe_var (pos := p) (i := i) hN hv hd hcd).run pins s σ H (fun v H1 => v = .ref f ∧ H1 = H) I ⟨.ref f, hs, rfl, rfl⟩) fun u s1 ⟨v, H1, I1, r1, q1⟩ => ?_)
  obtain ⟨ev, eH⟩ := q1
  subst ev
  rw [eH] at I1
  obtain rfl : u = Value.ref f := r1
  exact PySem.W.callWith_S2 (h₀ := X.base) I1.ok.mod.kin hk (thn (ha.run pos pins s1 σ H _ I1 q) fun us s2 ⟨vs, H2, I2, r2, r, hr, q2⟩ => ⟨I2.kIn, hr X l h pins s2 σ H2 vs us Q I2 r2 q2⟩) he hst
/-- f(e, ..), f an instance -/
def tCoA (X0 : Cx) (E : XK) (tf : TE) (t : TA) : TE := fun σ H Q => tf σ H fun y H1 => ∃ a, y = V.ref a ∧ t σ H1 fun vs H2 => (∃ C dx fs, H2 a = some (.ins C dx fs)) ∧ ∃ r, CaD X0 E (.ref a) r ∧ r vs H2 Q
theorem pe_coA (l : Like X0 X) (h : Pas X E) (hf : PE X o ta) (ha : PA X (e :: es) t)
    (ht : eval (.Call o (e :: es) [] pos) X.env = (do callWith pos (← eval o X.env) [] (backTo pos (starEach (e :: es) X.env)) (backToKw pos (keywordEach [] X.env))) := by rfl)
    (he : starEach (e :: es) X.env = (false, eval e X.env) :: starEach es X.env := by rfl) (hpl : (backTo pos (starEach es X.env)).any (·.1) = false := by rfl) : PE X (.Call o (e :: es) [] pos) (tCoA X0 E ta t) := by
  refine ⟨fun pins s σ H Q I hq => ?_⟩
  refine Call_ (thn (hf.run pins s σ H _ I hq) fun u s1 ⟨y, H1, I1, ry, a, ey, q⟩ => ?_) ht
  subst ey
  obtain rfl : u = Value.ref a := ry
  refine StX.callO_with (thn (ha.run pos pins s1 σ H1 _ I1 q) fun us s2 ⟨vs, H2, I2, rv, ⟨C, dx, fs, hi⟩, r, hr, q2⟩ => ?_) he hpl
  obtain ⟨ox, od, J, hd⟩ := StX.insC_at I2 (.inr ⟨dx, fs, hi⟩)
  exact ⟨⟨C, ox, od, J, hd⟩, hr X l h pins s2 σ H2 vs us Q I2 rv q2⟩
theorem s_callO {k : Nat} {H : Hp} {Q : VK} {a C g dx : Addr} {fs : List (Str × V)} {vs : List V} {sp : Sp} (hi : H a = some (.ins C dx fs)) (c : StX.CallO X0.K C g) (F : Fn X0 k g sp) (hr : Room k X0.A) (q : sp (.ref a :: vs) H Q E) : ∃ r, CaD X0 E (.ref a) r ∧ r vs H Q :=
  ⟨fun vs H Q => (∃ dx fs, H a = some (.ins C dx fs)) ∧ sp (.ref a :: vs) H Q E, fun X l h pins s σ H xs us Q I r ⟨hi, q⟩ => by
    rw [← l.K] at c
    exact StX.run_callO c (l.fn F) (l.room hr) h I (.inr hi) r q, ⟨dx, fs, hi⟩, q⟩
/-- C.m(e, ..), m a classmethod -/
def tCmA (X0 : Cx) (E : XK) (m : Str) (ta : TE) (t : TA) : TE := fun σ H Q => ta σ H fun x H1 => ∃ C mc p g k sp, x = .ref C ∧ ClX.CRead X0.K C mc ∧ ClX.CMet X0.K C mc m p g ∧ Fn X0 k g sp ∧ Room k X0.A ∧ t σ H1 fun vs H2 => sp (.ref C :: vs) H2 Q E
theorem pe_cmA {pl : Sem Bool} (l : Like X0 X) (h : Pas X E) (he : PE X o ta) (ha : PA X (e :: es) t)
    (hst : starEach (e :: es) X.env = (false, eval e X.env) :: starEach es X.env := by rfl) (hpl : (backTo pos (starEach es X.env)).any (·.1) = false := by rfl)
    (ht : eval (.Call (.Attribute o m apos) (e :: es) [] pos) X.env = (do
      let ov ← eval o X.env
      standAt apos.atName
      let (f, first) ← holding [ov] (getMethod ov m pl)
      callWith pos f first (backTo pos (starEach (e :: es) X.env)) (backToKw pos (keywordEach [] X.env))) := by rfl) :
    PE X (.Call (.Attribute o m apos) (e :: es) [] pos) (tCmA X0 E m ta t) := by
  refine ⟨fun pins s σ H Q I hq => ?_⟩
  refine PySem.W.methodCall_KW (pl := pl) (thn (he.run pins s σ H _ I hq) fun u s1 ⟨x, H1, I1, rx, C, mc, p, g, k, sp, ex, r, c, F, hr, q⟩ => ?_) ht
  subst ex
  obtain rfl : u = Value.ref C := rx
  rw [← l.K] at r c
  refine ClX.getmethcm_ok I1 r c fun s2 I2 => ?_
  refine ClX.callwith_cm I2 (ClX.base_none I1 (Nat.le_refl _)) c.fi (thn (ha.run pos _ s2 σ H1 _ I2 q) fun us s3 ⟨vs, H2, I3, rv, q2⟩ => ⟨⟨ClX.pin_at I3, I3.kIn⟩, ?_⟩) hst hpl
  exact ClX.run_cm (l.fn F) (l.room hr) h I3 rv q2
/-- o[i] op= e -/
def tAgS (X0 : Cx) (E : XK) (f : Value → Value → Sem Value) (to ti te : TE) (tset : TSet) : TS := fun D σ H => to σ H fun o H1 => ti σ H1 fun i H2 => (∃ a xs k v, o = .ref a ∧ i = .int k ∧ SqL X0.K H2 a xs ∧ atI xs k = some v ∧
  te σ H2 fun y H4 => ∃ r, OpD X0 E f r ∧ r v y H4 fun z H5 => tset o i z H5 fun H6 => D.nx σ H6)
end
end Odd

namespace Odd
open PySem PySem.Spec PyProof.Rows L2
/-! ### o[i] op= e for lists -/
section
variable {X0 X : Cx} {E : XK}
def tGetL (K : PySem.W.Frag) : V → V → Hp → VK → Prop := fun o i H Q => ∃ a xs k v, o = .ref a ∧ i = .int k ∧ 0 ≤ k ∧ SqL K H a xs ∧ xs[k.toNat]? = some v ∧ Q v H
theorem get_listA : PGet X (tGetL X.K) := by
  intro pins s σ H o i ov iv Q I ro ri h
  obtain ⟨a, xs, k, v, rfl, rfl, h0, hq, hx, q⟩ := h
  cases ro
  obtain ⟨t, rfl⟩ := ri
  obtain ⟨its, r, pl, hz⟩ := I.list hq
  obtain ⟨w, ew, rw'⟩ := r.get hx
  have hl := r.length
  have hn := line63
  have hk : k.toNat < xs.length := (List.getElem?_eq_some_iff.1 hx).1
  exact wpAny_getItem_list pl.isList h0 (by omega) (by simpa using ew) ⟨v, H, I, rw', q⟩
theorem ps_agS {op : Operator} {o i e : Expr} {to ti te : TE} {tpos pos : Pos} (l : Like X0 X) (h : Pas X E) (ho : PE X o to) (hi : PE X i ti) (he : PE X e te)
    (ha : ∀ ov iv new, augStore i ov iv new = (do holding [new, ov, iv] (setItem ov iv new); release [new, ov, iv] []; pure .next) := by intros; rfl) :
    PS X (.AugAssign (.Subscript o i tpos) op e pos) (tAugS to ti te (tGetL X.K) (fun x y H Q => ∃ r, OpD X0 E (inplaceOp op) r ∧ r x y H Q) rSetL) :=
  ps_augS ho hi get_listA he (fun pins s σ H x y v u Q I rx ry ⟨r, hr, q⟩ => hr X l h pins s σ H x y v u Q I rx ry q) set_list ha
theorem w_agS {K : PySem.W.Frag} {to ti te : TE} {tget : V → V → Hp → VK → Prop} {tip : TIp} {tset : TSet} {D : Ends} {σ : L2.St} {H : Hp}
    (h : to σ H fun o H1 => ti σ H1 fun i H2 => tget o i H2 fun x H3 => te σ H3 fun y H4 => tip x y H4 fun z H5 => tset o i z H5 fun H6 => D.nx σ H6) : tAugS to ti te tget tip tset D σ H := h
theorem s_getL {K : PySem.W.Frag} {H : Hp} {Q : VK} {a : Addr} {xs : List V} {k : Int} {v : V} (hq : SqL K H a xs) (h0 : 0 ≤ k) (hx : xs[k.toNat]? = some v) (q : Q v H) : tGetL K (.ref a) (.int k) H Q := ⟨a, xs, k, v, rfl, rfl, h0, hq, hx, q⟩
end
/-! ### enumerate of a tuple -/
section
variable {prog : Program} {w : World} {A : Around}
/-- a tuple's own iterator hands its items out -/
theorem draws_tup (hh : A.handled = none) (it t : Addr) (ne : t ≠ it) (items : Array Value) :
    Draws prog w A it [it, t] items.size (fun i v => items[i]? = some v) (fun i h => h.IsTupleIter it t i ∧ h.IsTuple t items) :=
  ⟨fun _ _ st => let ⟨o, e, _⟩ := st.1; ⟨o, e⟩, fun _ _ _ st k => ⟨st.1.at fun o e => k it (by simp) o e, let ⟨o, e, r⟩ := st.2; ⟨o, k t (by simp) o e, r⟩⟩,
    fun i s Q E hi st hQ => wpAny_nextOf_tuple_item st.1 st.2 (x := items[i]) (by simp [hi]) fun h' a b => hQ _ h' s.toks (by simp [hi]) ⟨a, st.2.extBut b.extBut ne⟩ b,
    fun s Q E st hE => wpAny_nextOf_tuple_end hh st.1 st.2 (by simp) hE⟩
theorem draws_end (hh : A.handled = none) (it t : Addr) (items : Array Value) (i : Nat) (hi : items[i]? = none) :
    Draws prog w A it [it, t] 0 (fun _ _ => True) (fun _ h => h.IsTupleIter it t i ∧ h.IsTuple t items) :=
  ⟨fun _ _ st => let ⟨o, e, _⟩ := st.1; ⟨o, e⟩, fun _ _ _ st k => ⟨st.1.at fun o e => k it (by simp) o e, let ⟨o, e, r⟩ := st.2; ⟨o, k t (by simp) o e, r⟩⟩,
    fun i s Q E hi => absurd hi (Nat.not_lt_zero _), fun s Q E st hE => wpAny_nextOf_tuple_end hh st.1 st.2 hi hE⟩
set_option maxHeartbeats 4000000 in
theorem meets_enum1 {v : Value} {o : Obj} {Hs : Heap → Prop} (B : Begins v o Hs) :
    Meets (Builtin.«enumerate.__new__» ⟨[.type "enumerate", v], []⟩) (fun _ R s => Hs s.heap ∧
      R (.ok (.ret (.ref (s.heap.push o).objs.size))) { s with heap := (s.heap.push o).push { cls := .type "enumerate", data := .fields #[.none, .bool false, .ref s.heap.objs.size, rawInt 0, .none, .none] } }) :=
  .of_wp fun prog w A R s h => by
    obtain ⟨hp, g, d, tk, os⟩ := s
    obtain ⟨h1, h⟩ := h
    have hsub := sub_enumerate
    have q1 : ∀ {A' : Around} {E : Value → Shared → Prop} {Q : Value → Shared → Prop}, Q (.ref hp.objs.size) ⟨hp.push o, g, d, tk, os⟩ → wpAny (model prog w) A' (pyIter v) Q E ⟨hp, g, d, tk, os⟩ :=
      fun q => B.iter prog w _ _ ⟨hp, g, d, tk, os⟩ _ h1 q
    wp_walk using q1
    refine wpAny_stack_any fun st => wpAny_pure ?_
    split
    · rename_i c _ _ _ _ _
      cases (c == Value.type "enumerate") <;>
      · wp_walk using q1
        exact ⟨_, rfl, h⟩
    · wp_walk using q1
      exact ⟨_, rfl, h⟩
theorem call_enum1 {E : Value → Shared → Prop} {s : Shared} {v : Value} {o : Obj} {Hs : Heap → Prop} {Q : Value → Shared → Prop} (B : Begins v o Hs) (h1 : Hs s.heap)
    (h : ∀ h', IsEnum h' (s.heap.objs.size + 1) s.heap.objs.size 0 .none → h'.get? s.heap.objs.size = some o → (∀ b u, s.heap.get? b = some u → h'.get? b = some u) → Q (.ref (s.heap.objs.size + 1)) { s with heap := h' }) :
    wpAny (model prog w) A (call (.type "enumerate") [v]) Q E s := by
  refine callType_new F.called_enumerate (by decide) (F.typeCall_enumerate_1 _) (F.newCall_enumerate_1 _) (fun obj => F.args_object_init_2 obj _) F.entry_enumerate_new (meets_enum1 B) ⟨h1, ?_⟩
  show _ ∧ _
  rw [Heap.size_push]
  have he : IsEnum ((s.heap.push o).push { cls := .type "enumerate", data := .fields #[.none, .bool false, .ref s.heap.objs.size, rawInt 0, .none, .none] }) (s.heap.objs.size + 1) s.heap.objs.size 0 .none := by
    have z := Heap.get?_push_size (s.heap.push o) (o := { cls := .type "enumerate", data := .fields #[.none, .bool false, .ref s.heap.objs.size, rawInt 0, .none, .none] }) rfl
    rw [Heap.size_push] at z
    exact z
  exact ⟨⟨_, he, rfl⟩, h _ he (Heap.get?_push_of_some _ (Heap.get?_push_size _ B.free)) fun b u e => Heap.get?_push_of_some _ (Heap.get?_push_of_some _ e)⟩
end
/-- the tuple at a, each item in a new pair with its index -/
def Itet (K : PySem.W.Frag) (a : Addr) : It :=
  ⟨fun i H => ∃ (xs : List V) (x : V), SqT K H a xs ∧ xs[i]? = some x, fun i H v H' => ∃ T x, v = .ref T ∧ H T = none ∧ H' = upd H T (.tup [.int (i : Nat), x]) ∧ ∀ xs, SqT K H a xs → xs[i]? = some x, fun i H => ∃ xs : List V, SqT K H a xs ∧ xs.length ≤ i⟩
theorem turn_enumT {P : Program} {w : World} {K : PySem.W.Frag} {elts : List Expr} {kk : Nat} {tpos : Pos} (a e it : Addr) :
    Turn P w K (.Tuple elts kk tpos) (Itet K a) [e, it] e (fun i h => (∃ old, IsEnum h e it ((i : Nat) : Int) old) ∧ h.IsTupleIter it a i ∧ e ≠ it ∧ e ≠ a) where
  mem := List.mem_cons_self ..
  obj := fun i h st b hb => by
    obtain ⟨⟨old, he⟩, ⟨o, ho, _, hd⟩, _⟩ := st
    rcases List.mem_cons.mp hb with z | z
    · exact ⟨_, by rw [z]; exact he, fun v q => by cases q⟩
    · rw [List.mem_singleton.mp z]
      exact ⟨o, ho, fun v q => by rw [hd] at q; cases q⟩
  keep := fun i h h' st k => ⟨st.1.imp fun old he => k e (by simp) _ he, st.2.1.at fun o q => k it (by simp) o q, st.2.2⟩
  item := by
    intro X hP hw hK hc i pins s σ H E I hf st hg
    subst hP hw hK
    obtain ⟨⟨old, he⟩, hit, hne, hna⟩ := st
    obtain ⟨xs, x, hq, hx⟩ := hg
    obtain ⟨its, rv, p, hz⟩ := I.tuple hq
    obtain ⟨u, hu, ru⟩ := rv.get hx
    have pT : s.heap.IsTuple a its.toArray := p
    have nai : a ≠ it := fun z => by
      obtain ⟨o1, e1, c1, _⟩ := pT
      obtain ⟨o2, e2, c2, _⟩ := hit
      rw [z, e2] at e1
      cases e1
      rw [c2] at c1
      exact absurd (Value.type.inj c1) (by decide)
    have hlt : i < its.toArray.size := by
      have := (List.getElem?_eq_some_iff.1 hu).1
      simpa using this
    have D := draws_tup (prog := X.prog) (w := X.w) (A := X.A.in1) (I.ok.hd hc) it a nai its.toArray
    refine wpAny_pyNext_enum_itemD D he ⟨hit, pT⟩ hlt hne (by simp [hne, hna]) fun y h' tk hy ho hs' hT hsz hk => ?_
    have ey : y = u := by
      have h2 : its[i]? = some y := by simpa using hy
      rw [hu] at h2
      exact (Option.some.inj h2).symm
    subst ey
    have hel : e < s.heap.objs.size := Heap.lt_size he
    refine ⟨_, rfl, wpAny_letOwnedTupleGo_enum (s := { s with heap := h', toks := tk + 1 }) ho fun h'' he' sb => ?_⟩
    have hT2 : h''.get? s.heap.objs.size = some { cls := .type "tuple", data := .seq #[.int i tk, y] } := (sb.2 _ (Nat.ne_of_gt hel)).trans hT
    have new : ObjOk X.prog X.w (upd H s.heap.objs.size (.tup [.int (i : Nat), x])) h'' s.heap.objs.size (.tup [.int (i : Nat), x]) :=
      ⟨by show 2 ≤ sizeLine; decide, [.int i tk, y], .cons ⟨_, rfl⟩ (.cons ru .nil), ⟨_, hT2, rfl, _, rfl⟩⟩
    have I1 := I.turnedNew (t' := tk + 1) (ch := [e, it]) (fun b ob hb q => (sb.2 b (fun z => hb (by simp [z]))).trans (hk b ob (fun z => hb (by simp [z])) (fun z => hb (by simp [z])) q)) hf (Nat.le_refl _) new
    refine ⟨.ref s.heap.objs.size, _, I1, rfl, ⟨_, x, rfl, I.hok.fresh (Nat.le_refl _), rfl, fun ys hy => by rw [I.tuple_inj hy hq]; exact hx⟩, ⟨⟨y, ?_⟩, hs'.1.at fun o q => (sb.2 it (Ne.symm hne)).trans q, hne, hna⟩, fun b hb => ?_⟩
    · rw [show ((i + 1 : Nat) : Int) = (i : Int) + 1 by omega]
      exact he'
    · obtain ⟨o1, e1, _⟩ := hit
      have hb' : b < s.heap.objs.size := by
        rcases List.mem_cons.mp hb with z | z
        · rw [z]; exact hel
        · rw [List.mem_singleton.mp z]; exact Heap.lt_size e1
      rw [upd_ne (Nat.ne_of_lt hb')]
      exact (hf b hb).1
  done := by
    intro X hP hw hK hc i pins s σ H E I hf st hg
    subst hP hw hK
    obtain ⟨⟨old, he⟩, hit, hne, hna⟩ := st
    obtain ⟨xs, hq, hx⟩ := hg
    obtain ⟨its, rv, p, hz⟩ := I.tuple hq
    obtain ⟨f0, f1, f2, f3, f4, f5⟩ := hf it (by simp)
    have hl := rv.length
    have D := draws_end (prog := X.prog) (w := X.w) (A := X.A.in1) (I.ok.hd hc) it a its.toArray i (by simp; omega)
    exact wpAny_pyNext_enum_endD D he ⟨hit, p⟩ fun h' eb => ⟨rfl, I.turned (t' := s.toks) (fun b o hb q => eb b o hb q) f0 f1 f3 f4 f5⟩
  self := fun A i s Q E st h => let ⟨⟨_, he⟩, _⟩ := st; wpAny_pyIter_enum he h
def iEnumA (K : PySem.W.Frag) (ta : TA) : TI := fun σ H R => ta σ H fun vs H1 => ∃ a, vs = [.ref a] ∧ (((∃ xs, SqL K H1 a xs) ∧ R (Ite K a) H1) ∨ ((∃ xs, SqT K H1 a xs) ∧ R (Itet K a) H1))
theorem pi_enumA {X : Cx} {e : Expr} {ta : TA} {p pos tpos : Pos} {elts : List Expr} {kk : Nat} (hg : Gl X "enumerate") (hm : X.mg "enumerate" = none) (ha : PA X [e] ta) (hs : starEach [e] X.env = [(false, eval e X.env)] := by rfl) :
    PI X (.Tuple elts kk tpos) (.Call (.Name "enumerate" p) [e] [] pos) (iEnumA X.K ta) := by
  refine ⟨fun pins s σ H R I h => ?_⟩
  refine Call_ (ld_blt I hg hm boot_enumerate (PyProof.Rows.callWith_type1 (thn (ha.run pos pins s σ H _ I h) fun us s1 ⟨vs, H1, I1, r1, q1⟩ => ?_) hs rfl))
  obtain ⟨a, ex, q⟩ := q1
  subst ex
  cases r1 with
  | cons r rr =>
    cases rr
    cases r
    have fin : ∀ h' : Heap, (∀ b o, s1.heap.get? b = some o → h'.get? b = some o) → ∀ b ∈ [s1.heap.objs.size + 1, s1.heap.objs.size], FpOk X pins H1 b := fun h' hk b hb => by
      have hle : s1.heap.objs.size ≤ b := by
        rcases List.mem_cons.mp hb with z | z
        · omega
        · rw [List.mem_singleton.mp z]; exact Nat.le_refl _
      exact I1.fpOk hle (I1.hok.fresh hle)
    rcases q with ⟨⟨xs, hq⟩, q⟩ | ⟨⟨xs, hq⟩, q⟩
    · obtain ⟨its, rv, p', hz⟩ := I1.list hq
      refine call_enum1 (begins_list a its.toArray) p'.isList fun h' he hit hk => wpAny_pyIter_enum he ?_
      exact ⟨s1.heap.objs.size + 1, [s1.heap.objs.size + 1, s1.heap.objs.size], _, _, H1, rfl, I1.kept (t' := s1.toks) hk, turn_enum a (s1.heap.objs.size + 1) s1.heap.objs.size, ⟨⟨.none, he⟩, ⟨_, hit, rfl, rfl⟩, Nat.succ_ne_self _⟩, fin h' hk, q⟩
    · obtain ⟨its, rv, p', hz⟩ := I1.tuple hq
      have pT : s1.heap.IsTuple a its.toArray := p'
      have hlt : a < s1.heap.objs.size := by obtain ⟨_, z, _⟩ := pT; exact Heap.lt_size z
      refine call_enum1 (begins_tuple a its.toArray) pT fun h' he hit hk => wpAny_pyIter_enum he ?_
      exact ⟨s1.heap.objs.size + 1, [s1.heap.objs.size + 1, s1.heap.objs.size], _, _, H1, rfl, I1.kept (t' := s1.toks) hk, turn_enumT a (s1.heap.objs.size + 1) s1.heap.objs.size, ⟨⟨.none, he⟩, ⟨_, hit, rfl, rfl⟩, Nat.succ_ne_self _, Nat.ne_of_gt (Nat.lt_succ_of_lt hlt)⟩, fin h' hk, q⟩
/-- for i, x in enumerate(a tuple) -/
theorem walk_enumT {K : PySem.W.Frag} {a : Addr} {xs : List V} : Walk (Itet K a) xs.length (fun H => SqT K H a xs) (YPair (fun i => some (.int (i : Nat))) (fun i => xs[i]?)) := by
  refine ⟨fun i _ hi q => ⟨xs, xs[i], q, by simp [hi]⟩, fun _ q => ⟨xs, q, Nat.le_refl _⟩, fun i H v H' _ q y => ?_⟩
  obtain ⟨T, x, h1, h2, h3, h4⟩ := y
  exact ⟨T, .int (i : Nat), x, h1, h2, h3, rfl, h4 xs q⟩
end Odd

namespace Odd
open PySem PySem.Spec PyProof.Rows L2
/-! ### loops -/
section
variable {K : PySem.W.Frag} {a T : Addr} {xs : List V} {g : TG} {tb : TS} {D : Ends} {σ : L2.St} {H : Hp} {tl : TE} {ta : TA} {i j : Nat} {x y : V} {R : L2.St → Hp → Prop}
theorem g_pair (hT : SqT K H T [x, y]) (h : R ((σ.set i (some x)).set j (some y)) H) : gTup K 2 (gCons (gName i) (gCons (gName j) gNil)) (.ref T) σ H R := ⟨T, [x, y], rfl, hT, rfl, x, [y], rfl, y, [], rfl, rfl, h⟩
theorem f_tup (Pv : Nat → L2.St → Hp → Prop) (ht : ∀ R : VK, R (.ref a) H → tl σ H R) (h0 : Pv 0 σ H) (hl : ∀ i σ H, i ≤ xs.length → Pv i σ H → SqT K H a xs)
    (hs : ∀ i x σ H, xs[i]? = some x → Pv i σ H → g x σ H fun σ2 H2 => tb { D with nx := Pv (i + 1), ct := Pv (i + 1), bk := D.nx } σ2 H2) (hd : ∀ σ H, Pv xs.length σ H → D.nx σ H) : tFor (iSeq K tl) g tb D σ H :=
  ht _ ⟨a, rfl, .inr ⟨⟨xs, hl 0 σ H (Nat.zero_le _) h0⟩, for_tup Pv h0 hl hs hd⟩⟩
theorem f_lst (Pv : Nat → L2.St → Hp → Prop) (ht : ∀ R : VK, R (.ref a) H → tl σ H R) (h0 : Pv 0 σ H) (hl : ∀ i σ H, i ≤ xs.length → Pv i σ H → SqL K H a xs)
    (hs : ∀ i x σ H, xs[i]? = some x → Pv i σ H → g x σ H fun σ2 H2 => tb { D with nx := Pv (i + 1), ct := Pv (i + 1), bk := D.nx } σ2 H2) (hd : ∀ σ H, Pv xs.length σ H → D.nx σ H) : tFor (iSeq K tl) g tb D σ H :=
  ht _ ⟨a, rfl, .inl ⟨⟨xs, hl 0 σ H (Nat.zero_le _) h0⟩, for_list Pv h0 hl hs hd⟩⟩
/-- .. the list comes with other things that are made on the way -/
theorem f_lstN (ht : tl σ H fun x H1 => ∃ a xs, x = .ref a ∧ ∃ Pv : Nat → L2.St → Hp → Prop, Pv 0 σ H1 ∧ (∀ i σ H, i ≤ xs.length → Pv i σ H → SqL K H a xs) ∧
    (∀ i x σ H, xs[i]? = some x → Pv i σ H → g x σ H fun σ2 H2 => tb { D with nx := Pv (i + 1), ct := Pv (i + 1), bk := D.nx } σ2 H2) ∧ ∀ σ H, Pv xs.length σ H → D.nx σ H) (mono : ∀ (σ : L2.St) (H : Hp) (Q Q' : VK), (∀ v H1, Q v H1 → Q' v H1) → tl σ H Q → tl σ H Q') : tFor (iSeq K tl) g tb D σ H :=
  mono _ _ _ _ (fun v H1 ⟨a, xs, ev, Pv, h0, hl, hs, hd⟩ => ⟨a, ev, .inl ⟨⟨xs, hl 0 σ H1 (Nat.zero_le _) h0⟩, for_list Pv h0 hl hs hd⟩⟩) ht
theorem w_for {wi : TI} (h : wi σ H fun J H1 => ∃ W : Nat → Nat → L2.St → Hp → Prop, (∃ m, W 0 m σ H1) ∧ ∀ i m σ H, W i m σ H →
  (J.stop i H ∧ D.nx σ H) ∨ (J.go i H ∧ ∃ N : L2.St → Hp → Prop, (∀ σ' H', N σ' H' → ∃ m', m' < m ∧ W (i + 1) m' σ' H') ∧ ∀ x H', J.yld i H x H' → g x σ H' fun σ2 H2 => tb { D with nx := N, ct := N, bk := D.nx } σ2 H2)) : tFor wi g tb D σ H := h
theorem w_isq {RR : It → Hp → Prop} (h : tl σ H fun x H1 => ∃ a, x = .ref a ∧ (((∃ xs, SqL K H1 a xs) ∧ RR (Itl K a) H1) ∨ ((∃ xs, SqT K H1 a xs) ∧ RR (Itt K a) H1))) : iSeq K tl σ H RR := h
/-- for i, x in enumerate(a tuple) -/
theorem f_enumT (Pv : Nat → L2.St → Hp → Prop) (ht : ∀ R : List V → Hp → Prop, R [.ref a] H → ta σ H R) (h0 : Pv 0 σ H) (hl : ∀ i σ H, i ≤ xs.length → Pv i σ H → SqT K H a xs)
    (hs : ∀ k x σ H T, xs[k]? = some x → Pv k σ H → H T = none → tb { D with nx := Pv (k + 1), ct := Pv (k + 1), bk := D.nx } ((σ.set i (some (.int (k : Nat)))).set j (some x)) (upd H T (.tup [.int (k : Nat), x]))) (hd : ∀ σ H, Pv xs.length σ H → D.nx σ H) :
    tFor (iEnumA K ta) (gTup K 2 (gCons (gName i) (gCons (gName j) gNil))) tb D σ H :=
  ht _ ⟨a, rfl, .inr ⟨⟨xs, hl 0 σ H (Nat.zero_le _) h0⟩, for_it walk_enumT Pv h0 hl (fun k x σ H H' hk p y => by
    obtain ⟨T, u, v, e1, e2, e3, e4, e5⟩ := y
    cases e4
    subst e1 e3
    exact g_pair (SqT.of upd_same) (hs k v σ H T e5 p e2)) hd⟩⟩
/-- for i in range(n) -/
theorem f_rng {n : Nat} (Pv : Nat → L2.St → Hp → Prop) (ht : ∀ R : List V → Hp → Prop, R [.int n] H → ta σ H R) (hn : n < 100000) (h0 : Pv 0 σ H)
    (hs : ∀ i σ H, i < n → Pv i σ H → g (.int (i : Nat)) σ H fun σ2 H2 => tb { D with nx := Pv (i + 1), ct := Pv (i + 1), bk := D.nx } σ2 H2) (hd : ∀ σ H, Pv n σ H → D.nx σ H) : tFor (iRng1 ta) g tb D σ H :=
  ht _ ⟨n, rfl, by omega, by omega, by
    rw [Int.toNat_natCast]
    exact for_range Pv h0 (fun k σ H hk p => by rw [Int.zero_add]; exact hs k σ H hk p) hd⟩
end
/-- the last item -/
theorem at_last {α : Type} (xs : List α) (h : xs ≠ []) : atI xs (-1) = some (xs.getLast h) := by
  have hl : 0 < xs.length := List.length_pos_iff.2 h
  have e : ixN xs.length (-1) = some (xs.length - 1) := by
    unfold ixN
    rw [if_neg (by omega), if_pos (by omega)]
    congr 1
    omega
  unfold atI
  rw [e]
  show xs[xs.length - 1]? = _
  rw [List.getLast_eq_getElem, List.getElem?_eq_getElem (by omega)]
theorem fnr_star2 {P : Program} {w : World} {K : PySem.W.Frag} {mg : Str → Option Value} {base : Heap} {x qual p1 p2 pv : Str} {st : Stmt} {f : Addr} {fd : FuncData} {N : List Str} {k : Nat} {sp : Sp} (F : Fun K x qual st f fd) (S : FnScope N ([p1, p2] ++ [pv]) (defScope st))
    (h0 : ∀ (kV doc pm : Value) (an : Option Addr) (cdv ct a b : Value), bindArgs (PySem.W.fnOf x qual (defArgs st) (defBody st) (defScope st) .none kV doc pm an cdv ct) ⟨[a, b], []⟩ = (newTuple [] >>= fun t => pure [(p1, a), (p2, b), (pv, t)]))
    (h1 : ∀ (kV doc pm : Value) (an : Option Addr) (cdv ct a b r : Value) (rs : List Value), bindArgs (PySem.W.fnOf x qual (defArgs st) (defBody st) (defScope st) .none kV doc pm an cdv ct) ⟨a :: b :: r :: rs, []⟩ = (newTuple (r :: rs) >>= fun t => pure [(p1, a), (p2, b), (pv, t)]))
    (hbody : ∀ (cdv : Value) (A : Around) (outer : List Env) (s : Shared) (H : Hp) (vs : List V) (Q : VK) (E : XK), Room k (A.deeper (envOfC qual (defScope st) s.heap.objs.size f cdv)) → sp vs H Q E →
      ∃ t, PSs (cxOf (L2.CX P w) P w K mg base N qual (defScope st) f cdv A outer s H E) (defBody st) t ∧ t { nx := fun _ H' => Q .non H', rt := Q } (start N vs) H) :
    FnR P w K mg base (L2.CX P w) (k + 1) f (fun vs H Q E => ∃ ws rest, vs = ws ++ rest ∧ ws.length = [p1, p2].length ∧ rest.length ≤ sizeLine ∧ ∀ p, H p = Option.none → sp (ws ++ [V.ref p]) (upd H p (.tup rest)) Q E) :=
  fnr_star F S (fun kV doc pm an cdv ct us rest hl => StX.bind_star2 (B := fun l => bindArgs (PySem.W.fnOf x qual (defArgs st) (defBody st) (defScope st) .none kV doc pm an cdv ct) ⟨l, []⟩) (h0 kV doc pm an cdv ct) (h1 kV doc pm an cdv ct) us rest hl) hbody
section
variable {X0 : Cx} {E : XK} {H : Hp} {Q : VK} {l b : Addr} {xs zs : List V}
theorem s_cat (h : H l = some (.lst xs)) (h' : H b = some (.lst zs)) (hz : xs.length + zs.length ≤ sizeLine) (q : ∀ p, H p = none → Q (.ref p) (upd H p (.lst (xs ++ zs)))) : ∃ r, OpD X0 E (binaryOp .Add) r ∧ r (.ref l) (.ref b) H Q :=
  ⟨rCat, fun _ _ _ => op_cat, l, b, xs, zs, rfl, rfl, h, h', hz, q⟩
theorem s_rep {k : Int} (h : H l = some (.lst xs)) (h0 : -(2 ^ 63) ≤ k) (h1 : k < 2 ^ 63) (hz : xs.length * k.toNat ≤ sizeLine) (q : ∀ p, H p = none → Q (.ref p) (upd H p (.lst (List.replicate k.toNat xs).flatten))) : ∃ r, OpD X0 E (binaryOp .Mult) r ∧ r (.ref l) (.int k) H Q :=
  ⟨rRep, fun _ _ _ => op_rep, l, k, xs, rfl, rfl, h, h0, h1, hz, q⟩
theorem s_catT (h : SqT X0.K H l xs) (h' : SqT X0.K H b zs) (hz : xs.length + zs.length ≤ sizeLine) (q1 : xs = [] → Q (.ref b) H) (q2 : xs ≠ [] → zs = [] → Q (.ref l) H) (q3 : xs ≠ [] → zs ≠ [] → ∀ p, H p = none → Q (.ref p) (upd H p (.tup (xs ++ zs)))) : ∃ r, OpD X0 E (binaryOp .Add) r ∧ r (.ref l) (.ref b) H Q :=
  ⟨rCatA X0.K, fun X l _ => by rw [← l.K]; exact op_catA, l, b, xs, zs, rfl, rfl, h, h', hz, q1, q2, q3⟩
end
theorem flat1 {α : Type} (x : α) : ∀ n : Nat, (List.replicate n [x]).flatten = List.replicate n x
  | 0 => rfl
  | n + 1 => by rw [List.replicate_succ, List.flatten_cons, flat1 x n]; rfl
theorem pa_starA {X0 X : Cx} {e : Expr} {es : List Expr} {te : TE} {t : TA} {p : Pos} (l : Like X0 X) (he : PE X e te) (hr : PA X es t) (hs : starEach (.Starred e p :: es) X.env = (true, eval e X.env) :: starEach es X.env := by rfl) : PA X (.Starred e p :: es) (StX.tStar X0.K te t) := by
  rw [← l.K]
  exact StX.pa_star he hr hs
theorem w_star {K : PySem.W.Frag} {te : TE} {t : TA} {σ : L2.St} {H : Hp} {Q : List V → Hp → Prop} (h : StX.tStar K te t σ H Q) : StX.tStar K te t σ H Q := h
end Odd

namespace Odd
open PySem PySem.Spec PyProof.Rows L2
/-! ### comprehensions whose items are not known beforehand, and which change what stands at S -/
/-- one turn, from H1 with the items o -/
def TurnI (S : Addr → Prop) (Pv : Nat → List V → Hp → Prop) (i : Nat) (tt : TT) (te : TE) (σ2 : L2.St) (H1 : Hp) (o : List V) : Prop :=
  ∀ (K1 : VK) (K0 : Hp → Prop), (∀ y H4, SameB S H1 H4 → Pv (i + 1) (o ++ [y]) H4 → K1 y H4) → (∀ H3, SameB S H1 H3 → Pv (i + 1) o H3 → K0 H3) → tt σ2 H1 fun b H3 => if b = true then te σ2 H3 K1 else K0 H3
theorem turnI_map {S : Addr → Prop} {Pv : Nat → List V → Hp → Prop} {i : Nat} {te : TE} {σ2 : L2.St} {H1 : Hp} {o : List V} (h : ∀ R : VK, (∀ y H4, SameB S H1 H4 → Pv (i + 1) (o ++ [y]) H4 → R y H4) → te σ2 H1 R) : TurnI S Pv i tYes te σ2 H1 o := fun K1 K0 k1 _ => by
  show (if true = true then te σ2 H1 K1 else K0 H1)
  rw [if_pos rfl]
  exact h K1 k1
section
variable {K : PySem.W.Frag} {J : It} {n : Nat} {G : Hp → Prop} {Y : Nat → Hp → V → Hp → Prop} {g : TG} {tt : TT} {te : TE} {vs : List Nat} {σ : L2.St} {H : Hp} {Q : VK}
theorem SameB.upd {S : Addr → Prop} {H H' : Hp} {D : Addr} {u : HO} (s : SameB S H H') (h : H D = none) : SameB S H (upd H' D u) := fun b o nb e => by rw [upd_ne (ne_of_none e h)]; exact s b o nb e
theorem c_walkI (S : Addr → Prop) (Pv : Nat → List V → Hp → Prop) (w : Walk J n G Y) (hS : ∀ b, S b → H b ≠ none) (h0 : ∀ D, H D = none → Pv 0 [] (upd H D (.lst []))) (hz : ∀ i o H', i < n → Pv i o H' → o.length < 100000) (hG : ∀ H', SameB S H H' → G H')
    (hD : ∀ i o H' D l l', H D = none → H' D = some (.lst l) → Pv i o H' → Pv i o (upd H' D (.lst l')))
    (turn : ∀ i x H1 H' o, i < n → SameB S H H1 → Pv i o H1 → Y i H1 x H' → ∀ R : L2.St → Hp → Prop, (∀ σ2, wipe σ2 vs = wipe σ vs → SameB S H1 H' → TurnI S Pv i tt te σ2 H' o → R σ2 H') → g x (wipe σ vs) H' R)
    (q : ∀ p o H', H p = none → SameB S H H' → Pv n o H' → H' p = some (.lst o) → Q (.ref p) H') :
    ∀ D, H D = none → ∃ W : Nat → Nat → Hp → Prop, (∃ m, W 0 m (upd H D (.lst []))) ∧ ∀ i m H, W i m H →
      (J.stop i H ∧ Q (.ref D) H) ∨ (J.go i H ∧ ∃ Nx : Hp → Prop, (∀ H', Nx H' → ∃ m', m' < m ∧ W (i + 1) m' H') ∧ ∀ x H', J.yld i H x H' → g x (wipe σ vs) H' fun σ2 H2 => wipe σ2 vs = wipe σ vs ∧ tt σ2 H2 fun b H3 =>
        if b = true then te σ2 H3 fun y H4 => ∃ acc, H4 D = some (.lst acc) ∧ acc.length < sizeLine ∧ Nx (upd H4 D (.lst (acc ++ [y]))) else Nx H3) := fun D hDn => by
  have nS : ¬ S D := fun z => hS D z hDn
  refine lc_it w (Qd := fun H' => Q (.ref D) H') (fun i H' => ∃ o, SameB S H H' ∧ H' D = some (.lst o) ∧ Pv i o H') ⟨[], (SameB.refl H).upd hDn, upd_same, h0 D hDn⟩ (fun i H' _ p => hG H' p.choose_spec.1) (fun i x H1 H' hi p y => ?_) fun H' p => ?_
  · obtain ⟨o, s1, d1, p1⟩ := p
    refine turn i x H1 H' o hi s1 p1 y _ fun σ2 ew s2 t => ⟨ew, ?_⟩
    have d2 : H' D = some (.lst o) := s2 _ _ nS d1
    exact t _ _ (fun y H4 s4 p4 => ⟨o, s4 _ _ nS d2, Nat.lt_of_lt_of_le (hz i o H1 hi p1) (by decide), o ++ [y], ((s1.trans s2).trans s4).upd hDn, upd_same, hD _ _ _ _ _ _ hDn (s4 _ _ nS d2) p4⟩)
      fun H3 s3 p3 => ⟨o, (s1.trans s2).trans s3, s3 _ _ nS d2, p3⟩
  · obtain ⟨o, s1, d1, p1⟩ := p
    exact q D o H' hDn s1 p1 d1
variable {a b : Addr} {xs ys : List V} {j : Nat}
/-- over a tuple, a list: the target a name -/
theorem c_tupI (S : Addr → Prop) (Pv : Nat → List V → Hp → Prop) (hS : ∀ b, S b → H b ≠ none) (h0 : ∀ D, H D = none → Pv 0 [] (upd H D (.lst []))) (hz : ∀ i o H', i < xs.length → Pv i o H' → o.length < 100000) (hx : ∀ H', SameB S H H' → SqT K H' a xs)
    (hD : ∀ i o H' D l l', H D = none → H' D = some (.lst l) → Pv i o H' → Pv i o (upd H' D (.lst l'))) (hw : ∀ x, wipe ((wipe σ vs).set j (some x)) vs = wipe σ vs)
    (turn : ∀ i x H' o, xs[i]? = some x → SameB S H H' → Pv i o H' → TurnI S Pv i tt te ((wipe σ vs).set j (some x)) H' o)
    (q : ∀ p o H', H p = none → SameB S H H' → Pv xs.length o H' → H' p = some (.lst o) → Q (.ref p) H')
    {tl : TE} (ht : ∀ R : VK, R (.ref a) H → tl σ H R) : tLc (iSeq K tl) (gName j) tt te vs σ H Q :=
  ht _ ⟨a, rfl, .inr ⟨⟨xs, hx H (SameB.refl H)⟩, c_walkI S Pv walk_tupS hS h0 hz hx hD (fun i x H1 H' o hi s p y R k => by
    obtain ⟨e1, e2⟩ := y
    subst e1
    exact k _ (hw x) (SameB.refl _) (turn i x _ o e2 s p)) q⟩⟩
theorem c_listI (S : Addr → Prop) (Pv : Nat → List V → Hp → Prop) (hS : ∀ b, S b → H b ≠ none) (h0 : ∀ D, H D = none → Pv 0 [] (upd H D (.lst []))) (hz : ∀ i o H', i < xs.length → Pv i o H' → o.length < 100000) (hx : ∀ H', SameB S H H' → SqL K H' a xs)
    (hD : ∀ i o H' D l l', H D = none → H' D = some (.lst l) → Pv i o H' → Pv i o (upd H' D (.lst l'))) (hw : ∀ x, wipe ((wipe σ vs).set j (some x)) vs = wipe σ vs)
    (turn : ∀ i x H' o, xs[i]? = some x → SameB S H H' → Pv i o H' → TurnI S Pv i tt te ((wipe σ vs).set j (some x)) H' o)
    (q : ∀ p o H', H p = none → SameB S H H' → Pv xs.length o H' → H' p = some (.lst o) → Q (.ref p) H')
    {tl : TE} (ht : ∀ R : VK, R (.ref a) H → tl σ H R) : tLc (iSeq K tl) (gName j) tt te vs σ H Q :=
  ht _ ⟨a, rfl, .inl ⟨⟨xs, hx H (SameB.refl H)⟩, c_walkI S Pv walk_listS hS h0 hz hx hD (fun i x H1 H' o hi s p y R k => by
    obtain ⟨e1, e2⟩ := y
    subst e1
    exact k _ (hw x) (SameB.refl _) (turn i x _ o e2 s p)) q⟩⟩
/-- over range(n) -/
theorem c_rngI {ta : TA} {n : Nat} (S : Addr → Prop) (Pv : Nat → List V → Hp → Prop) (hn : n < 100000) (hS : ∀ b, S b → H b ≠ none) (h0 : ∀ D, H D = none → Pv 0 [] (upd H D (.lst []))) (hz : ∀ i o H', i < n → Pv i o H' → o.length < 100000)
    (hD : ∀ i o H' D l l', H D = none → H' D = some (.lst l) → Pv i o H' → Pv i o (upd H' D (.lst l'))) (hw : ∀ x, wipe ((wipe σ vs).set j (some x)) vs = wipe σ vs)
    (turn : ∀ (i : Nat) H' o, i < n → SameB S H H' → Pv i o H' → TurnI S Pv i tt te ((wipe σ vs).set j (some (.int i))) H' o)
    (q : ∀ p o H', H p = none → SameB S H H' → Pv n o H' → H' p = some (.lst o) → Q (.ref p) H')
    (ht : ∀ R : List V → Hp → Prop, R [.int n] H → ta σ H R) : tLc (iRng1 ta) (gName j) tt te vs σ H Q :=
  ht _ ⟨n, rfl, by omega, by omega, by
    rw [Int.toNat_natCast]
    exact c_walkI S Pv (Y := YFn fun i => .int (0 + (i : Int))) (G := fun _ => True) ⟨fun i _ hi _ => hi, fun _ _ => Nat.le_refl _, fun i H x H' _ _ y => y⟩ hS h0 hz (fun _ _ => True.intro) hD (fun i x H1 H' o hi s p y R k => by
      obtain ⟨e1, e2⟩ := y
      subst e1 e2
      refine k _ (hw _) (SameB.refl _) ?_
      show TurnI S Pv i tt te ((wipe σ vs).set j (some (.int ((0 : Int) + (i : Int))))) H' o
      rw [Int.zero_add]
      exact turn i _ o hi s p) q⟩
end
theorem pi_seqA {X0 X : Cx} {tg e : Expr} {te : TE} (l : Like X0 X) (he : PE X e te) : PI X tg e (iSeq X0.K te) := by
  rw [← l.K]
  exact pi_seq he
section
variable {X0 : Cx} {E : XK} {H : Hp} {Q : VK} {l : Addr}
theorem inV_int (z : Int) : ∀ ss : List Int, inV (.int z) (ss.map V.int) = decide (z ∈ ss)
  | [] => rfl
  | s :: ss => by
    have ih := inV_int z ss
    unfold inV at ih ⊢
    rw [List.map_cons, List.any_cons, ih]
    show ((s == z) || decide (z ∈ ss)) = decide (z ∈ s :: ss)
    by_cases h : z ∈ s :: ss
    · rw [decide_eq_true h]
      rcases List.mem_cons.1 h with e | e
      · rw [e, beq_self_eq_true, Bool.true_or]
      · rw [decide_eq_true e, Bool.or_true]
    · rw [decide_eq_false h, decide_eq_false (fun e => h (List.mem_cons_of_mem _ e)), Bool.or_false]
      exact beq_eq_false_iff_ne.2 fun e => h (by rw [e]; exact List.mem_cons_self ..)
theorem s_in {z : Int} {ss : List Int} (h : SqL X0.K H l (ss.map V.int) ∨ SqT X0.K H l (ss.map V.int)) (q : Q (.bl (decide (z ∈ ss))) H) : ∃ r, OpD X0 E (compareOp .In) r ∧ r (.int z) (.ref l) H Q :=
  ⟨rIn X0.K false, fun X li _ => by rw [← li.K]; exact op_in_seq, l, _, rfl, h, rfl, by rw [List.all_map, List.all_eq_true]; exact fun _ _ => rfl, by
    show Q (.bl (inV (.int z) (ss.map V.int))) H
    rw [inV_int]
    exact q⟩
theorem w_par {i j : Nat} {ta : TA} {D : Ends} {σ : L2.St} (h : ta σ H fun vs H1 => ∃ v w, vs = [v, w] ∧ D.nx ((σ.set i (some v)).set j (some w)) H1) : tPar i j ta D σ H := h
end
section
theorem w_coA {X0 : Cx} {E : XK} {tf : TE} {t : TA} {σ : L2.St} {H : Hp} {Q : VK} (h : tf σ H fun y H1 => ∃ a, y = V.ref a ∧ t σ H1 fun vs H2 => (∃ C dx fs, H2 a = some (.ins C dx fs)) ∧ ∃ r, CaD X0 E (.ref a) r ∧ r vs H2 Q) : tCoA X0 E tf t σ H Q := h
theorem w_cmA {X0 : Cx} {E : XK} {m : Str} {ta : TE} {t : TA} {σ : L2.St} {H : Hp} {Q : VK} (h : ta σ H fun x H1 => ∃ C mc p g k sp, x = .ref C ∧ ClX.CRead X0.K C mc ∧ ClX.CMet X0.K C mc m p g ∧ Fn X0 k g sp ∧ Room k X0.A ∧ t σ H1 fun vs H2 => sp (.ref C :: vs) H2 Q E) : tCmA X0 E m ta t σ H Q := h
end
/-! ### round the table -/
def up (lo : Int) : Nat → List Int
  | 0 => []
  | k + 1 => lo :: up (lo + 1) k
theorem up_snoc : ∀ (k : Nat) (lo : Int), up lo (k + 1) = up lo k ++ [lo + (k : Int)]
  | 0, lo => by show [lo] = [lo + ((0 : Nat) : Int)]; rw [show lo + ((0 : Nat) : Int) = lo by omega]
  | k + 1, lo => by
    show lo :: up (lo + 1) (k + 1) = lo :: (up (lo + 1) k ++ [lo + ((k + 1 : Nat) : Int)])
    rw [up_snoc k (lo + 1), show lo + 1 + (k : Int) = lo + ((k + 1 : Nat) : Int) by omega]
theorem up_mem : ∀ {k : Nat} {lo x : Int}, x ∈ up lo k → lo ≤ x ∧ x < lo + (k : Int)
  | 0, _, _, h => by simp [up] at h
  | k + 1, lo, x, h => by
    rcases List.mem_cons.1 h with e | e
    · rw [e]; omega
    · have := up_mem e
      omega
/-- the place after j steps from m -/
def pl (n : Nat) (m : Int) (j : Nat) : Int := if m + (j : Int) < (n : Int) then m + (j : Int) else m + (j : Int) - (n : Int)
theorem pl_next {n : Nat} {m : Int} {j : Nat} (h0 : 0 ≤ m) (h1 : m < (n : Int)) (hj : j < n) : (pl n m j + 1) % (n : Int) = pl n m (j + 1) := by
  unfold pl
  by_cases a : m + (j : Int) < (n : Int)
  · rw [if_pos a]
    by_cases b : m + ((j + 1 : Nat) : Int) < (n : Int)
    · rw [if_pos b, Int.emod_eq_of_lt (by omega) (by omega)]
      omega
    · rw [if_neg b, show m + (j : Int) + 1 = (n : Int) by omega, Int.emod_self]
      omega
  · rw [if_neg a, if_neg (by omega), Int.emod_eq_of_lt (by omega) (by omega)]
    omega
theorem pl_range {n : Nat} {m : Int} {j : Nat} (h0 : 0 ≤ m) (h1 : m < (n : Int)) (hj : j ≤ n) : 0 ≤ pl n m j ∧ pl n m j < (n : Int) := by
  unfold pl
  split <;> omega
/-- the places of the first j steps -/
def pls (n : Nat) (m : Int) : Nat → List Int
  | 0 => []
  | j + 1 => pls n m j ++ [pl n m (j + 1)]
theorem pls_low {n : Nat} {m : Int} : ∀ {j : Nat}, m + (j : Int) < (n : Int) → pls n m j = up (m + 1) j
  | 0, _ => rfl
  | j + 1, h => by
    rw [up_snoc]
    show pls n m j ++ [pl n m (j + 1)] = _
    rw [pls_low (by omega)]
    unfold pl
    rw [if_pos h, show m + ((j + 1 : Nat) : Int) = m + 1 + (j : Int) by omega]
theorem pls_high {n : Nat} {m : Int} {k : Nat} (hk : m + (k : Int) + 1 = (n : Int)) : ∀ i : Nat, (i : Int) ≤ m + 1 → pls n m (k + i) = up (m + 1) k ++ up 0 i
  | 0, _ => by rw [Nat.add_zero, pls_low (by omega)]; show _ = _ ++ []; rw [List.append_nil]
  | i + 1, h => by
    show pls n m (k + i) ++ [pl n m (k + i + 1)] = _
    rw [pls_high hk i (by omega), up_snoc, List.append_assoc]
    unfold pl
    rw [if_neg (by omega), show m + ((k + i + 1 : Nat) : Int) - (n : Int) = 0 + (i : Int) by omega]
theorem pls_all {n : Nat} {m : Int} (h0 : 0 ≤ m) (h1 : m < (n : Int)) : pls n m n = up (m + 1) (n - 1 - m.toNat) ++ up 0 (m.toNat + 1) := by
  have h := pls_high (n := n) (m := m) (k := n - 1 - m.toNat) (by omega) (m.toNat + 1) (by omega)
  rw [show n - 1 - m.toNat + (m.toNat + 1) = n by omega] at h
  exact h
/-- who is there of the places -/
def hits (n : Nat) (m : Int) (ss : List Int) (j : Nat) : List Int := (pls n m j).filter fun p => decide (p ∈ ss)
theorem hits_next (n : Nat) (m : Int) (ss : List Int) (j : Nat) : hits n m ss (j + 1) = if pl n m (j + 1) ∈ ss then hits n m ss j ++ [pl n m (j + 1)] else hits n m ss j := by
  unfold hits
  show (pls n m j ++ [pl n m (j + 1)]).filter _ = _
  rw [List.filter_append]
  by_cases h : pl n m (j + 1) ∈ ss
  · rw [if_pos h]; simp [List.filter_cons, h]
  · rw [if_neg h]; simp [List.filter_cons, h]
theorem hits_pre (n : Nat) (m : Int) (ss : List Int) (j : Nat) : ∀ i, ∃ r, hits n m ss (j + i) = hits n m ss j ++ r
  | 0 => ⟨[], by rw [List.append_nil]; rfl⟩
  | i + 1 => by
    obtain ⟨r, hr⟩ := hits_pre n m ss j i
    rw [show j + (i + 1) = j + i + 1 from rfl, hits_next, hr]
    split
    · exact ⟨_, List.append_assoc ..⟩
    · exact ⟨r, rfl⟩
end Odd

namespace Odd
open PySem PySem.Spec PyProof.Rows L2
/-! ### x != y by the own == (what the root class's own word does) -/
theorem ne_bind (self : Value) : bindSpecial (.builtin "object.__ne__") self = pure (.builtin "object.__ne__", [self]) :=
  (Slot.of (T := "object") (name := "__ne__") (owner := "object") (n := "__ne__") (by rw [typeLookup_type, builtinLookup_eq_fast]; kernel_rfl) (by decide +kernel) (by decide +kernel) (by decide +kernel)
    (.inl (by decide +kernel)) (by rw [isSubtype_type]; kernel_rfl)).bind self
section
variable {X : Cx} {CX : CXT} {C g : Addr} {n : Nat} {sp : Sp} {E : XK}
theorem own_ne {prog : Program} {w : World} {A : Around} {K : PySem.W.Frag} {x : Addr} {ox : Obj} {od : Option Obj} {y : Value} {Ev : Value → Shared → Prop} {s : Shared} {Q : Option Value → Shared → Prop} (KX : K.In s.heap) (J : PySem.W.InstAt s.heap x ox C od)
    (ne : PySem.W.findIn K (.ref C) "__ne__" = some (some (.builtin "object.__ne__"))) (ob : PySem.W.subIn K (.ref C) (.type "object") = some true) (hs : PySem.W.findIn K (.ref C) "__eq__" = some (some (.ref g))) (hf : PySem.W.isFn K (.ref g) = true) (hu : A.in1.units < cLine)
    (hcall : wpAny (model prog w) A.in1 (call (.ref g) [.ref x, y]) (fun v s' => ∃ b, v = .bool b ∧ Q (some (.bool (!b))) s') Ev s) :
    wpAny (model prog w) A (callSpecialIfBound? (.ref x) "__ne__" [y]) Q Ev s := by
  have body : wpAny (model prog w) A (call (.builtin "object.__ne__") [.ref x, y]) (fun v => Q (some v)) Ev s := by
    have ha := F.cmpArgs_ne (.ref x) y
    refine wpAny_call (codeAny_call_builtin (by decide +kernel) F.cmpEntry_ne ?_)
    simp only [checkBuiltinCall, F.cmpKind_ne, F.cmpSplit_ne]
    refine wpAny_bind ?_
    unfold isInstance
    refine wpAny_bind (J.type.here ((PySem.W.looks_subIn KX ob).here ?_))
    repeat (first
      | with_reducible refine wpAny_cRoomFor hu ?_
      | with_reducible refine wpAny_bind (wpAny_cRoomFor hu ?_)
      | (refine wpAny_bind (m := callSpecialIfBound? (.ref x) (Str.ofString "__eq__") [y]) (PySem.W.ifBound_K KX J hs hf (wpAny_mono hcall (fun v s' hv => by
          obtain ⟨b, rfl, hq⟩ := hv
          repeat (first | exact hq | exact wpAny_pure hq | exact wpAny_truthy_bool hq | (refine wpAny_bind (m := truthy (.bool _)) (wpAny_truthy_bool ?_)) | wp_step)) fun _ _ e => e)))
      | wp_step)
  simp only [callSpecialIfBound?, bindSpecialIfBound?]
  refine wpAny_holding (wpAny_bind (wpAny_bind (wpAny_bind (J.type.here ((PySem.W.looks_findIn KX ne).here ?_)))))
  have back : wpAny (model prog w) A (call (.builtin "object.__ne__") ([.ref x] ++ [y]) >>= fun v => pure (some v)) Q Ev s := wpAny_bind (wpAny_mono body (fun v s' h' => wpAny_pure h') fun _ _ h' => h')
  simp only [ne_bind]
  refine wpAny_bind (wpAny_askSetting (wpAny_ite ?_))
  split
  · exact wpAny_bind (wpAny_pure (wpAny_pure back))
  · exact wpAny_tryCatch (wpAny_bind (wpAny_pure (wpAny_pure back)))
/-- x != y -/
def rNeI (K : PySem.W.Frag) (C : Addr) (sp : Sp) (E : XK) : R2 := fun x y H Q => ∃ a b dx fs t, x = .ref a ∧ y = .ref b ∧ H a = some (.ins C dx fs) ∧ TyX K H y t ∧ PySem.W.notFirst K C t = true ∧ sp [x, y] H (fun z H' => ∃ k, z = .bl k ∧ Q (.bl (!k)) H') E
theorem op_neI (ne : PySem.W.findIn X.K (.ref C) "__ne__" = some (some (.builtin "object.__ne__"))) (ob : PySem.W.subIn X.K (.ref C) (.type "object") = some true) (hs : PySem.W.findIn X.K (.ref C) "__eq__" = some (some (.ref g))) (hf : PySem.W.isFn X.K (.ref g) = true)
    (F : FnR X.prog X.w X.K X.mg X.base CX n g sp) (hr : Room (n + 1) X.A) (hx : Passes CX X E) : OpR X (compareOp .NotEq) (rNeI X.K C sp E) := by
  intro pins s σ H x y v u Q I rx ry h
  obtain ⟨a, b, dx, fs, t, rfl, rfl, ha, ty, hn, q⟩ := h
  cases (show v = Value.ref a from rx)
  cases (show u = Value.ref b from ry)
  obtain ⟨ox, od, J⟩ := inst_at I ha
  obtain ⟨PP, Z, hz, _⟩ := kit_of I ry ty
  have one : wpAny (model X.prog X.w) X.A (tryCompare (.ref a) "__ne__" (.ref b)) (fun r s' => ∃ v, r = some v ∧ EP X pins σ Q v s') X.xe s := by
    unfold tryCompare
    refine wpAny_bind (own_ne I.kIn J ne ob hs hf hr.in1.units0 (wpAny_mono (call_in1 (vs := [.ref a, .ref b]) F hr hx I (.cons rfl (.cons ry .nil)) q) (fun w s' z => ?_) fun _ _ x => x))
    obtain ⟨z', H', I', rz, k, rfl, qz⟩ := z
    cases rz
    exact ⟨k, rfl, wpAny_pure ⟨_, rfl, .bl (!k), H', I', rfl, qz⟩⟩
  show wpAny _ _ (richCompare .NotEq (.ref a) (.ref b)) _ _ s
  unfold richCompare
  simp only [oneThing_ref]
  refine wpAny_holding (wpAny_bind (wpAny_cRoomFor hr.units0 ?_))
  refine wpAny_bind (J.type.here (wpAny_bind ((Z.ty _ _ I.kIn hz).here ?_)))
  split
  · rename_i qq
    have e : PySem.W.subIn X.K t (.ref C) = some false := by
      rcases Bool.or_eq_true_iff.mp hn with e | e
      · rw [beq_iff_eq.mp e] at qq; simp at qq
      · exact beq_iff_eq.mp e
    refine wpAny_bind ((PySem.W.looks_subIn I.kIn e).here ?_)
    simp only [Bool.false_eq_true, if_false]
    refine wpAny_bind (wpAny_mono one (fun r s' z => ?_) fun _ _ e => e)
    obtain ⟨v, rfl, hq⟩ := z
    exact wpAny_pure hq
  · refine wpAny_bind (wpAny_pure ?_)
    simp only [Bool.false_eq_true, if_false]
    refine wpAny_bind (wpAny_mono one (fun r s' z => ?_) fun _ _ e => e)
    obtain ⟨v, rfl, hq⟩ := z
    exact wpAny_pure hq
end
theorem s_neOwn {X0 : Cx} {E : XK} {H : Hp} {Q : VK} {k : Nat} {C g a b dx : Addr} {fs : List (Str × V)} {sp : Sp} {t : Value} (N : OwnNe X0.K C) (ob : PySem.W.subIn X0.K (.ref C) (.type "object") = some true) (M : Meth X0.K C "__eq__" g) (F : Fn X0 k g sp) (hr : Room (k + 1) X0.A) (ha : H a = some (.ins C dx fs)) (ty : TyX X0.K H (.ref b) t) (hn : PySem.W.notFirst X0.K C t = true)
    (q : sp [.ref a, .ref b] H (fun z H' => ∃ k, z = .bl k ∧ Q (.bl (!k)) H') E) : ∃ r, OpD X0 E (compareOp .NotEq) r ∧ r (.ref a) (.ref b) H Q :=
  ⟨rNeI X0.K C sp E, fun X l h => by rw [← l.K]; exact op_neI (by rw [l.K]; exact N.ne) (by rw [l.K]; exact ob) (by rw [l.K]; exact M.at_) (by rw [l.K]; exact M.fn) (l.fn F) (l.room hr) h, a, b, dx, fs, t, rfl, rfl, ha, ty, hn, q⟩
theorem w_cb {r : List V → Hp → VK → Prop} {t : TA} {σ : L2.St} {H : Hp} {Q : VK} (h : t σ H fun vs H1 => r vs H1 Q) : tCB r t σ H Q := h
theorem w_augI {X0 : Cx} {E : XK} {i : Nat} {f : Value → Value → Sem Value} {te : TE} {D : Ends} {σ : L2.St} {H : Hp} {v : V} (hs : σ[i]? = some (some v)) (h : te σ H fun y H1 => ∃ r, OpD X0 E f r ∧ r v y H1 fun z H2 => D.nx (σ.set i (some z)) H2) : tAugA X0 E i f te D σ H := ⟨v, hs, h⟩
end Odd

namespace Odd
open PySem PySem.Spec PyProof.Rows L2
/-! ### e[::s] where s comes to -1 -/
section
variable {X0 X : Cx} {e se : Expr} {te ts : TE} {p3 pos : Pos}
def tRevA (K : PySem.W.Frag) (te ts : TE) : TE := fun σ H Q => te σ H fun x H1 => ∃ a xs, x = .ref a ∧ SqL K H1 a xs ∧ ts σ H1 fun y H2 => ∃ i, y = .int i ∧ some i = some (-1 : Int) ∧ H2 = H1 ∧ ∀ p, H1 p = none → Q (.ref p) (upd H1 p (.lst xs.reverse))
theorem pe_revA (l : Like X0 X) (he : PE X e te) (hse : PE X se ts) : PE X (.Subscript e (.Slice none none (some se) p3) pos) (tRevA X0.K te ts) := by
  refine ⟨fun pins s σ H Q I h => ?_⟩
  refine Subscript_ (thn (he.run pins s σ H _ I h) fun v s1 ⟨x, H1, I1, r1, q1⟩ => ?_)
  obtain ⟨a, xs, ex, hx, q⟩ := q1
  subst ex
  cases r1
  rw [← l.K] at hx
  have hst : PO X (some se) (tPart ts) := po_some hse
  refine wpAny_Slice (thn (po_none.run pins s1 σ H1 (fun o H2 => o = none ∧ H2 = H1) I1 ⟨rfl, rfl⟩) fun vl s2 ⟨l, H2, I2, pl, el, e2⟩ => ?_)
  subst el e2
  refine thn (po_none.run pins s2 σ H2 (fun o H3 => o = none ∧ H3 = H2) I2 ⟨rfl, rfl⟩) fun vu s3 ⟨u, H3, I3, pu, eu, e3⟩ => ?_
  subst eu e3
  refine thn (hst.run pins s3 σ H3 (fun o H4 => o = some (-1) ∧ H4 = H3 ∧ ∀ p, H3 p = none → Q (.ref p) (upd H3 p (.lst xs.reverse))) I3 q) fun vs s4 ⟨o, H4, I4, ps, eo, e4, q⟩ => ?_
  subst eo e4
  have I5 : Inv X pins σ H4 { s4 with heap := s4.heap.push { cls := .type "slice", data := .fields #[vl, vu, vs] } } := I4.kept (t' := s4.toks) fun b ob q => Heap.get?_push_of_some _ q
  obtain ⟨its, r, ht, hz⟩ := I5.list hx
  have hlen := r.length
  show wpAny (model X.prog X.w) X.A (subscriptTail e (.Slice none none (some se) p3) (.ref a) (.ref s4.heap.objs.size)) (EP X pins σ Q) X.xe { s4 with heap := s4.heap.push { cls := .type "slice", data := .fields #[vl, vu, vs] } }
  refine tail_any (ops := [.ref a, .ref s4.heap.objs.size]) ht.isList.typeIs (PySem.slot_list_getitem.lookup) ?_ (by with_unfolding_all rfl)
  refine wpAny_getItem_list_slice ht.isList (Heap.IsSliceOf.new _ vl vu vs) pl pu ps (by decide) ?_ (by rw [List.size_toArray]; omega)
  rw [PySem.W.krv_pick]
  refine ⟨.ref _, _, I5.laid (t' := s4.toks) (o := .lst xs.reverse) (fun b ob q => Heap.get?_push_of_some _ q) (Nat.le_refl _) ?_, rfl, q _ (I5.hok.fresh (Nat.le_refl _))⟩
  exact ⟨by rw [List.length_reverse]; exact hz, _, 0, r.reverse, Heap.get?_push_size _ rfl⟩
theorem w_rev {K : PySem.W.Frag} {σ : L2.St} {H : Hp} {Q : VK} (h : te σ H fun x H1 => ∃ a xs, x = .ref a ∧ SqL K H1 a xs ∧ ts σ H1 fun y H2 => ∃ i, y = .int i ∧ some i = some (-1 : Int) ∧ H2 = H1 ∧ ∀ p, H1 p = none → Q (.ref p) (upd H1 p (.lst xs.reverse))) : tRevA K te ts σ H Q := h
theorem w_par3 {i j l : Nat} {ta : TA} {D : Ends} {σ : L2.St} {H : Hp} (h : ta σ H fun vs H1 => ∃ u v w, vs = [u, v, w] ∧ D.nx (((σ.set i (some u)).set j (some v)).set l (some w)) H1) : tPar3 i j l ta D σ H := h
end
end Odd

namespace Odd
open PySem PySem.Spec PyProof.Rows L2 LamX NdefX
/-! ### a base that also holds what is not tracked now: the maker's cells -/
section
def subB (s : Shared) (H : Hp) (l : List Addr) : Heap := PySem.W.hideAll (hidT s.heap H) l
theorem subB_of {s : Shared} {H : Hp} {l : List Addr} {b : Addr} {o : Obj} (e : (subB s H l).get? b = some o) : s.heap.get? b = some o ∧ H b = none ∧ b ∉ l :=
  ⟨(of_hidT (PySem.W.of_hideAll l e)).1, (of_hidT (PySem.W.of_hideAll l e)).2, fun z => by
    have q : (subB s H l).get? b = none := PySem.W.hideAll_none l z
    rw [q] at e
    cases e⟩
theorem subB_get {s : Shared} {H : Hp} {l : List Addr} {b : Addr} {o : Obj} (e : s.heap.get? b = some o) (n : H b = none) (hl : b ∉ l) : (subB s H l).get? b = some o := PySem.W.hideAll_get l (hidT_get e n) hl
theorem subB_none {s : Shared} {H : Hp} {l : List Addr} {b : Addr} (hl : b ∈ l) : (subB s H l).get? b = none := PySem.W.hideAll_none l hl
theorem subB_size (s : Shared) (H : Hp) (l : List Addr) : (subB s H l).objs.size = s.heap.objs.size := by
  unfold subB
  rw [PySem.W.hideAll_size, hidT_size]
theorem mod_up {K : PySem.W.Frag} {mg : Str → Option Value} {B B' : Heap} (m : Mod K mg B) (k : ∀ b o, B.get? b = some o → B'.get? b = some o) : Mod K mg B' :=
  ⟨m.kin.keeps k, m.glob.keeps k, let ⟨mb, h1, h2⟩ := m.blt; ⟨mb, h1.keeps k, h2⟩, m.nolimit.keeps k⟩
theorem frames_base {h B B' : Heap} : ∀ {l : List Env}, h.FunFrames B l → (∀ b ∈ frs l, B'.get? b = none) → h.FunFrames B' l
  | [], _, _ => True.intro
  | e :: l, ⟨h1, ⟨L, o, e1, e2, e3, e4⟩, h3⟩, n => by
    have hL : L ∈ frs (e :: l) := List.mem_filterMap.mpr ⟨e, List.mem_cons_self, e1⟩
    exact ⟨h1, ⟨L, o, e1, n L hL, e3, e4⟩, frames_base h3 fun b hb => n b (by
      obtain ⟨x, hx, q⟩ := List.mem_filterMap.mp hb
      exact List.mem_filterMap.mpr ⟨x, List.mem_cons_of_mem _ hx, q⟩)⟩
variable {X : Cx} {pins : List (Addr × Obj)} {σ : L2.St} {H : Hp} {s : Shared}
theorem base_sub (I : Inv X pins σ H s) {l : List Addr} (hl : ∀ b o, X.base.get? b = some o → b ∉ l) : ∀ b o, X.base.get? b = some o → (subB s H l).get? b = some o := fun b o e => subB_get (I.bs b o e).1 (I.bs b o e).2 (hl b o e)
theorem base_nofr (I : Inv X pins σ H s) : ∀ b o, X.base.get? b = some o → b ∉ frs X.stack := fun b o e z => by
  have q := (I.stack.mem z).1
  rw [e] at q
  cases q
theorem env0_sub (I : Inv X pins σ H s) : Env0 X.prog X.w X.K X.mg (subB s H (frs X.stack)) X.A X.stack s H :=
  ⟨I.ok.frames, mod_up I.ok.mod (base_sub I (base_nofr I)), fun b o e => ⟨(subB_of e).1, (subB_of e).2.1⟩, Nat.le_of_eq (subB_size ..), frames_base I.stack fun b hb => subB_none hb, I.stkFree, I.hok, I.bare⟩
/-- what the captured names hold, in a base -/
def CellsB (X : Cx) (σ : L2.St) (B : Heap) : Prop :=
  (∀ y c, X.env.cells.lookup y = some c → ∃ v, B.IsCell c v) ∧ (∀ x y c, X.env.cells.lookup x = some c → X.env.cells.lookup y = some c → x = y) ∧
    (∀ (i : Nat) (y : Str) (v : V), X.N[i]? = some y → σ[i]? = some (some v) → (X.env.scope.names.lookup y = some .cell) → ∃ c u, X.env.cells.lookup y = some c ∧ RelV v u ∧ B.IsCell c (some u)) ∧ ∀ y, X.env.scope.names.lookup y = some .cell → ∃ c, X.env.cells.lookup y = some c
theorem cells_sub (I : Inv X pins σ H s) {l : List Addr} (hl : ∀ y c, X.env.cells.lookup y = some c → c ∉ l) : CellsB X σ (subB s H l) := by
  have up : ∀ {y : Str} {c : Addr} {v : Option Value}, X.env.cells.lookup y = some c → s.heap.IsCell c v → (subB s H l).IsCell c v := fun {y c v} e ⟨o, ho, hd⟩ => ⟨o, subB_get ho (I.freeC y c e) (hl y c e), hd⟩
  refine ⟨fun y c e => ?_, I.ok.inj, fun i y v e1 e2 e3 => ?_, fun y k => I.ok.has _ (.inl k)⟩
  · obtain ⟨v, z⟩ := I.cell y c e
    exact ⟨v, up e z⟩
  · obtain ⟨m, hn, look⟩ := I.loc
    obtain ⟨u, r, q⟩ := look i y v e1 e2 (.inr (.inl e3))
    rcases q with ⟨k, _⟩ | ⟨_, c, e, z⟩
    · have k : X.env.scope.names.lookup y = some .local := k
      rw [e3] at k
      cases k
    · exact ⟨c, u, e, r, up e z⟩
theorem cells_nofr (I : Inv X pins σ H s) (hfn : ∀ x, X.fn x = true) : ∀ y c, X.env.cells.lookup y = some c → c ∉ frs X.stack := fun y c e z => by
  obtain ⟨v, o, ho, hd⟩ := I.cell y c e
  rcases List.mem_cons.mp (I.stkSub c z) with q | q
  · exact I.cne y c e q
  · obtain ⟨_, o', ho', _⟩ := I.ok.funs.mem q
    exact absurd (Nat.lt_of_lt_of_le (Heap.lt_size ho') (I.ok.cab y c (hfn y) e)) (Nat.lt_irrefl _)
end
/-! ### lambdas: made -/
section
/-- the object at f is the lambda of these words, its defaults at dV -/
def LamO (f : Addr) (F : NF) (bd : Expr) (dV : Value) : HO := .ext fun h => ∃ (od : Option Addr) (sl : Array (Option Value)) (doc pm ctv : Value), h.get? f = some (⟨.type "function", od, .func (PySem.W.kdv_fn F.name F.qual F.params (.expr bd) F.scope F.cl dV doc pm (.ref F.c) ctv), sl⟩ : Obj)
theorem lamO_ne {f : Addr} {F : NF} {bd : Expr} {dV : Value} (ps : Array Value) : LamO f F bd dV ≠ .tbl ps := fun z => by
  unfold LamO at z
  cases z
theorem lamO_at {P : Program} {w : World} {H : Hp} {h : Heap} {f : Addr} {F : NF} {bd : Expr} {dV : Value} (hok : HOk P w H h) (e : H f = some (LamO f F bd dV)) :
    ∃ (od : Option Addr) (sl : Array (Option Value)) (doc pm ctv : Value), h.get? f = some (⟨.type "function", od, .func (PySem.W.kdv_fn F.name F.qual F.params (.expr bd) F.scope F.cl dV doc pm (.ref F.c) ctv), sl⟩ : Obj) := (hok f _ e).1
variable {X : Cx} {pins : List (Addr × Obj)} {σ : L2.St} {H : Hp} {s : Shared}
theorem inv_lam {F : NF} {bd : Expr} {dV : Value} {o : Obj} {t' : Nat} {doc pm ctv : Value} (I : Inv X pins σ H s) (ho : o = { cls := .type "function", data := .func (PySem.W.kdv_fn F.name F.qual F.params (.expr bd) F.scope F.cl dV doc pm (.ref F.c) ctv) }) :
    Inv X pins σ (upd H s.heap.objs.size (LamO s.heap.objs.size F bd dV)) { s with heap := s.heap.push o, toks := t' } := by
  subst ho
  have here : (s.heap.push ({ cls := .type "function", data := .func (PySem.W.kdv_fn F.name F.qual F.params (.expr bd) F.scope F.cl dV doc pm (.ref F.c) ctv) } : Obj)).get? s.heap.objs.size = some _ := Heap.get?_push_size _ rfl
  exact I.laid (a := s.heap.objs.size) (fun b u e => Heap.get?_push_of_some _ e) (Nat.le_refl _) ⟨⟨_, _, doc, pm, ctv, here⟩, ⟨_, here⟩, fun h1 h2 ⟨d1, d2, d3, d4, d5, d6⟩ st => ⟨d1, d2, d3, d4, d5, st _ d6⟩⟩
/-- the words of a lambda that X's code makes -/
def lamNF (X : Cx) (params : Arguments) (scope : Scope) (c' : Addr) : NF := ⟨"<lambda>", X.env.qual ++ "<lambda>", params, [], scope, cloFrom X.env.cells scope.names [], c'⟩
/-- the end of the making: the code object is new, or it stands in the table -/
theorem lam_tail {T : List (Addr × Str)} {c P : Addr} {params : Arguments} {bd : Expr} {scope : Scope} {pos : Pos} {dV : Value} {E Q : Value → Shared → Prop} (I : Inv X pins σ H s) (TB : TabB X.base X.mg c P) (hcode : X.env.code = .ref c)
    (hin : (P, X.env.qual ++ "<lambda>") ∈ T) (hone : ∀ p ∈ T, p.1 = P → p.2 = X.env.qual ++ "<lambda>") (hT : Tabs T H) (hfree : ∀ y ∈ scope.names, y.2 = .free → ∃ c, X.env.cells.lookup y.1 = some c)
    (k : ∀ (f c' : Addr) (H1 : Hp) (s' : Shared), Inv X pins σ H1 s' → ExtN H H1 → (∀ b, H1 b = Option.none → H b = Option.none) → Tabs T H1 → H f = none → H1 f = some (LamO f (lamNF X params scope c') bd dV) → H1 c' = some (CodeO c' (X.env.qual ++ "<lambda>")) → Q (.ref f) s') :
    wpAny (model X.prog X.w) X.A (makeTail "<lambda>" (X.env.qual ++ "<lambda>") params (.expr bd) scope X.env dV .none none pos pos.line) Q E s := by
  obtain ⟨ps, tabP, tri, among⟩ := hT _ hin
  have bltP : s.heap.BuiltinsAt X.mg P := TB.bm.keeps I.bk
  have heapP : s.heap.get? P = some { cls := .none, data := .fields ps } := I.hok P _ tabP
  cases found : codeAmong pos ps.toList with
  | some cv =>
    obtain ⟨c', rfl, known⟩ := among pos cv found
    refine PySem.W.kdv_makeTailHit (mg := X.mg) (c := c) (P := P) (ps := ps) (closure_ok hfree) I.ok.glob (I.mod.glob.keeps I.bk) hcode (TB.code.keeps I.bk) heapP tri found bltP fun ctv doc h' tk up _ => ?_
    have I1 : Inv X pins σ H { s with heap := h', toks := tk } := I.kept up
    have fresh : H h'.objs.size = none := I1.hok.fresh (Nat.le_refl _)
    have I2 := inv_lam (F := lamNF X params scope c') (bd := bd) (dV := dV) (t' := tk) (doc := doc) (pm := (X.mg "__name__").getD .none) (ctv := ctv) I1 rfl
    exact k h'.objs.size c' _ _ I2 (fun b o e _ => (upd_ne (ne_of_none e fresh)).trans e) (fun b e => upd_none e) (hT.ext fun b o e => (upd_ne (ne_of_none e fresh)).trans e) fresh upd_same ((upd_ne (ne_of_none known fresh)).trans known)
  | none =>
    refine PySem.W.kdv_makeTail (mg := X.mg) (c := c) (P := P) (ps := ps) (closure_ok hfree) I.ok.glob (I.mod.glob.keeps I.bk) hcode (TB.code.keeps I.bk) heapP tri found TB.gP bltP fun c' ctv doc h' tk but ge lt rec tabP' => ?_
    obtain ⟨c2, oc, vs, t, e2, r1, r2, r3⟩ := rec
    cases e2
    have newC : H c' = none := I.hok.fresh ge
    have I1 := inv_table (t' := tk) (more := #[rawInt pos.line, rawInt pos.col, .ref c']) (h' := h') I tabP (fun b o hb e => but b o hb e) tabP' ge ⟨oc, vs, t, r1, r2, r3⟩
    generalize hG : upd (upd H P (.tbl (ps ++ #[rawInt pos.line, rawInt pos.col, .ref c']))) c' (CodeO c' (X.env.qual ++ "<lambda>")) = G at I1
    have gC : G c' = some (CodeO c' (X.env.qual ++ "<lambda>")) := by rw [← hG]; exact upd_same
    have gP : G P = some (.tbl (ps ++ #[rawInt pos.line, rawInt pos.col, .ref c'])) := by rw [← hG, upd_ne (ne_of_none tabP newC)]; exact upd_same
    have gO : ∀ b o, b ≠ P → H b = some o → G b = some o := fun b o nb e => by rw [← hG, upd_ne (ne_of_none e newC), upd_ne nb]; exact e
    have ext : ExtN H G := fun b o e n => gO b o (fun z => n ps (Option.some.inj (e.symm.trans (by rw [z]; exact tabP)))) e
    have tabs : Tabs T G := fun p hp => by
      by_cases hb : p.1 = P
      · rw [hone p hp hb, hb]
        refine ⟨_, gP, ?_, fun p' cv hcv => ?_⟩
        · rw [Array.toList_append]
          exact PySem.TriplesOk_snoc _ _ _ _ tri
        · rw [Array.toList_append] at hcv
          rcases among_app _ tri hcv with z | z
          · obtain ⟨c0, q1, q2⟩ := among p' cv z
            exact ⟨c0, q1, ext _ _ q2 codeO_ne⟩
          · exact ⟨c', z, gC⟩
      · obtain ⟨ps', q1, q2, q3⟩ := hT p hp
        exact ⟨ps', gO _ _ hb q1, q2, fun p' cv hcv => let ⟨c0, w1, w2⟩ := q3 p' cv hcv; ⟨c0, w1, ext _ _ w2 codeO_ne⟩⟩
    have fresh : G h'.objs.size = none := I1.hok.fresh (Nat.le_refl _)
    have I2 := inv_lam (F := lamNF X params scope c') (bd := bd) (dV := dV) (t' := tk) (doc := doc) (pm := (X.mg "__name__").getD .none) (ctv := ctv) I1 rfl
    have up : ∀ b o, G b = some o → upd G h'.objs.size (LamO h'.objs.size (lamNF X params scope c') bd dV) b = some o := fun b o e => (upd_ne (ne_of_none e fresh)).trans e
    exact k h'.objs.size c' _ _ I2 (fun b o e n => up _ _ (ext b o e n)) (fun b e => by
      have z := upd_none e
      rw [← hG] at z
      exact upd_none (upd_none z)) (tabs.ext up) (I.hok.fresh (Nat.le_trans ge (Nat.le_of_lt lt))) upd_same (up _ _ gC)
/-- what a lambda's making asks: tables, then the new function -/
def tLam0 (T : List (Addr × Str)) (mk : Addr → NF) (bd : Expr) : TE := fun _ H Q => Tabs T H ∧ ∀ (f c' : Addr) (H1 : Hp), ExtN H H1 → (∀ b, H1 b = Option.none → H b = Option.none) → Tabs T H1 → H f = none → H1 f = some (LamO f (mk c') bd .none) → H1 c' = some (CodeO c' (mk c').qual) → Q (.ref f) H1
theorem pe_lam0 {T : List (Addr × Str)} {c P : Addr} {bd : Expr} {params : Arguments} {scope : Scope} {pos : Pos} (TB : TabB X.base X.mg c P) (hcode : X.env.code = .ref c) (hin : (P, X.env.qual ++ "<lambda>") ∈ T)
    (hone : ∀ p ∈ T, p.1 = P → p.2 = X.env.qual ++ "<lambda>") (L : LamS X.env.scope scope) (hd : params.defaults = []) (hk : params.kw_defaults = []) : PE X (.Lambda params bd scope pos) (tLam0 T (lamNF X params scope) bd) := by
  refine ⟨fun pins s σ H Q I h => ?_⟩
  obtain ⟨tab, go⟩ := h
  refine PySem.W.kla_eval (by rw [defaultsOf_eq, hd, hk]; rfl) ?_
  rw [makeFunction_eq]
  simp only [pure_bind, if_true, List.isEmpty_nil, List.filterMap_nil, List.zip_nil_right]
  exact lam_tail I TB hcode hin hone tab (L.has I.ok) fun f c' H1 s' I1 e1 e2 e3 e4 e5 e6 => ⟨.ref f, H1, I1, rfl, go f c' H1 e1 e2 e3 e4 e5 e6⟩
/-- one default, an int -/
def tLam1 (T : List (Addr × Str)) (mk : Addr → NF) (bd : Expr) (n : Int) : TE := fun _ H Q => Tabs T H ∧ ∀ (f c' t : Addr) (H1 : Hp), ExtN H H1 → (∀ b, H1 b = Option.none → H b = Option.none) → Tabs T H1 → H f = none → H1 f = some (LamO f (mk c') bd (.ref t)) → H1 c' = some (CodeO c' (mk c').qual) → H1 t = some (.tup [.int n]) → Q (.ref f) H1
theorem pe_lam1 {T : List (Addr × Str)} {c P : Addr} {bd : Expr} {params : Arguments} {scope : Scope} {pos pn : Pos} {n : Int} {j : Nat} (TB : TabB X.base X.mg c P) (hcode : X.env.code = .ref c) (hin : (P, X.env.qual ++ "<lambda>") ∈ T)
    (hone : ∀ p ∈ T, p.1 = P → p.2 = X.env.qual ++ "<lambda>") (L : LamS X.env.scope { scope with names := scope.names.filter fun y => y.2 != .local }) (hd : params.defaults = [.Constant (.int n) j pn]) (hk : params.kw_defaults = []) : PE X (.Lambda params bd scope pos) (tLam1 T (lamNF X params scope) bd n) := by
  refine ⟨fun pins s σ H Q I h => ?_⟩
  obtain ⟨tab, go⟩ := h
  refine PySem.W.kdv_lam (by rw [hd]; rfl) hk ?_
  rw [hd]
  refine PySem.W.kdv_all1 (thn (pe_int.run pins s σ H (fun v H' => v = .int n ∧ H' = H) I ⟨rfl, rfl⟩) fun u s1 ⟨v, H', I1, r1, e1, e2⟩ => PySem.W.kdv_all0 ?_)
  subst e1 e2
  rw [makeFunction_eq]
  simp only [pure_bind, if_true, List.isEmpty_nil, List.isEmpty_cons, Bool.false_eq_true, if_false, List.filterMap_nil, List.zip_nil_right]
  refine wpAny_bind (wpAny_newTextTuple ?_)
  have I2 : Inv X pins σ (upd H' s1.heap.objs.size (.tup [.int n])) { s1 with heap := s1.heap.push { cls := .type "tuple", data := .seq [u].toArray } } := by
    refine I1.laid (t' := s1.toks) (fun b o e => Heap.get?_push_of_some _ e) (Nat.le_refl _) ?_
    exact ⟨by show 1 ≤ sizeLine; decide, [u], .cons r1 .nil, _, Heap.get?_push_size _ rfl, rfl, _, rfl⟩
  have fresh : H' s1.heap.objs.size = none := I1.hok.fresh (Nat.le_refl _)
  have up : ∀ b o, H' b = some o → upd H' s1.heap.objs.size (.tup [.int n]) b = some o := fun b o e => (upd_ne (ne_of_none e fresh)).trans e
  refine lam_tail I2 TB hcode hin hone (tab.ext up) (fun y hy e => L.has I2.ok y (List.mem_filter.2 ⟨hy, by rw [e]; rfl⟩) e) fun f c' H1 s' I3 e1 e2 e3 e4 e5 e6 => ⟨.ref f, H1, I3, rfl, go f c' s1.heap.objs.size H1 (fun b o e nt => e1 b o (up _ _ e) nt) (fun b e => upd_none (e2 b e)) e3 (upd_none e4) e5 e6 ?_⟩
  exact e1 _ _ upd_same (fun ps z => by cases z)
end
end Odd

namespace Odd
open PySem PySem.Spec PyProof.Rows L2 LamX NdefX
/-! ### lambdas: called -/
/-- f called without arguments, at the heap H -/
def CallAt (P : Program) (w : World) (K : PySem.W.Frag) (mg : Str → Option Value) (base : Heap) (k : Nat) (f : Addr) (H : Hp) (Q : VK) (E : XK) : Prop :=
  ∀ (A : Around) (outer : List Env) (s : Shared), Room k A → Env0 P w K mg base A outer s H → codeAny (model P w) A (.call (.ref f) ⟨[], []⟩) (CR (L2.CX P w) outer P w H s Q E) s
/-- what the captured cells hold, in a base -/
structure CellsL (cl : List (Str × Addr)) (fr : List Str) (ws : List (Option V)) (B : Heap) : Prop where
  len : ws.length = fr.length
  all : ∀ y c, cl.lookup y = some c → ∃ v, B.IsCell c v
  inj : ∀ x y c, cl.lookup x = some c → cl.lookup y = some c → x = y
  has : ∀ (i : Nat) (y : Str), fr[i]? = some y → ∃ c, cl.lookup y = some c ∧ ∀ v, ws[i]? = some (some v) → ∃ u, RelV v u ∧ B.IsCell c (some u)
section
variable {P : Program} {w : World} {K : PySem.W.Frag} {mg : Str → Option Value} {base : Heap} {N ps fr : List Str} {F : NF} {f : Addr} {H : Hp} {Q : VK} {E : XK} {k : Nat} {bd : Expr} {dV : Value} {vs : List V} {ws : List (Option V)}
theorem CellsL.at {A : Around} {outer : List Env} {s : Shared} (C : CellsL F.cl fr ws base) (e0 : Env0 P w K mg base A outer s H) : CellsAt F.cl fr ws s.heap H where
  len := C.len
  all := fun y c e => by
    obtain ⟨v, o, ho, hd⟩ := C.all y c e
    exact ⟨(e0.bs c o ho).2, v, o, (e0.bs c o ho).1, hd⟩
  inj := C.inj
  has := fun i y e => by
    obtain ⟨c, hc, hv⟩ := C.has i y e
    refine ⟨c, hc, fun v ev => ?_⟩
    obtain ⟨u, ru, o, ho, hd⟩ := hv v ev
    exact ⟨u, ru, o, (e0.bs c o ho).1, hd⟩
theorem pas_lam {A : Around} {outer : List Env} {s : Shared} : Pas (ncx (L2.CX P w) P w K mg base N F f A outer s H E) E :=
  passes_call (takes_of rfl rfl rfl rfl : Takes (ncx (L2.CX P w) P w K mg base N F f A outer s H E) (fun cls d _ H => E cls d H)) fun _ _ _ _ h => h
/-- a lambda by its body -/
theorem lam_callAt (S : NScope N ps fr F.scope) (hf : H f = some (LamO f F bd dV)) (hc : H F.c = some (CodeO F.c F.qual)) (hl : vs.length = ps.length) (C : CellsL F.cl fr ws base)
    (hb : ∀ (s : Shared) (doc pm ctv : Value), HOk P w H s.heap → ∃ us, Vals vs us ∧ BindsTo s (PySem.W.kdv_fn F.name F.qual F.params (.expr bd) F.scope F.cl dV doc pm (.ref F.c) ctv) ⟨[], []⟩ (ps.zip us))
    (hbody : ∀ (A : Around) (outer : List Env) (s : Shared), Room k (A.deeper (envF F f s.heap.objs.size)) → ∃ tb, PE (ncx (L2.CX P w) P w K mg base N F f A outer s H E) bd tb ∧ tb (startF N vs ws) H Q) : CallAt P w K mg base (k + 1) f H Q E := by
  intro A outer s hr e0
  have lim : s.heap.NoLimit := e0.mod.nolimit.keeps fun b o e => (e0.bs b o e).1
  obtain ⟨od, sl, doc, pm, ctv, ho⟩ := lamO_at e0.hok hf
  obtain ⟨us, rv, bind⟩ := hb s doc pm ctv e0.hok
  refine PySem.W.kla_callFunE hr.depth ho rfl S.co S.gen rfl (codeO_at e0.hok hc) (bind _ _ _ _ ?_)
  refine wpAny_newFunctionEnv S.nocell (fun ⟨n, _⟩ hy => S.par n (List.of_mem_zip hy).1) (fun h₁ hns hsb => ⟨lim.fresh _ hsb, ?_⟩) S.kind
  show codeAny _ _ (.expr bd (envF F f s.heap.objs.size)) _ _
  have up : ∀ b o, s.heap.get? b = some o → h₁.get? b = some o := fun b o e => hsb.extBut b o (Nat.ne_of_lt (Heap.lt_size e)) (Heap.get?_push_of_some _ e)
  obtain ⟨tb, pe, q⟩ := hbody A outer s (hr.deeper _)
  have I : Inv (ncx (L2.CX P w) P w K mg base N F f A outer s H E) [] (startF N vs ws) H { s with heap := h₁, toks := s.toks + (ps.zip us).length } := inv_startN S hr.hd e0 hl rv (C.at e0) hns up
  refine PySem.W.kla_codeExpr (wpAny_mono (pe.run [] _ (startF N vs ws) H Q I q) (fun u s' z => ?_) fun e s' z => z)
  obtain ⟨v, H', J, r, qq⟩ := z
  exact ⟨v, H', J.os, J.bare, J.base, J.hok, r, qq⟩
/-- no parameter -/
theorem lam_bind0 {qual : Str} {params : Arguments} {scope : Scope} {cl : List (Str × Addr)} {doc pm cv ctv : Value} {s : Shared} (h : bindArgs (PySem.W.kdv_fn "<lambda>" qual params (.expr bd) scope cl .none doc pm cv ctv) ⟨[], []⟩ = pure []) :
    ∃ us, Vals ([] : List V) us ∧ BindsTo s (PySem.W.kdv_fn "<lambda>" qual params (.expr bd) scope cl .none doc pm cv ctv) ⟨[], []⟩ (([] : List Str).zip us) := ⟨[], .nil, .of_eq h⟩
/-- one parameter, with a default -/
theorem lam_bind1 {qual x : Str} {n : Int} {t : Addr} {params : Arguments} {scope : Scope} {cl : List (Str × Addr)} {doc pm cv ctv : Value} {s : Shared} {kk : Option (Array Value) → Sem (List (Str × Value))} (hok : HOk P w H s.heap) (ht : H t = some (.tup [.int n]))
    (h1 : bindArgs (PySem.W.kdv_fn "<lambda>" qual params (.expr bd) scope cl (.ref t) doc pm cv ctv) ⟨[], []⟩ = seqItems? (.ref t) >>= kk) (h2 : ∀ u : Value, kk (some #[u]) = pure [(x, u)]) :
    ∃ us, Vals [V.int n] us ∧ BindsTo s (PySem.W.kdv_fn "<lambda>" qual params (.expr bd) scope cl (.ref t) doc pm cv ctv) ⟨[], []⟩ ([x].zip us) := by
  obtain ⟨_, its, rv, o, ho, hcl, m, hd⟩ := hok t _ ht
  obtain ⟨u, rfl, ru⟩ := vals1 rv
  refine ⟨[u], .cons ru .nil, ?_⟩
  obtain ⟨oc, od, dd, sl⟩ := o
  cases hd
  exact BindsTo.of_defaults (T := t) rfl ho rfl h1 (h2 u)
end
/-- x(), x a local that holds a lambda -/
def tAct (X : Cx) (i k : Nat) (W : WX) : TE := fun σ H Q => ∃ (f : Addr) (F : NF) (bd : Expr) (dV : Value) (Ef : XK), σ[i]? = some (some (.ref f)) ∧ H f = some (LamO f F bd dV) ∧ CallAt X.prog X.w X.K X.mg X.base k f H Q Ef ∧ (∀ cls d (σ' : L2.St) H', Ef cls d H' → W cls d σ' H') ∧ Room k X.A
theorem pe_act {X0 X : Cx} {a : Str} {i k : Nat} {W : WX} {p1 p2 : Pos} (l : Like X0 X) (tk : Takes X W) (hN : X.N[i]? = some a) (hv : Vis X.env.scope a) (hd : (a == ("__debug__" : Str)) = false := by decide) (hcd : (a == ("__classdict__" : Str)) = false := by decide) :
    PE X (.Call (.Name a p1) [] [] p2) (tAct X0 i k W) := by
  refine ⟨fun pins s σ H Q I h => ?_⟩
  obtain ⟨f, F, bd, dV, Ef, hs, hf, hc, hW, hr⟩ := h
  rw [← l.prog, ← l.w, ← l.K, ← l.mg, ← l.base] at hc
  rw [← l.A] at hr
  refine wpAny_Call_Name_kw (thn ((pe_var (pos := p1) (i := i) hN hv hd hcd).run pins s σ H (fun v H1 => v = .ref f ∧ H1 = H) I ⟨.ref f, hs, rfl, rfl⟩) fun u s1 ⟨v, H1, I1, r1, ev, eH⟩ => ?_)
  subst ev eH
  obtain rfl : u = Value.ref f := r1
  obtain ⟨od, sl, doc, pm, ctv, ho⟩ := lamO_at I1.hok hf
  refine PySem.W.callWith_F0 ⟨_, _, _, _, ho⟩ (wpAny_call (codeAny_mono (hc X.A X.stack s1 hr I1.env0) fun r s' hq => ?_))
  have thrown : Passes (L2.CX X.prog X.w) X Ef := passes_call tk fun cls d σ' H' e => hW cls d σ' H' e
  match r, hq with
  | .error e, hq => exact thrown pins σ H1 s1 e s' I1 hq
  | .ok (.ret u), hq => exact I1.after hq
/-- what stands at a slot -/
def slV (σ : L2.St) (j : Nat) : Option V := (σ[j]?).join
theorem slV_at {σ : L2.St} {j : Nat} {v : V} (h : slV σ j = some v) : σ[j]? = some (some v) := by
  unfold slV at h
  cases e : σ[j]? with
  | none => rw [e] at h; cases h
  | some o => rw [e] at h; cases o with
    | none => cases h
    | some u => cases h; rfl
theorem cells_of {X : Cx} {σ : L2.St} {B : Heap} {scope : Scope} {fr : List Str} {js : List Nat} (C : CellsB X σ B) (hfr0 : ∀ y ∈ scope.names, y.2 = .free → X.env.scope.names.lookup y.1 = some .cell)
    (hin : ∀ y ∈ fr, (y, NameKind.free) ∈ scope.names) (hj : js.map (fun j => X.N[j]?) = fr.map some) : CellsL (cloFrom X.env.cells scope.names []) fr (js.map (slV σ)) B := by
  have hfr : ∀ y ∈ scope.names, y.2 = .free → X.env.scope.names.lookup y.1 = some .cell ∧ ∃ c, X.env.cells.lookup y.1 = some c := fun y hy e => ⟨hfr0 y hy e, C.2.2.2 y.1 (hfr0 y hy e)⟩
  have cm : ∀ {y c}, (cloFrom X.env.cells scope.names []).lookup y = some c → X.env.cells.lookup y = some c := fun {y c} e => by
    rcases cloFrom_mem (PySem.mem_of_lookup e) with z | ⟨z, q⟩
    · cases z
    · obtain ⟨_, c1, q1⟩ := hfr _ z rfl
      have q1 : X.env.cells.lookup y = some c1 := q1
      rw [q1] at q
      have q : c = c1 := q
      rw [q]
      exact q1
  have len : js.length = fr.length := by
    have := congrArg List.length hj
    rwa [List.length_map, List.length_map] at this
  refine ⟨by rw [List.length_map]; exact len, fun y c e => C.1 y c (cm e), fun x y c e1 e2 => C.2.1 x y c (cm e1) (cm e2), fun i y e => ?_⟩
  have hy := List.mem_of_getElem? e
  obtain ⟨c, hc⟩ := mem_lookup (cloFrom_has (cells := X.env.cells) (acc := []) (hin y hy))
  refine ⟨c, hc, fun v ev => ?_⟩
  rw [List.getElem?_map] at ev
  cases ej : js[i]? with
  | none => rw [ej] at ev; cases ev
  | some j =>
    rw [ej] at ev
    have sv := slV_at (Option.some.inj ev)
    have nj : X.N[j]? = some y := by
      have z := congrArg (fun l => l[i]?) hj
      simp only [List.getElem?_map, ej, e, Option.map_some] at z
      exact Option.some.inj z
    obtain ⟨c2, u, e2, ru, ce⟩ := C.2.2.1 j y v nj sv (hfr _ (hin y hy) rfl).1
    have e3 := cm hc
    rw [e2] at e3
    cases e3
    exact ⟨u, ru, ce⟩
end Odd

namespace Odd
open PySem PySem.Spec PyProof.Rows L2 LamX NdefX
/-! ### a comprehension whose elements call lambdas of the maker -/
section
variable {X : Cx}
/-- its block, over a base that holds the maker's cells -/
abbrev blkB (X : Cx) (s : Shared) (H : Hp) (scope : Scope) (cenv : Env) (fp : List Addr) (B : Heap) : Cx := { X.blk s H scope cenv fp with base := B }
theorem rebase {s s' : Shared} {H H' : Hp} {scope : Scope} {cenv : Env} {fp : List Addr} {B : Heap} {pins : List (Addr × Obj)} {σ : L2.St} (I : Inv (X.blk s H scope cenv fp) pins σ H' s') (m : Mod X.K X.mg B) (b1 : ∀ b o, B.get? b = some o → s.heap.get? b = some o ∧ H b = none)
    (b2 : B.objs.size ≤ s.heap.objs.size) (b3 : ∀ b o, B.get? b = some o → b ∉ fp) (b4 : s.heap.FunFrames B X.stack) : Inv (blkB X s H scope cenv fp B) pins σ H' s' :=
  ⟨⟨m, I.ok.kind, I.ok.glob, I.ok.blt, I.ok.above, I.ok.inj, I.ok.has, I.ok.cab, I.ok.hd, I.ok.frames, I.ok.stk, I.ok.exf, b1, b2, b3, I.ok.exfs, b4, I.ok.frf⟩, I.os, I.bare, I.base, I.loc, I.cell, I.free, I.freeC, I.pin, I.hok, I.len⟩
def tLcB (X : Cx) (wi : TI) (g : TG) (te : Heap → TE) (vs : List Nat) : TE := fun σ H Q => wi σ H fun J H1 => ∀ B, CellsB X σ B → ∀ D, H1 D = none → ∃ W : Nat → Nat → Hp → Prop, (∃ m, W 0 m (upd H1 D (.lst []))) ∧ ∀ i m H, W i m H →
  (J.stop i H ∧ Q (.ref D) H) ∨ (J.go i H ∧ ∃ Nx : Hp → Prop, (∀ H', Nx H' → ∃ m', m' < m ∧ W (i + 1) m' H') ∧ ∀ x H', J.yld i H x H' → g x (wipe σ vs) H' fun σ2 H2 => wipe σ2 vs = wipe σ vs ∧ tYes σ2 H2 fun b H3 =>
    if b = true then te B σ2 H3 fun y H4 => ∃ acc, H4 D = some (.lst acc) ∧ acc.length < sizeLine ∧ Nx (upd H4 D (.lst (acc ++ [y]))) else Nx H3)
theorem pe_lcB {elt tg iter : Expr} {scope : Scope} {own : List (Str × Nat)} {pos : Pos} {wi : TI} {g : TG} {te : Heap → TE} (calm : X.calm = true) (hfn : ∀ x, X.fn x = true) (nd : X.N.Nodup) (hi : PI X tg iter wi) (ok : BlkOk X.N X.env.scope scope own)
    (hg : ∀ (s : Shared) (H : Hp) (C : Addr) (cl : List (Str × Addr)) (fp : List Addr) (B : Heap), PG (blkB X s H scope (compEnvC scope cl C X.env) fp B) tg g)
    (he : ∀ (s : Shared) (H : Hp) (C : Addr) (cl : List (Str × Addr)) (fp : List Addr) (B : Heap), PE (blkB X s H scope (compEnvC scope cl C X.env) fp B) elt (te B)) (fold : ∀ x, foldedSetIterable iter X.env x = pure x := by intro _; rfl) :
    PE X (.ListComp elt [⟨tg, iter, [], 0⟩] scope pos) (tLcB X wi g te (own.map (·.2))) := by
  refine ⟨fun pins s σ H Q I start => ?_⟩
  rw [eval_ListComp]
  have cellOf : ∀ y ∈ scope.names, y.2 = .free → ∃ c, X.env.cells.lookup y.1 = some c := fun y hy e => (ok.free y hy e).elim (fun k => I.ok.has _ (.inl k)) fun k => I.ok.has _ (.inr k)
  refine wpAny_comprehension_free (use := none) rfl fold (closure_ok cellOf) ok.kind (fun y hy e => (ok.uniq y hy).trans (by rw [e])) (thn (hi.run pins s σ H _ I start) fun _ s1 run1 => thn run1 fun _ s2 run2 => ?_)
  obtain ⟨it, fp, tn, J, H2, rfl, I2, T, walk2, free2, body⟩ := run2
  refine wpAny_newObj_type (newEnv_comp ?_) (by show 0 ≤ sizeLine; decide)
  obtain ⟨D, eD⟩ : ∃ D, D = s2.heap.objs.size := ⟨_, rfl⟩
  rw [← eD]
  have newD : H2 D = none := I2.hok.fresh (by rw [eD]; exact Nat.le_refl _)
  -- the list, empty
  obtain ⟨s3, e3⟩ : ∃ s3 : Shared, s3 = { s2 with heap := s2.heap.push { cls := .type "list", data := .seq ([] : List Value).toArray } } := ⟨_, rfl⟩
  have heap3 : s3.heap = s2.heap.push { cls := .type "list", data := .seq ([] : List Value).toArray } := by rw [e3]
  obtain ⟨H3, eH3⟩ : ∃ H3, H3 = upd H2 D (.lst []) := ⟨_, rfl⟩
  have I3 : Inv X pins σ H3 s3 := by
    rw [e3, eH3, eD]
    exact I2.laid (t' := s2.toks) (fun b o e => Heap.get?_push_of_some _ e) (Nat.le_refl _) ⟨Nat.zero_le _, [], 0, .nil, Heap.get?_push_size _ rfl⟩
  have under : ∀ b ∈ fp, b < s2.heap.objs.size := fun b hb => let ⟨_, e, _⟩ := T.obj _ _ walk2 b hb; Heap.lt_size e
  have free3 : ∀ b ∈ fp, FpOk X pins H3 b ∧ b < s3.heap.objs.size := fun b hb => by
    have lt := under b hb
    refine ⟨⟨?_, (free2 b hb).2⟩, by rw [heap3, Heap.size_push]; exact Nat.lt_succ_of_lt lt⟩
    rw [eH3, upd_ne (by rw [eD]; exact Nat.ne_of_lt lt)]
    exact (free2 b hb).1
  have walk3 : tn 0 s3.heap := T.keep _ _ _ walk2 fun b _ o e => by rw [heap3]; exact Heap.get?_push_of_some _ e
  -- the base for the block
  obtain ⟨B, eB⟩ : ∃ B, B = subB s3 H3 (frs X.stack ++ fp) := ⟨_, rfl⟩
  have inB : ∀ b o, B.get? b = some o → s3.heap.get? b = some o ∧ H3 b = none ∧ b ∉ frs X.stack ++ fp := fun b o e => by rw [eB] at e; exact subB_of e
  have modB : Mod X.K X.mg B := by
    rw [eB]
    refine mod_up I3.ok.mod (base_sub I3 fun b o e z => ?_)
    rcases List.mem_append.1 z with z | z
    · exact base_nofr I3 b o e z
    · have q := (free3 b z).1.2.2.2.1
      rcases q with q | q
      · exact I3.ok.noex b o e q
      · exact absurd (Nat.lt_of_lt_of_le (Heap.lt_size e) (Nat.le_trans I3.ok.bsz q)) (Nat.lt_irrefl _)
  have cellsB : CellsB X σ B := by
    rw [eB]
    refine cells_sub I3 fun y c e z => ?_
    rcases List.mem_append.1 z with z | z
    · exact cells_nofr I3 hfn y c e z
    · exact (free3 c z).1.2.2.2.2.1 y c e rfl
  have sizeB : B.objs.size ≤ s3.heap.objs.size := by rw [eB, subB_size]; exact Nat.le_refl _
  have framesB : s3.heap.FunFrames B X.stack := frames_base I3.stack fun b hb => by rw [eB]; exact subB_none (List.mem_append_left _ hb)
  have re : ∀ {cenv : Env} {pins' : List (Addr × Obj)} {σ' : L2.St} {H' : Hp} {s' : Shared}, Inv (X.blk s3 H3 scope cenv fp) pins' σ' H' s' → Inv (blkB X s3 H3 scope cenv fp B) pins' σ' H' s' := fun I' =>
    rebase I' modB (fun b o e => ⟨(inB b o e).1, (inB b o e).2.1⟩) sizeB (fun b o e z => (inB b o e).2.2 (List.mem_append_right _ z)) framesB
  obtain ⟨W, ⟨m0, w0⟩, turns⟩ := body B cellsB D newD
  rw [← eH3] at w0
  have I4 := block_start I3 ok nd free3
  have goes := hg s3 H3 s3.heap.objs.size (cellsFrom (s3.heap.objs.size + 1) scope.names (cloFrom X.env.cells scope.names [])) fp B
  have elem := he s3 H3 s3.heap.objs.size (cellsFrom (s3.heap.objs.size + 1) scope.names (cloFrom X.env.cells scope.names [])) fp B
  have shown : ({ s2 with heap := s2.heap.push { cls := .type "list", data := .seq ([] : List Value).toArray } } : Shared) = s3 := e3.symm
  rw [shown]
  show codeAny _ _ (.compStart (.ListComp elt [⟨tg, iter, [], 0⟩] scope pos) 0 (.ref it) (.ref D) (compEnvC scope (cellsFrom (s3.heap.objs.size + 1) scope.names (cloFrom X.env.cells scope.names [])) s3.heap.objs.size X.env)) (compPost (model X.prog X.w) X.A X.xe none (EP X pins σ Q) (.ref D) s3.heap.objs.size) { s3 with heap := pushCells (s3.heap.push { cls := .type "dict", data := .dict #[] }) scope.names }
  have locD : (compEnvC scope (cellsFrom (s3.heap.objs.size + 1) scope.names (cloFrom X.env.cells scope.names [])) s3.heap.objs.size X.env).locals = s3.heap.objs.size := rfl
  generalize compEnvC scope (cellsFrom (s3.heap.objs.size + 1) scope.names (cloFrom X.env.cells scope.names [])) s3.heap.objs.size X.env = ce at I4 goes elem locD ⊢
  obtain ⟨s4, e4⟩ : ∃ s4 : Shared, s4 = { s3 with heap := pushCells (s3.heap.push { cls := .type "dict", data := .dict #[] }) scope.names } := ⟨_, rfl⟩
  rw [← e4] at I4 ⊢
  have walk4 : tn 0 s4.heap := T.keep _ _ _ walk3 fun b _ o e => by rw [e4]; exact pushCells_keeps _ _ _ _ (Heap.get?_push_of_some _ e)
  have still : ∀ {σ' : L2.St} {H' : Hp} {s' : Shared}, Inv (blkB X s3 H3 scope ce fp B) [] σ' H' s' → (∀ b ∈ fp, H' b = none) → ∀ b ∈ fp, FpOk (blkB X s3 H3 scope ce fp B) [] H' b := fun {σ' H' s'} I' hn b hb =>
    ⟨hn b hb, (I'.ok.exf b hb).1, I'.ok.exfs b hb, .inl hb, fun x c e => (I'.ok.exf b hb).2 x c e, fun p hp => absurd (show p ∈ ([] : List (Addr × Obj)) ++ [] from hp) (by simp)⟩
  have loop : codeAny (model X.prog X.w) X.A (.compLoop (.ListComp elt [⟨tg, iter, [], 0⟩] scope pos) 0 (.ref it) (.ref D) ce) (compPost (model X.prog X.w) X.A X.xe none (EP X pins σ Q) (.ref D) s3.heap.objs.size) s4 := by
    refine compLoop_any (fun n s' => ∃ i H', Inv (blkB X s3 H3 scope ce fp B) [] (wipe σ (own.map (·.2))) H' s' ∧ tn i s'.heap ∧ (∀ b ∈ fp, H' b = none) ∧ W i n H') (fun n s5 inv5 => ?_) m0 ⟨0, H3, re I4, walk4, fun b hb => (free3 b hb).1.1, w0⟩
    obtain ⟨i, H5, I5, walk5, none5, w5⟩ := inv5
    rcases turns i n H5 w5 with ⟨stop, last⟩ | ⟨go, Nx, next, step⟩
    · refine thnF (T.done (blkB X s3 H3 scope ce fp B) rfl rfl rfl calm i [] s5 _ H5 (fun _ _ => False) I5 (still I5 none5) walk5 stop) fun r s6 ⟨er, I6⟩ => ?_
      subst er
      have back : Inv X pins σ H5 s6 := I3.call' (ch := fp) I6.os I6.base I6.hok I6.bare fun b hb => let z := (free3 b hb).1; ⟨z.2.2.2.1, z.2.1, z.2.2.2.2.1, z.2.2.2.2.2⟩
      have gone : H5 s3.heap.objs.size = none := by
        have z : H5 ce.locals = none := I6.free
        rwa [locD] at z
      obtain ⟨m, ns, _⟩ := I6.loc
      have ns : s6.heap.Ns ce.locals m := ns
      rw [locD] at ns
      refine ⟨m, ns, fun h7 only => ?_⟩
      obtain ⟨f0, f1, f2, f3, f4, f5⟩ := I3.fpOk (Nat.le_refl _) gone
      exact ⟨.ref D, H5, back.turned (t' := s6.toks) (fun b o hb e => (only.2 b hb).trans e) f0 f1 f3 f4 f5, rfl, last⟩
    · refine thnF (T.item (blkB X s3 H3 scope ce fp B) rfl rfl rfl calm i [] s5 _ H5 (fun _ _ => False) I5 (still I5 none5) walk5 go) fun r s6 ⟨u, er, run6⟩ => ?_
      subst er
      refine thnF run6 fun _ s7 ⟨x, H7, I7, rx, yl, walk7, none7⟩ => ?_
      have pinned := I7.pinned (still I7 none7) (T.obj _ _ walk7)
      refine thnF (goes.run _ s7 _ H7 x u _ pinned rx (step x H7 yl)) fun _ s8 ⟨σ8, H8, I8, same8, q8⟩ => ?_
      refine thnF ((pts_nil (X := blkB X s3 H3 scope ce fp B)).run _ s8 σ8 H8 _ I8 q8) fun b s9 ⟨H9, I9, q9⟩ => ?_
      have done : ∀ {s' : Shared} {H' : Hp}, Inv (blkB X s3 H3 scope ce fp B) ([] ++ pinsAt fp s7.heap) σ8 H' s' → Nx H' → ∃ m, m < n ∧ ∃ i H', Inv (blkB X s3 H3 scope ce fp B) [] (wipe σ (own.map (·.2))) H' s' ∧ tn i s'.heap ∧ (∀ b ∈ fp, H' b = none) ∧ W i m H' := fun {s' H'} I' nx => by
        obtain ⟨m', lt, w'⟩ := next H' nx
        have pin' : ∀ b ∈ fp, ∀ o, s7.heap.get? b = some o → s'.heap.get? b = some o ∧ H' b = none := fun b hb o e => ⟨(I'.pin (b, o) (List.mem_append_right _ (List.mem_append_right _ (mem_pinsAt hb e)))).1, (I'.pin (b, o) (List.mem_append_right _ (List.mem_append_right _ (mem_pinsAt hb e)))).2.1⟩
        refine ⟨m', lt, i + 1, H', (I'.unpinned (pins := [])).weak (by rw [← same8, wipe_length]) (fun j v e => (wipe_some (by rw [same8]; exact e)).1), T.keep _ _ _ walk7 fun b hb o e => (pin' b hb o e).1, fun b hb => ?_, w'⟩
        obtain ⟨o, e, _⟩ := T.obj _ _ walk7 b hb
        exact (pin' b hb o e).2
      cases b with
      | false =>
        rw [if_neg Bool.false_ne_true] at q9 ⊢
        exact done I9 q9
      | true =>
        rw [if_pos rfl] at q9 ⊢
        refine thnF (elem.run _ s9 σ8 H9 _ I9 q9) fun z s10 ⟨yv, H10, I10, ry, acc, atD, short, nx⟩ => ?_
        exact app_ok (X := blkB X s3 H3 scope ce fp B) I10 atD short ry fun s11 I11 => done I11 nx
  exact codeAny_compStart_list loop (T.self X.A 0 _ _ _ walk4 loop)
end
/-- x(e, ..), x a global def that may call the maker's lambdas -/
def tGlB (X : Cx) (E : XK) (x : Str) (t : TA) : TE := fun σ H Q => ∃ a, X.mg x = some (.ref a) ∧ PySem.W.keepIn X.K (.ref a) = true ∧ t σ H fun vs H1 => ∀ B, CellsB X σ B → ∃ k sp, FnR X.prog X.w X.K X.mg B (L2.CX X.prog X.w) k a sp ∧ Room k X.A ∧ sp vs H1 Q E
theorem pe_glB {X : Cx} {E : XK} {x : Str} {e : Expr} {es : List Expr} {t : TA} {p pos : Pos} (h : Pas X E) (hfn : ∀ x, X.fn x = true) (hg : Gl X x) (ha : PA X (e :: es) t) (hdb : (x == ("__debug__" : Str)) = false := by decide) (he : starEach (e :: es) X.env = (false, eval e X.env) :: starEach es X.env := by rfl)
    (hpl : (backTo pos (starEach es X.env)).any (·.1) = false := by rfl) : PE X (.Call (.Name x p) (e :: es) [] pos) (tGlB X E x t) := by
  refine ⟨fun pins s σ H Q I ⟨f, hm, hk, q⟩ => ?_⟩
  refine wpAny_Call_Name_kw (ld_glob I hg hm ?_ hdb)
  refine PySem.W.callWith_K (h₀ := X.base) I.ok.mod.kin hk (thn (ha.run pos pins s σ H _ I q) fun us s1 ⟨vs, H1, I1, r1, go⟩ => ⟨I1.kIn, ?_⟩) he hpl
  obtain ⟨k, sp, F, hr, q1⟩ := go _ (cells_sub I1 (cells_nofr I1 hfn))
  refine wpAny_call (codeAny_mono (F X.A X.stack s1 H1 us vs Q E hr (env0_sub I1) r1 q1) fun r s' hq => ?_)
  match r, hq with
  | .error e, hq => exact h pins σ H1 s1 e s' I1 hq
  | .ok (.ret u), hq => exact I1.after hq
/-- a def of which the code object is known -/
theorem okXC {P : Program} {w : World} {K : PySem.W.Frag} {mg : Str → Option Value} {base : Heap} {x qual : Str} {st : Stmt} {f : Addr} {fd : FuncData} {N ps : List Str} {k : Nat} {sp : Sp} {cv : Value} (F : Fun K x qual st f fd) (hc : fd.code = cv) (S : FnScope N ps (defScope st)) (len : ∀ vs H Q E, sp vs H Q E → vs.length = ps.length)
    (hbody : ∀ (A : Around) (outer : List Env) (s : Shared) (H : Hp) (vs : List V) (Q : VK) (E : XK), Room k (A.deeper (envOfC qual (defScope st) s.heap.objs.size f cv)) → sp vs H Q E →
      ∃ t, PSs (cxOf (L2.CX P w) P w K mg base N qual (defScope st) f cv A outer s H E) (defBody st) t ∧ t { nx := fun _ H' => Q .non H', rt := Q } (start N vs) H) : FnOk P w K mg base (L2.CX P w) (k + 1) f fd ps sp := by
  obtain ⟨oc, od, kV, doc, pm, an, cdv, ct, osl, rfl, lk, hcd⟩ := F.ex
  have e : cdv = cv := hc
  subst e
  exact fn_of lk hcd S len fun A outer s H vs Q E hr hsp => hbody A outer s H vs Q E hr hsp
end Odd

namespace Odd
open PySem PySem.Spec PyProof.Rows L2 LamX NdefX
abbrev rb (X : Cx) (B : Heap) : Cx := { X with base := B }
/-! ### checks -/
def capB (sc scope : Scope) (N fr : List Str) (js : List Nat) : Bool :=
  scope.names.all (fun y => !decide (y.2 = .free) || decide (sc.names.lookup y.1 = some .cell)) && fr.all (fun y => decide ((y, NameKind.free) ∈ scope.names)) && decide (js.map (fun j => N[j]?) = fr.map some)
theorem cells_by {X : Cx} {σ : L2.St} {B : Heap} {scope : Scope} {fr : List Str} {js : List Nat} (C : CellsB X σ B) (h : capB X.env.scope scope X.N fr js = true) : CellsL (cloFrom X.env.cells scope.names []) fr (js.map (slV σ)) B := by
  unfold capB at h
  simp only [Bool.and_eq_true, List.all_eq_true, Bool.or_eq_true, Bool.not_eq_true', decide_eq_true_eq, decide_eq_false_iff_not] at h
  exact cells_of C (fun y hy e => ((h.1.1 y hy).elim (fun z => absurd e z) id)) (fun y hy => h.1.2 y hy) h.2
/-- a lambda of X's called, at a heap where the maker's cells are in the base -/
theorem lam_go {X : Cx} {σ : L2.St} {B : Heap} {params : Arguments} {scope : Scope} {bd : Expr} {dV : Value} {c' f : Addr} {H : Hp} {Q : VK} {E : XK} {k : Nat} {vs : List V} (N ps fr : List Str) (js : List Nat) (ws : List (Option V)) (C : CellsB X σ B) (cap : capB X.env.scope scope X.N fr js = true) (S : nscB N ps fr scope = true)
    (hf : H f = some (LamO f (lamNF X params scope c') bd dV)) (hc : H c' = some (CodeO c' (X.env.qual ++ "<lambda>"))) (hl : vs.length = ps.length) (hw : js.map (slV σ) = ws)
    (hb : ∀ (s : Shared) (doc pm ctv : Value), HOk X.prog X.w H s.heap → ∃ us, Vals vs us ∧ BindsTo s (PySem.W.kdv_fn "<lambda>" (X.env.qual ++ "<lambda>") params (.expr bd) scope (cloFrom X.env.cells scope.names []) dV doc pm (.ref c') ctv) ⟨[], []⟩ (ps.zip us))
    (hbody : ∀ (A : Around) (outer : List Env) (s : Shared), Room k (A.deeper (envF (lamNF X params scope c') f s.heap.objs.size)) → ∃ tb, PE (ncx (L2.CX X.prog X.w) X.prog X.w X.K X.mg B N (lamNF X params scope c') f A outer s H E) bd tb ∧ tb (startF N vs ws) H Q) :
    CallAt X.prog X.w X.K X.mg B (k + 1) f H Q E := by
  subst hw
  exact lam_callAt (F := lamNF X params scope c') (nscope_by S) hf hc hl (cells_by C cap) hb hbody
/-! ### exceptions' classes, code objects -/
theorem exm_of {K : PySem.W.Frag} {C1 C2 : Addr} {b : Bool} (h1 : PySem.W.subIn K (.ref C2) (.type "BaseException") = some true) (h2 : PySem.W.typeIn K (.ref C2) = some (.type "type")) (h3 : PySem.W.isClsIn K C2 = true) (h4 : PySem.W.subIn K (.ref C1) (.ref C2) = some b) : PySem.W.exmOne K (.ref C1) (.ref C2) = some b := by
  have h3 : (PySem.W.clsIn K C2).isSome = true := h3
  unfold PySem.W.exmOne PySem.W.kitCls
  rw [h1, if_pos (by simp)]
  show (if ((PySem.W.clsIn K C2).isSome && PySem.W.typeIn K (.ref C2) == some (.type "type")) = true then PySem.W.subIn K (.ref C1) (.ref C2) else none) = some b
  rw [h3, h2]
  rw [if_pos (by simp)]
  exact h4
def hdOk (vs : Array Value) (c P : Addr) : Bool :=
  (match (vs[11]? : Option Value) with | some (.ref P') => P' == P | _ => false) && (match vs.getD 18 .none with | .str _ _ => true | _ => false) && (match vs.getD 7 .none with | .int _ _ => true | _ => false) &&
    (match vs.getD 9 .none with | .bool _ => true | _ => false) && (match vs.getD 10 .none with | .int _ _ => true | _ => false) && c != P
theorem hd_of {K : PySem.W.Frag} {c P : Addr} {od : Option Addr} {vs : Array Value} {sl : Array (Option Value)} (h : K.lookup c = some ⟨.type "code", od, .fields vs, sl⟩) (e : hdOk vs c P = true) : PySem.W.codeHdIn K c P = true := by
  unfold PySem.W.codeHdIn
  rw [h]
  exact e
/-! ### tables kept -/
theorem tabs_same {T : List (Addr × Str)} {H H' : Hp} (t : Tabs T H) (s : Same H H') : Tabs T H' := t.ext s
theorem tabs_b {T : List (Addr × Str)} {H H' : Hp} {st : Addr} {l : List V} (t : Tabs T H) (s : SameB (· = st) H H') (h : H st = some (.lst l)) : Tabs T H' := fun p hp => by
  obtain ⟨ps, h1, h2, h3⟩ := t p hp
  have up : ∀ b o, H b = some o → (∀ l, o ≠ .lst l) → H' b = some o := fun b o e n => s b o (fun z => by rw [z, h] at e; exact n l (Option.some.inj e).symm) e
  refine ⟨ps, up _ _ h1 (fun l z => by cases z), h2, fun pos cv hc => ?_⟩
  obtain ⟨c, e1, e2⟩ := h3 pos cv hc
  exact ⟨c, e1, up _ _ e2 fun l z => by unfold CodeO at z; cases z⟩
/-- all but tables kept -/
theorem ExtN.o {H H' : Hp} (e : ExtN H H') {b : Addr} {o : HO} (h : H b = some o) (n : ∀ ps, o ≠ .tbl ps) : H' b = some o := e b o h n
/-! ### the try -/
theorem w_try {X : Cx} {i k : Nat} {W : WX} {σ : L2.St} {H : Hp} {D : Ends} {f : Addr} {F : NF} {bd : Expr} {dV : Value} {Ef : XK} (hs : σ[i]? = some (some (.ref f))) (hf : H f = some (LamO f F bd dV)) (hc : CallAt X.prog X.w X.K X.mg X.base k f H D.rt Ef) (hW : ∀ cls d (σ' : L2.St) H', Ef cls d H' → W cls d σ' H') (hr : Room k X.A) :
    tRet (tAct X i k W) D σ H := ⟨f, F, bd, dV, Ef, hs, hf, hc, hW, hr⟩
/-! ### the comprehension's items -/
section
variable {X : Cx} {K : PySem.W.Frag} {te : Heap → TE} {vs : List Nat} {σ : L2.St} {H : Hp} {Q : VK} {a : Addr} {xs : List V} {j : Nat}
/-- over a list: items that are new objects -/
theorem c_listB (S : Addr → Prop) (Pv : Nat → List V → Hp → Prop) (hS : ∀ b, S b → H b ≠ none) (h0 : ∀ D, H D = none → Pv 0 [] (upd H D (.lst []))) (hz : ∀ i o H', i < xs.length → Pv i o H' → o.length < 100000) (hx : ∀ H', SameB S H H' → SqL K H' a xs)
    (hD : ∀ i o H' D l l', H D = none → H' D = some (.lst l) → Pv i o H' → Pv i o (upd H' D (.lst l'))) (hw : ∀ x, wipe ((wipe σ vs).set j (some x)) vs = wipe σ vs)
    (turn : ∀ B, CellsB X σ B → ∀ i x H' o, xs[i]? = some x → SameB S H H' → Pv i o H' → ∀ R : VK, (∀ y H4, SameB S H' H4 → Pv (i + 1) (o ++ [y]) H4 → R y H4) → te B ((wipe σ vs).set j (some x)) H' R)
    (q : ∀ p o H', H p = none → SameB S H H' → Pv xs.length o H' → H' p = some (.lst o) → Q (.ref p) H')
    {tl : TE} (ht : ∀ R : VK, R (.ref a) H → tl σ H R) : tLcB X (iSeq K tl) (gName j) te vs σ H Q :=
  ht _ ⟨a, rfl, .inl ⟨⟨xs, hx H (SameB.refl H)⟩, fun B hB => c_walkI S Pv walk_listS hS h0 hz hx hD (fun i x H1 H' o hi s p y R k => by
    obtain ⟨e1, e2⟩ := y
    subst e1
    exact k _ (hw x) (SameB.refl _) (turnI_map (turn B hB i x _ o e2 s p))) q⟩⟩
end
/-! ### a row of outcomes -/
section
variable {X : Cx} {K : PySem.W.Frag} {te : Heap → TE} {vs : List Nat} {σ : L2.St} {H : Hp} {Q : VK} {l : Addr} {j : Nat} {fs : List Addr} {nm : Str}
theorem c_outs (nm : Str) (hl : H l = some (.lst (fs.map V.ref))) (hn : fs.length ≤ 1000)
    (turn : ∀ B, CellsB X σ B → ∀ (i : Nat) (f : Addr) (H' : Hp), fs[i]? = some f → Same H H' → ∀ R : VK, (∀ T H'', H'' T = some (.tup [.str nm]) → Same H' H'' → R (.ref T) H'') → te B ((wipe σ vs).set j (some (.ref f))) H' R)
    (q : ∀ p (Ts : List Addr) H', Same H H' → H' p = some (.lst (Ts.map V.ref)) → Ts.length = fs.length → (∀ T ∈ Ts, H' T = some (.tup [.str nm])) → Q (.ref p) H')
    (hw : ∀ x, wipe ((wipe σ vs).set j (some x)) vs = wipe σ vs) {tl : TE} (ht : ∀ R : VK, R (.ref l) H → tl σ H R) : tLcB X (iSeq K tl) (gName j) te vs σ H Q := by
  refine c_listB (a := l) (xs := fs.map V.ref) (fun _ => False) (fun i o H' => ∃ Ts : List Addr, o = Ts.map V.ref ∧ Ts.length = i ∧ ∀ T ∈ Ts, H' T = some (.tup [.str nm])) (fun _ z => z.elim) (fun D hD => ⟨[], rfl, rfl, fun T z => by simp at z⟩) (fun i o H' hi p => ?_) (fun H' s => SqL.of (s _ _ id hl))
    (fun i o H' D l1 l2 hD hd p => ?_) hw (fun B hB i x H' o hx s p R hR => ?_) (fun p o H' hp s pv hL => ?_) ht
  · obtain ⟨Ts, rfl, h, _⟩ := p
    rw [List.length_map] at hi ⊢
    omega
  · obtain ⟨Ts, rfl, h, hT⟩ := p
    exact ⟨Ts, rfl, h, fun T m => by rw [upd_ne (fun z => by have e := hT T m; rw [z, hd] at e; cases e)]; exact hT T m⟩
  · rw [List.getElem?_map] at hx
    cases e : fs[i]? with
    | none => rw [e] at hx; cases hx
    | some f =>
      rw [e] at hx
      cases hx
      obtain ⟨Ts, rfl, h, hT⟩ := p
      refine turn B hB i f H' e (fun b o eb => s b o id eb) R fun T H'' eT s2 => hR _ _ (Same.b s2) ⟨Ts ++ [T], by rw [List.map_append]; rfl, by rw [List.length_append, h]; rfl, fun T' m => ?_⟩
      rcases List.mem_append.1 m with m | m
      · exact s2 _ _ (hT T' m)
      · rw [List.mem_singleton.1 m]
        exact eT
  · obtain ⟨Ts, rfl, h, hT⟩ := pv
    exact q p Ts H' (fun b o eb => s b o id eb) hL (by rw [h, List.length_map]) hT
theorem dp_outs {Ts : List Addr} {p : Addr} (hp : H p = some (.lst (Ts.map V.ref))) (hT : ∀ T ∈ Ts, H T = some (.tup [.str nm])) : Dp K H (.ref p) (.list (List.replicate Ts.length (.tuple [.str nm]))) := by
  refine .lst (SqL.of hp) ?_
  clear hp
  induction Ts with
  | nil => exact .nil
  | cons T Ts ih => exact .cons (.tup (SqT.of (hT T (List.mem_cons_self ..))) (.cons (.str nm) .nil)) (ih fun T' m => hT T' (List.mem_cons_of_mem _ m))
end
theorem keepN {H H' : Hp} (s : Same H H') : ExtN H H' := fun b o e _ => s b o e
end Odd

namespace Odd
open PySem PySem.SeqAt
open AutoSeq1 (wpAny_loadPart')
open MeetsSeq MeetsSeq2 MeetsSeq3 SeqRoads2
/-! ### (x, i) != (y, j), x and y own instances -/
theorem pair_ne {prog : Program} {w : World} {A : Around} {R : Result → Shared → Prop} (l b : Addr) (x1 x2 y1 y2 : Value) (n n2 : Nat) (dd dd2 : Option Addr) (sl sl2 : Array (Option Value)) (k2 : Bool) (J : Bool → Shared → Prop) {s : Shared}
    (h1 : wpAny (model prog w) A.in1 (eqBool x1 y1) J (fun e s' => R (.error e) s') s) (h2 : ∀ s', J true s' → EqAt A.in1 s' x2 y2 k2) (f1 : ∀ s', J false s' → R (.ok (.ret (.bool true))) s') (f2 : ∀ s', J true s' → R (.ok (.ret (.bool (!k2)))) s')
    (hl : s.heap.get? l = some { cls := .type "tuple", dict := dd, data := .seq #[x1, x2] n, slots := sl }) (hb : s.heap.get? b = some { cls := .type "tuple", dict := dd2, data := .seq #[y1, y2] n2, slots := sl2 }) :
    wpAny (model prog w) A.in1 (Builtin.«tuple.__ne__» ⟨[.ref l, .ref b], []⟩) (GQ.FinOf prog w A R) (fun e s' => R (.error e) s') s := by
  have sub := AutoSeq1.sub_tuple_tuple
  obtain ⟨hp, g, d, tk, os⟩ := s
  wp_walk using wpAny_loadPart' hl, wpAny_loadPart' hb, wpAny_forIn_list _ (fun rest b s' => b.1 = none ∧ ((rest = [(x1, y1), (x2, y2)] ∧ s' = ⟨hp, g, d, tk, os⟩) ∨ (rest = [(x2, y2)] ∧ J true s') ∨ (rest = [] ∧ k2 = true ∧ J true s'))) _
  case turn =>
    rintro ⟨u, v⟩ rest b s' ⟨hb', hc⟩
    rcases hc with ⟨hr, rfl⟩ | ⟨hr, hJ⟩ | ⟨hr, _⟩
    · injection hr with hx hr
      cases hx
      refine wpAny_bind (wpAny_mono h1 (fun r s2 hJ => ?_) fun _ _ z => z)
      cases r with
      | true =>
        obtain ⟨hp2, g2, d2, tk2, os2⟩ := s2
        wp_walk
        exact ⟨rfl, .inr (.inl ⟨hr, hJ⟩)⟩
      | false =>
        have q := f1 _ hJ
        obtain ⟨hp2, g2, d2, tk2, os2⟩ := s2
        wp_walk
        exact q
    · injection hr with hx hr
      cases hx
      refine wpAny_bind (h2 s' hJ prog w _ _ ?_)
      cases k2 with
      | true =>
        obtain ⟨hp2, g2, d2, tk2, os2⟩ := s'
        wp_walk
        exact ⟨rfl, .inr (.inr ⟨hr, rfl, hJ⟩)⟩
      | false =>
        have q := f2 _ hJ
        obtain ⟨hp2, g2, d2, tk2, os2⟩ := s'
        wp_walk
        exact q
    · cases hr
  case fin =>
    rintro ⟨b1, b2⟩ s' ⟨hb', hc⟩
    simp only at hb'
    subst hb'
    rcases hc with ⟨hr, _⟩ | ⟨hr, _⟩ | ⟨_, hk, hJ⟩
    · cases hr
    · cases hr
    · have q := f2 _ hJ
      rw [hk] at q
      obtain ⟨hp2, g2, d2, tk2, os2⟩ := s'
      wp_walk
      simpa [Builtin.Tuple.tupleCompareSizes] using q
  case h =>
    exact ⟨rfl, .inl ⟨rfl, rfl⟩⟩
end Odd
namespace Odd
open PySem PySem.Spec PyProof.Rows L2
section
variable {X : Cx} {CX : CXT} {E : XK} {n : Nat} {g C : Addr} {sp : Sp}
def rNePair (K : PySem.W.Frag) (C : Addr) (sp : Sp) (E : XK) : R2 := fun x y H Q => ∃ (T1 T2 r1 r2 : Addr) (i j : Int) (dx dy : Addr) (fs gs : List (Str × V)), x = .ref T1 ∧ y = .ref T2 ∧ SqT K H T1 [.ref r1, .int i] ∧ SqT K H T2 [.ref r2, .int j] ∧ H r1 = some (.ins C dx fs) ∧ H r2 = some (.ins C dy gs) ∧
  (r1 = r2 → Q (.bl (!decide (i = j))) H) ∧ (r1 ≠ r2 → sp [.ref r1, .ref r2] H (fun z H' => ∃ k, z = .bl k ∧ Q (.bl (!(k && decide (i = j)))) H') E)
theorem op_nePair (hs : PySem.W.findIn X.K (.ref C) "__eq__" = some (some (.ref g))) (hf : PySem.W.isFn X.K (.ref g) = true) (F : FnR X.prog X.w X.K X.mg X.base CX n g sp) (hr : Room (n + 1) X.A) (hx : Passes CX X E) : OpR X (compareOp .NotEq) (rNePair X.K C sp E) := by
  intro pins s σ H x y v u Q I rx ry h
  obtain ⟨T1, T2, r1, r2, i, j, dx, dy, fs, gs, rfl, rfl, h1, h2, ha, hb, q0, q⟩ := h
  cases (show v = Value.ref T1 from rx)
  cases (show u = Value.ref T2 from ry)
  obtain ⟨its1, rv1, p1, _⟩ := I.tuple h1
  obtain ⟨its2, rv2, p2, _⟩ := I.tuple h2
  obtain ⟨u1, u2, rfl, ru1, ru2⟩ := vals2 rv1
  obtain ⟨w1, w2, rfl, rw1, rw2⟩ := vals2 rv2
  obtain rfl : u1 = Value.ref r1 := ru1
  obtain rfl : w1 = Value.ref r2 := rw1
  obtain ⟨ti, rfl⟩ := (show ∃ t, u2 = Value.int i t from ru2)
  obtain ⟨tj, rfl⟩ := (show ∃ t, w2 = Value.int j t from rw2)
  obtain ⟨⟨cls, dd, data, sl⟩, ho, hc, m, hd⟩ := id p1
  obtain ⟨⟨cls2, dd2, data2, sl2⟩, ho2, hc2, m2, hd2⟩ := id p2
  simp only at hc hd hc2 hd2
  subst hc hd hc2 hd2
  have hu : X.A.units < cLine := hr.units0
  refine wpAny_richCompare_same_room (op := .NotEq) ⟨_, ho, rfl⟩ ⟨_, ho2, rfl⟩ PySem.F.slot_tuple_ne (GQ.call_here PySem.F.slot_tuple_ne ⟨_, ho, rfl⟩ PySem.F.entry_tuple_ne (PySem.F.args_tuple_ne_2 _ _) ?_) hu
  refine pair_ne (R := wants (fun v s' => v ≠ .notImplemented ∧ EP X pins σ Q v s') X.xe) T1 T2 (.ref r1) (.int i ti) (.ref r2) (.int j tj) m m2 dd dd2 sl sl2 (decide (i = j)) (fun k s' => ∃ H', Inv X pins σ H' s' ∧ Q (.bl (!(k && decide (i = j)))) H') ?_ (fun s' _ => ?_) (fun s' ⟨H', I', q'⟩ => ?_) (fun s' ⟨H', I', q'⟩ => ?_) ho ho2
  · by_cases hne : r1 = r2
    · subst hne
      exact SeqAt.EqAt.same (A := X.A.in1) (s := s) (.ref r1) X.prog X.w _ _ ⟨H, I, by simpa using q0 rfl⟩
    have q := q hne
    obtain ⟨ox, od, J⟩ := inst_at I ha
    obtain ⟨oy, od', J'⟩ := inst_at I hb
    obtain ⟨mm, hF⟩ := I.fr
    refine GQ.eqBool_refG hne (PySem.W.cmp_K (op := .Eq) (tb := .ref C) hr.in1.units0 hF I.ok.mod.kin J J'.type (by simp [PySem.W.notFirst]) hs hf (wpAny_mono (call_in1 (vs := [.ref r1, .ref r2]) F hr hx I (.cons rfl (.cons rfl .nil)) q) (fun z s' zz => ?_) fun _ _ e => e))
    obtain ⟨v', H', I', rz, k, rfl, qz⟩ := zz
    cases rz
    exact ⟨k, rfl, H', I', qz⟩
  · rw [show decide (i = j) = (i == j) by by_cases h : i = j <;> simp [h]]
    exact SeqAt.EqAt.int_int i ti j tj
  · exact ⟨(fun x => nomatch x), .bl true, H', I', rfl, q'⟩
  · exact ⟨(fun x => nomatch x), .bl (!decide (i = j)), H', I', rfl, by simpa using q'⟩
end
theorem s_nePair {X0 : Cx} {E : XK} {H : Hp} {Q : VK} {k : Nat} {C g T1 T2 r1 r2 dx dy : Addr} {i j : Int} {fs gs : List (Str × V)} {sp : Sp} (M : Meth X0.K C "__eq__" g) (F : Fn X0 k g sp) (hr : Room (k + 1) X0.A) (h1 : SqT X0.K H T1 [.ref r1, .int i]) (h2 : SqT X0.K H T2 [.ref r2, .int j]) (ha : H r1 = some (.ins C dx fs)) (hb : H r2 = some (.ins C dy gs))
    (q0 : r1 = r2 → Q (.bl (!decide (i = j))) H) (q : r1 ≠ r2 → sp [.ref r1, .ref r2] H (fun z H' => ∃ k, z = .bl k ∧ Q (.bl (!(k && decide (i = j)))) H') E) : ∃ r, OpD X0 E (compareOp .NotEq) r ∧ r (.ref T1) (.ref T2) H Q :=
  ⟨rNePair X0.K C sp E, fun X l h => by rw [← l.K]; exact op_nePair (by rw [l.K]; exact M.at_) (by rw [l.K]; exact M.fn) (l.fn F) (l.room hr) h, T1, T2, r1, r2, i, j, dx, dy, fs, gs, rfl, rfl, h1, h2, ha, hb, q0, q⟩
end Odd

namespace GBT
open PySem PyProof.Rows
open PySem.Sem (wp)
theorem meets_bool_tup (l : Addr) (items : Array Value) (hfit : (items.size : Int) < 2 ^ 63) :
    Meets (Builtin.«bool.__new__» ⟨[.type "bool", .ref l], []⟩) (fun _ R s => IsTup s.heap l items ∧ R (.ok (.ret (.bool (!items.isEmpty)))) { s with toks := s.toks + 1 + 1 }) :=
  Meets.of_wp fun prog w A R s hs => by
    obtain ⟨hl, hs⟩ := hs
    obtain ⟨hp, g, d, tk, os⟩ := s
    have f1 := F.conv_sub_bool
    repeat (any_goals (first | assumption | (with_reducible refine truthy_tuple hl hfit ?_) | wp_step))
    all_goals first | exact ⟨_, rfl, hs⟩ | exact hs | skip
theorem call_bool_tup {prog : Program} {w : World} {A : Around} {E : Value → Shared → Prop} {s : Shared} {l : Addr} {items : Array Value} {Q : Value → Shared → Prop} (hfit : (items.size : Int) < 2 ^ 63) (hl : IsTup s.heap l items)
    (h : Q (.bool (!items.isEmpty)) { s with toks := s.toks + 1 + 1 }) : wpAny (model prog w) A (call (.type "bool") [.ref l]) Q E s :=
  call_bool_1 (meets_bool_tup l items hfit) ⟨hl, rfl, h⟩
end GBT
namespace Odd
open PySem PySem.Spec PyProof.Rows L2
section
variable {X : Cx} {CX : CXT} {E : XK} {n : Nat} {g C : Addr} {sp : Sp}
/-- the truth of an own instance, by its own method -/
def rTruO (C : Addr) (sp : Sp) (E : XK) : V → Hp → (Bool → Hp → Prop) → Prop := fun x H Q => ∃ a dx fs, x = .ref a ∧ H a = some (.ins C dx fs) ∧ sp [x] H (fun z H' => ∃ b, z = .bl b ∧ Q b H') E
theorem tru_own (hs : PySem.W.findIn X.K (.ref C) "__bool__" = some (some (.ref g))) (hf : PySem.W.isFn X.K (.ref g) = true) (F : FnR X.prog X.w X.K X.mg X.base CX n g sp) (hr : Room n X.A) (hx : Passes CX X E) : TruR X (rTruO C sp E) := by
  intro pins s σ H x v Q I rx h
  obtain ⟨a, dx, fs, rfl, ha, q⟩ := h
  cases (show v = Value.ref a from rx)
  obtain ⟨ox, od, J⟩ := inst_at I ha
  unfold truthy
  refine wpAny_bind (PySem.W.special_fn I.kIn J hs (beq_iff_eq.mp hf) (wpAny_mono (call_ref (vs := [.ref a]) F hr hx I (.cons rfl .nil) q) (fun w s' z => ?_) fun _ _ x => x))
  obtain ⟨z', H', I', rz, b, rfl, qz⟩ := z
  cases (show w = Value.bool b from rz)
  exact wpAny_pure ⟨H', I', qz⟩
def rIxK : R2 := fun x y H Q => ∃ p v, x = .ref p ∧ DGet H p y (some v) ∧ Q v H
theorem ix_dict (hu : X.A.units + 1 < cLine) : IxO X rIxK := by
  intro value slice pins s σ H x y v u Q I rx ry h hs _
  obtain ⟨p, z, rfl, g, q⟩ := h
  cases (show v = Value.ref p from rx)
  exact tail_any (dict_typeIs I g) PySem.F.slot_dict_getitem.lookup (d_getItem hu I g ry fun w' s3 I3 rw' => ⟨z, H, I3, rw', q⟩) hs
theorem call_boolT : CallR X (.type "bool") (fun xs H Q => ∃ (a : Addr) (zs : List V), xs = [.ref a] ∧ SqT X.K H a zs ∧ Q (.bl (!zs.isEmpty)) H) := by
  intro pins s σ H xs us Q I r h
  obtain ⟨a, zs, rfl, hq, q⟩ := h
  obtain rfl := Vals.ref1 r
  obtain ⟨its, rv, pl, hz⟩ := I.tuple hq
  have hl := line63
  have hlen := rv.length
  refine GBT.call_bool_tup (by simp only [List.size_toArray]; omega) pl ?_
  exact ⟨.bl (!zs.isEmpty), H, I.tok _, by rw [isEmpty_of rv]; rfl, q⟩
end
/-- an attribute within a comprehension: pe_atA's last argument stood in the way of the kind of the whole -/
theorem pe_atB {X0 X : Cx} {E : XK} {e : Expr} {te : TE} {f : Str} {pos : Pos} (l : Like X0 X) (h : Pas X E) (he : PE X e te) (hb : ∀ m, attributeBase e f X.env m = m := by exact fun _ => rfl) : PE X (.Attribute e f pos) (tAtA X0 E f te) := pe_atA l h he (hb _)
theorem hu1 {k : Nat} {A : Around} (hr : Room k A) : A.units + 1 < cLine := by
  have := hr.units
  omega
section
variable {X0 : Cx} {E : XK} {H : Hp} {Q : VK}
theorem s_truO {k : Nat} {C g a dx : Addr} {fs : List (Str × V)} {sp : Sp} {QB : Bool → Hp → Prop} (M : Meth X0.K C "__bool__" g) (F : Fn X0 k g sp) (hr : Room k X0.A) (ha : H a = some (.ins C dx fs)) (q : sp [.ref a] H (fun z H' => ∃ b, z = .bl b ∧ QB b H') E) : ∃ r, TrD X0 E r ∧ r (.ref a) H QB :=
  ⟨rTruO C sp E, fun X l h => tru_own (by rw [l.K]; exact M.at_) (by rw [l.K]; exact M.fn) (l.fn F) (l.room hr) h, a, dx, fs, rfl, ha, q⟩
theorem s_ixK {k : Nat} {p : Addr} {kvs : List (Key × V)} {i : Int} {v : V} (hr : Room k X0.A) (h : H p = some (.dK kvs)) (e : valV kvs (.inl i) = some v) (q : Q v H) : ∃ r, IxD X0 E r ∧ r (.ref p) (.int i) H Q :=
  ⟨rIxK, fun X l _ => ix_dict (hu1 (l.room hr)), p, v, rfl, by rw [← e]; exact DGet.k (k := .inl i) h, q⟩
theorem s_boolT {p : Addr} {xs : List V} (h : SqT X0.K H p xs) (q : Q (.bl (!xs.isEmpty)) H) : ∃ r, CaD X0 E (.type "bool") r ∧ r [.ref p] H Q :=
  ⟨fun vs H Q => ∃ (a : Addr) (zs : List V), vs = [.ref a] ∧ SqT X0.K H a zs ∧ Q (.bl (!zs.isEmpty)) H, fun X l _ => by rw [← l.K]; exact call_boolT, p, xs, rfl, h, q⟩
theorem s_divmod {i j : Int} (h1 : 0 < j) (h2 : j < 1073741824) (q : ∀ p, H p = none → Q (.ref p) (upd H p (.tup [.int (i / j), .int (i % j)]))) : ∃ r, CaD X0 E (.builtin "divmod") r ∧ r [.int i, .int j] H Q :=
  ⟨_, fun X _ _ => call_divmod, i, j, rfl, ⟨h1, h2⟩, q⟩
end
section
variable {X0 X : Cx} {E : XK}
/-- o.m(e, ..), an own method -/
theorem pe_meA {o e : Expr} {es : List Expr} {ta : TE} {t : TA} {m : Str} {pos apos : Pos} {pl : Sem Bool} (l : Like X0 X) (h : Pas X E) (he : PE X o ta) (ha : PA X (e :: es) t)
    (hst : starEach (e :: es) X.env = (false, eval e X.env) :: starEach es X.env := by rfl) (hpl : (backTo pos (starEach es X.env)).any (·.1) = false := by rfl)
    (ht : eval (.Call (.Attribute o m apos) (e :: es) [] pos) X.env = (do
      let ov ← eval o X.env
      standAt apos.atName
      let (f, first) ← holding [ov] (getMethod ov m pl)
      callWith pos f first (backTo pos (starEach (e :: es) X.env)) (backToKw pos (keywordEach [] X.env))) := by rfl) :
    PE X (.Call (.Attribute o m apos) (e :: es) [] pos) (tMeA X0 E m ta t) := by
  refine ⟨fun pins s σ H Q I hq => ?_⟩
  refine PySem.W.methodCall_KW (pl := pl) (thn (he.run pins s σ H _ I hq) fun u s1 ⟨x, H1, I1, rx, a, C, dx, fs, g, ex, ea, c, hm, hk, lk, q⟩ => ?_) ht
  subst ex
  obtain rfl : u = Value.ref a := rx
  rw [← l.K] at c hm hk
  refine getmeth_ok I1 ea c hm lk ?_
  refine PySem.W.callWith_K (first := [.ref a]) (h₀ := X.base) I.ok.mod.kin hm.kp (thn (ha.run pos pins s1 σ H1 _ I1 q) fun us s2 ⟨vs, H2, I2, r, r', hr, q2⟩ => ⟨I2.kIn, ?_⟩) hst hpl
  exact hr X l h pins s2 σ H2 (.ref a :: vs) (.ref a :: us) Q I2 (.cons rfl r) q2
theorem w_meA {m : Str} {ta : TE} {t : TA} {σ : L2.St} {H : Hp} {Q : VK} (h : ta σ H fun x H1 => ∃ a C dx fs g, x = .ref a ∧ H1 a = some (.ins C dx fs) ∧ Cls X0.K C ∧ Meth X0.K C m g ∧ PySem.W.keepIn X0.K (.ref g) = true ∧ fs.lookup m = none ∧
  t σ H1 fun vs H2 => ∃ r, CaD X0 E (.ref g) r ∧ r (x :: vs) H2 Q) : tMeA X0 E m ta t σ H Q := h
end
/-! ### a row of outcomes of several names -/
section
variable {X : Cx} {K : PySem.W.Frag} {te : Heap → TE} {vs : List Nat} {σ : L2.St} {H : Hp} {Q : VK} {l : Addr} {j : Nat} {fs : List Addr}
theorem c_outsL (nms : List Str) (hnl : nms.length = fs.length) (hl : H l = some (.lst (fs.map V.ref))) (hn : fs.length ≤ 1000)
    (turn : ∀ B, CellsB X σ B → ∀ (i : Nat) (f : Addr) (nm : Str) (H' : Hp), fs[i]? = some f → nms[i]? = some nm → Same H H' → ∀ R : VK, (∀ T H'', H'' T = some (.tup [.str nm]) → Same H' H'' → R (.ref T) H'') → te B ((wipe σ vs).set j (some (.ref f))) H' R)
    (q : ∀ p (Ts : List Addr) H', Same H H' → H' p = some (.lst (Ts.map V.ref)) → Ts.length = nms.length → (∀ (i : Nat) T nm, Ts[i]? = some T → nms[i]? = some nm → H' T = some (.tup [.str nm])) → Q (.ref p) H')
    (hw : ∀ x, wipe ((wipe σ vs).set j (some x)) vs = wipe σ vs) {tl : TE} (ht : ∀ R : VK, R (.ref l) H → tl σ H R) : tLcB X (iSeq K tl) (gName j) te vs σ H Q := by
  refine c_listB (a := l) (xs := fs.map V.ref) (fun _ => False) (fun i o H' => ∃ Ts : List Addr, o = Ts.map V.ref ∧ Ts.length = i ∧ ∀ (k : Nat) T nm, Ts[k]? = some T → nms[k]? = some nm → H' T = some (.tup [.str nm])) (fun _ z => z.elim) (fun D hD => ⟨[], rfl, rfl, fun k T nm z => by simp at z⟩) (fun i o H' hi p => ?_) (fun H' s => SqL.of (s _ _ id hl))
    (fun i o H' D l1 l2 hD hd p => ?_) hw (fun B hB i x H' o hx s p R hR => ?_) (fun p o H' hp s pv hL => ?_) ht
  · obtain ⟨Ts, rfl, h, _⟩ := p
    rw [List.length_map] at hi ⊢
    omega
  · obtain ⟨Ts, rfl, h, hT⟩ := p
    by_cases hD2 : D ∈ Ts
    · obtain ⟨k, ek⟩ := List.mem_iff_getElem?.1 hD2
      obtain ⟨hk, _⟩ := List.getElem?_eq_some_iff.1 ek
      refine ⟨Ts, rfl, h, fun k' T nm e1 e2 => ?_⟩
      rw [upd_ne (fun z => by have e := hT k' T nm e1 e2; rw [z, hd] at e; cases e)]
      exact hT k' T nm e1 e2
    · exact ⟨Ts, rfl, h, fun k' T nm e1 e2 => by rw [upd_ne (fun z => by have e := hT k' T nm e1 e2; rw [z, hd] at e; cases e)]; exact hT k' T nm e1 e2⟩
  · rw [List.getElem?_map] at hx
    cases e : fs[i]? with
    | none => rw [e] at hx; cases hx
    | some f =>
      rw [e] at hx
      cases hx
      obtain ⟨hif, _⟩ := List.getElem?_eq_some_iff.1 e
      have en := List.getElem?_eq_getElem (l := nms) (i := i) (by omega)
      obtain ⟨Ts, rfl, h, hT⟩ := p
      refine turn B hB i f _ H' e en (fun b o eb => s b o id eb) R fun T H'' eT s2 => hR _ _ (Same.b s2) ⟨Ts ++ [T], by rw [List.map_append]; rfl, by rw [List.length_append, h]; rfl, fun k T' nm e1 e2 => ?_⟩
      by_cases hk : k < Ts.length
      · rw [List.getElem?_append_left hk] at e1
        exact s2 _ _ (hT k T' nm e1 e2)
      · rw [List.getElem?_append_right (by omega)] at e1
        cases z : k - Ts.length with
        | zero =>
          rw [z] at e1
          cases e1
          have : k = i := by omega
          rw [this, en] at e2
          cases e2
          exact eT
        | succ m => rw [z] at e1; simp at e1
  · obtain ⟨Ts, rfl, h, hT⟩ := pv
    exact q p Ts H' (fun b o eb => s b o id eb) hL (by rw [h, List.length_map, hnl]) hT
theorem dp_outsL {p : Addr} : ∀ {Ts : List Addr} {nms : List Str}, Ts.length = nms.length → (∀ (i : Nat) T nm, Ts[i]? = some T → nms[i]? = some nm → H T = some (.tup [.str nm])) → DpAll K H (Ts.map V.ref) (nms.map fun nm => .tuple [.str nm])
  | [], [], _, _ => .nil
  | [], _ :: _, h, _ => by simp at h
  | _ :: _, [], h, _ => by simp at h
  | T :: Ts, nm :: nms, h, k => .cons (.tup (SqT.of (k 0 T nm rfl rfl)) (.cons (.str nm) .nil)) (dp_outsL (p := p) (by simpa using h) fun i T' n' e1 e2 => k (i + 1) T' n' (by simpa using e1) (by simpa using e2))
end
end Odd

namespace Odd
open PySem PySem.Spec PyProof.Rows L2
/-! ### texts -/
section
variable {X0 : Cx} {E : XK} {H : Hp} {Q : VK} {QB : Bool → Hp → Prop} {i j : Int} {x y : Str}
theorem dec_strV (x y : Str) : decide (V.str x = V.str y) = decide (x = y) := by
  by_cases h : x = y
  · rw [decide_eq_true h, decide_eq_true (by rw [h])]
  · rw [decide_eq_false h, decide_eq_false fun e => h (by injection e)]
theorem s_catS (hz : x.length + y.length ≤ sizeLine) (q : Q (.str (x ++ y)) H) : ∃ r, OpD X0 E (binaryOp .Add) r ∧ r (.str x) (.str y) H Q := ⟨_, fun _ _ _ => op_add_str, x, y, rfl, rfl, hz, q⟩
theorem s_strI (h : i.natAbs.log2 < 1920) (q : Q (.str (toString i)) H) : ∃ r, CaD X0 E (.type "str") r ∧ r [.int i] H Q := ⟨_, fun _ _ _ => call_str_int, i, rfl, h, q⟩
theorem s_intS {n : Int} (h : PySem.intText? x = some n) (hl : x.length ≤ 640) (q : Q (.int n) H) : ∃ r, CaD X0 E (.type "int") r ∧ r [.str x] H Q := ⟨_, fun _ _ _ => call_int_str, x, n, rfl, h, hl, q⟩
theorem s_intI (q : Q (.int i) H) : ∃ r, CaD X0 E (.type "int") r ∧ r [.int i] H Q := ⟨_, fun _ _ _ => call_int1, .inl ⟨i, rfl, q⟩⟩
theorem s_lenStr (h : x.length ≤ sizeLine) (q : Q (.int x.length) H) : ∃ r, CaD X0 E (.builtin "len") r ∧ r [.str x] H Q := ⟨_, fun _ _ _ => call_len_str, x, rfl, h, q⟩
theorem s_eqS (q : Q (.bl (decide (x = y))) H) : ∃ r, OpD X0 E (compareOp .Eq) r ∧ r (.str x) (.str y) H Q := ⟨_, fun _ _ _ => op_eq, rfl, by rw [dec_strV]; exact q⟩
theorem s_neS (q : Q (.bl (!decide (x = y))) H) : ∃ r, OpD X0 E (compareOp .NotEq) r ∧ r (.str x) (.str y) H Q := ⟨_, fun _ _ _ => op_ne, rfl, by rw [dec_strV]; exact q⟩
theorem s_ixStr {c : Nat} (hz : x.length ≤ sizeLine) (h : atI x.cps.toList i = some c) (q : Q (.str ⟨#[c]⟩) H) : ∃ r, IxD X0 E r ∧ r (.str x) (.int i) H Q :=
  ⟨rIxS, fun _ _ _ => ix_plain ix_str, x, i, c, rfl, rfl, hz, h, q⟩
theorem s_max2 (hc : X0.calm = true) (q : Q (.int (if j > i then j else i)) H) : ∃ r, CaD X0 E (.builtin "max") r ∧ r [.int i, .int j] H Q := ⟨_, fun _ l _ => call_max2 (by rw [l.calm]; exact hc), i, j, rfl, q⟩
theorem s_min2 (hc : X0.calm = true) (q : Q (.int (if j < i then j else i)) H) : ∃ r, CaD X0 E (.builtin "min") r ∧ r [.int i, .int j] H Q := ⟨_, fun _ l _ => call_min2 (by rw [l.calm]; exact hc), i, j, rfl, q⟩
theorem w_m0 {r : V → List V → Hp → VK → Prop} {to : TE} {σ : L2.St} (h : to σ H fun x H1 => (∃ a, x = .str a) ∧ r x [] H1 Q) : tM0 r to σ H Q := h
theorem w_m1 {r : V → List V → Hp → VK → Prop} {to te : TE} {σ : L2.St} (h : to σ H fun x H1 => (∃ a, x = .str a) ∧ te σ H1 fun y H2 => r x [y] H2 Q) : tM1 r to te σ H Q := h
end
theorem g_trip {K : PySem.W.Frag} {T : Addr} {x y z : V} {i j l : Nat} {σ : L2.St} {H : Hp} {R : L2.St → Hp → Prop} (hT : SqT K H T [x, y, z]) (h : R (((σ.set i (some x)).set j (some y)).set l (some z)) H) : gTup K 3 (gCons (gName i) (gCons (gName j) (gCons (gName l) gNil))) (.ref T) σ H R :=
  ⟨T, [x, y, z], rfl, hT, rfl, x, [y, z], rfl, y, [z], rfl, z, [], rfl, rfl, h⟩
section
variable {K : PySem.W.Frag} {a : Addr} {xs : List V} {tb : TS} {D : Ends} {σ : L2.St} {H : Hp} {ta : TA} {i j : Nat} {tt : TT} {te : TE} {vs : List Nat} {Q : VK}
/-- for i, x in enumerate(a list) -/
theorem f_enumL (Pv : Nat → L2.St → Hp → Prop) (ht : ∀ R : List V → Hp → Prop, R [.ref a] H → ta σ H R) (h0 : Pv 0 σ H) (hl : ∀ i σ H, i ≤ xs.length → Pv i σ H → SqL K H a xs)
    (hs : ∀ k x σ H T, xs[k]? = some x → Pv k σ H → H T = none → tb { D with nx := Pv (k + 1), ct := Pv (k + 1), bk := D.nx } ((σ.set i (some (.int (k : Nat)))).set j (some x)) (upd H T (.tup [.int (k : Nat), x]))) (hd : ∀ σ H, Pv xs.length σ H → D.nx σ H) :
    tFor (iEnumA K ta) (gTup K 2 (gCons (gName i) (gCons (gName j) gNil))) tb D σ H :=
  ht _ ⟨a, rfl, .inl ⟨⟨xs, hl 0 σ H (Nat.zero_le _) h0⟩, for_it walk_enum Pv h0 hl (fun k x σ H H' hk p y => by
    obtain ⟨T, u, v, e1, e2, e3, e4, e5⟩ := y
    cases e4
    subst e1 e3
    exact g_pair (SqT.of upd_same) (hs k v σ H T e5 p e2)) hd⟩⟩
/-- [.. for i, x in enumerate(a list)], items made on the way -/
theorem c_enumLI (S : Addr → Prop) (Pv : Nat → List V → Hp → Prop) (hS : ∀ b, S b → H b ≠ none) (h0 : ∀ D, H D = none → Pv 0 [] (upd H D (.lst []))) (hz : ∀ i o H', i < xs.length → Pv i o H' → o.length < 100000) (hx : ∀ H', SameB S H H' → SqL K H' a xs)
    (hD : ∀ i o H' D l l', H D = none → H' D = some (.lst l) → Pv i o H' → Pv i o (upd H' D (.lst l'))) (hw : ∀ x y, wipe (((wipe σ vs).set i (some x)).set j (some y)) vs = wipe σ vs)
    (hT : ∀ k o H' T o', H' T = none → Pv k o H' → Pv k o (upd H' T o'))
    (turn : ∀ k x H' o, xs[k]? = some x → SameB S H H' → Pv k o H' → TurnI S Pv k tt te (((wipe σ vs).set i (some (.int (k : Nat)))).set j (some x)) H' o)
    (q : ∀ p o H', H p = none → SameB S H H' → Pv xs.length o H' → H' p = some (.lst o) → Q (.ref p) H')
    (ht : ∀ R : List V → Hp → Prop, R [.ref a] H → ta σ H R) : tLc (iEnumA K ta) (gTup K 2 (gCons (gName i) (gCons (gName j) gNil))) tt te vs σ H Q :=
  ht _ ⟨a, rfl, .inl ⟨⟨xs, hx H (SameB.refl H)⟩, c_walkI S Pv walk_enum hS h0 hz hx hD (fun k x H1 H' o hk s p y R q' => by
    obtain ⟨T, u, v, e1, e2, e3, e4, e5⟩ := y
    cases e4
    subst e1 e3
    have p' := hT k o H1 T (.tup [.int (k : Nat), v]) e2 p
    have s' : SameB S H1 (upd H1 T (.tup [.int (k : Nat), v])) := Same.b (same_new e2)
    exact g_pair (SqT.of upd_same) (q' _ (hw _ _) s' (turn k v _ o e5 (s.trans s') p'))) q⟩⟩
end
/-- one continuation where a conditional expression would make two -/
theorem w_ifJ {t : TT} {ta tb : TE} {σ : L2.St} {H : Hp} {Q : VK} (G : V → Hp → Prop) (h : ∀ R : VK, (∀ v H', G v H' → R v H') → tIf t ta tb σ H R) (q : ∀ v H', G v H' → Q v H') : tIf t ta tb σ H Q := h Q q
theorem w_lcR {ta : TA} {g : TG} {tt : TT} {te : TE} {vs0 : List Nat} {σ : L2.St} {H : Hp} {Q : VK} (h : ta σ H fun vs H1 => tLc (iRng1 fun _ H R => R vs H) g tt te vs0 σ H1 Q) : tLc (iRng1 ta) g tt te vs0 σ H Q := h
theorem w_lcQ {K : PySem.W.Frag} {tl : TE} {g : TG} {tt : TT} {te : TE} {vs0 : List Nat} {σ : L2.St} {H : Hp} {Q : VK} (h : tl σ H fun x H1 => tLc (iSeq K fun _ H R => R x H) g tt te vs0 σ H1 Q) : tLc (iSeq K tl) g tt te vs0 σ H Q := h
theorem w_lcE {K : PySem.W.Frag} {ta : TA} {g : TG} {tt : TT} {te : TE} {vs0 : List Nat} {σ : L2.St} {H : Hp} {Q : VK} (h : ta σ H fun vs H1 => tLc (iEnumA K fun _ H R => R vs H) g tt te vs0 σ H1 Q) : tLc (iEnumA K ta) g tt te vs0 σ H Q := h
theorem w_slf {r : V → Option Int → Option Int → Hp → VK → Prop} {te tu : TE} {σ : L2.St} {H : Hp} {Q : VK} (h : te σ H fun x H1 => tu σ H1 fun y H2 => ∃ i, y = .int i ∧ r x (some i) none H2 Q) : tSl r te (tPart tu) tNoPart σ H Q := h
end Odd

namespace Odd
open PySem PySem.Spec PyProof.Rows L2
/-! ### rows of numbers as texts -/
/-- a number written out -/
def numS (i : Int) : Str := (toString i : String)
theorem tl_numS {i : Int} (h : 0 ≤ i) : TL.tl (numS i) = TL.numL i.toNat := by
  obtain ⟨n, rfl⟩ := Int.eq_ofNat_of_zero_le h
  rw [Int.toNat_natCast]
  exact TL.tl_num n
theorem numS_len {i : Int} (h : 0 ≤ i) (h2 : i < 10 ^ 13) : (numS i).length ≤ 13 ∧ 1 ≤ (numS i).length := by
  rw [TL.len_tl, tl_numS h]
  refine ⟨TL.numL_len (by decide) (by omega), ?_⟩
  exact List.length_pos_iff.2 (TL.numL_ne _)
theorem numS_int {i : Int} (h : 0 ≤ i) (h2 : i < 10 ^ 13) : PySem.intText? (numS i) = some i := by
  obtain ⟨n, rfl⟩ := Int.eq_ofNat_of_zero_le h
  refine TL.int_num ?_
  have := TL.numL_len (n := n) (k := 13) (by decide) (by omega)
  omega
theorem digit_uni : ∀ c : Nat, 48 ≤ c → c ≤ 57 → PySem.Unicode.isDigit c = true := by
  intro c h1 h2
  have : c = 48 ∨ c = 49 ∨ c = 50 ∨ c = 51 ∨ c = 52 ∨ c = 53 ∨ c = 54 ∨ c = 55 ∨ c = 56 ∨ c = 57 := by omega
  rcases this with h | h | h | h | h | h | h | h | h | h <;> subst h <;> decide +kernel
theorem cps_all {x : Str} {f : Nat → Bool} (h : ∀ c ∈ TL.tl x, f c = true) : x.cps.all f = true := by
  rw [← Array.all_toList, List.all_eq_true]
  exact h
theorem numS_dig {i : Int} (h : 0 ≤ i) : ∀ c ∈ TL.tl (numS i), 48 ≤ c ∧ c ≤ 57 := fun c hc => by
  rw [tl_numS h] at hc
  exact TL.numL_digits _ c hc
theorem numS_ascii {i : Int} (h : 0 ≤ i) : Txt.isascii (numS i) = true := by
  unfold Txt.isascii
  exact cps_all fun c hc => by have := numS_dig h c hc; rw [decide_eq_true_iff]; omega
theorem numS_digit {i : Int} (h : 0 ≤ i) : Txt.isdigit (numS i) = true := by
  unfold Txt.isdigit
  have : 1 ≤ (numS i).length := by
    rw [TL.len_tl, tl_numS h]
    exact List.length_pos_iff.2 (TL.numL_ne _)
  rw [cps_all fun c hc => digit_uni c (numS_dig h c hc).1 (numS_dig h c hc).2, Bool.and_true, decide_eq_true_iff]
  omega
theorem numL_head : ∀ n : Nat, 0 < n → ∃ c r, TL.numL n = c :: r ∧ c ≠ 48 := by
  intro n
  induction n using Nat.strongRecOn with
  | _ n ih =>
    intro h0
    by_cases h : n < 10
    · rw [TL.numL_lt h]
      exact ⟨48 + n, [], rfl, by omega⟩
    · obtain ⟨c, r, e, hc⟩ := ih (n / 10) (by omega) (by omega)
      rw [TL.numL_step (by omega), e]
      exact ⟨c, r ++ [48 + n % 10], rfl, hc⟩
theorem numS_zero : numS 0 = "0" := by
  refine TL.ext_tl ?_
  rw [tl_numS (by decide)]
  decide +kernel
/-- what a joined text is made of -/
theorem joinL_len (S : List Nat) : ∀ ps : List (List Nat), (TL.joinL S ps).length ≤ (ps.map List.length).sum + ps.length * S.length
  | [] => Nat.zero_le _
  | [p] => by simp [TL.joinL]
  | p :: q :: r => by
    have ih := joinL_len S (q :: r)
    show (p ++ (S ++ TL.joinL S (q :: r))).length ≤ _
    rw [List.length_append, List.length_append, List.map_cons, List.sum_cons, List.length_cons, Nat.succ_mul]
    omega
theorem joinL_mem (S : List Nat) {c : Nat} : ∀ ps : List (List Nat), c ∈ TL.joinL S ps → c ∈ S ∨ ∃ p ∈ ps, c ∈ p
  | [], h => by simp [TL.joinL] at h
  | [p], h => .inr ⟨p, List.mem_singleton_self _, h⟩
  | p :: q :: r, h => by
    have h' : c ∈ p ++ (S ++ TL.joinL S (q :: r)) := h
    rcases List.mem_append.1 h' with h | h
    · exact .inr ⟨p, List.mem_cons_self .., h⟩
    · rcases List.mem_append.1 h with h | h
      · exact .inl h
      · rcases joinL_mem S (q :: r) h with h | ⟨z, hz, h⟩
        · exact .inl h
        · exact .inr ⟨z, List.mem_cons_of_mem _ hz, h⟩
/-- a row: a first word and numbers -/
def rowW (f : Str) (ns : List Int) : List Str := f :: ns.map numS
def rowS (f : Str) (ns : List Int) : Str := Txt.join " " (rowW f ns)
def Nums (ns : List Int) : Prop := ∀ i ∈ ns, 0 ≤ i ∧ i < 10 ^ 13
def FirstW (f : Str) : Prop := f.length ≤ 6 ∧ ∀ c ∈ TL.tl f, 97 ≤ c
theorem first_table : FirstW "table" := by constructor <;> decide +kernel
theorem first_bill : FirstW "bill" := by constructor <;> decide +kernel
theorem sum_le_of {α : Type} (f : α → Nat) (k : Nat) : ∀ l : List α, (∀ x ∈ l, f x ≤ k) → (l.map f).sum ≤ l.length * k
  | [], _ => by simp
  | x :: l, h => by
    have := sum_le_of f k l fun y hy => h y (List.mem_cons_of_mem _ hy)
    have := h x (List.mem_cons_self ..)
    rw [List.map_cons, List.sum_cons, List.length_cons, Nat.succ_mul]
    omega
theorem rowW_sum {f : Str} {ns : List Int} (hf : FirstW f) (h : Nums ns) (hl : ns.length ≤ 9) : ((rowW f ns).map (·.length)).sum + (rowW f ns).length * 1 ≤ 140 := by
  have e : ((rowW f ns).map (·.length)).sum = f.length + (ns.map fun i => (numS i).length).sum := by
    unfold rowW
    rw [List.map_cons, List.sum_cons, List.map_map]
    rfl
  have := sum_le_of (fun i => (numS i).length) 13 ns fun i hi => (numS_len (h i hi).1 (h i hi).2).1
  have : ns.length * 13 ≤ 9 * 13 := Nat.mul_le_mul_right _ hl
  have := hf.1
  rw [e]
  unfold rowW
  rw [List.length_cons, List.length_map]
  omega
theorem rowS_len {f : Str} {ns : List Int} (hf : FirstW f) (h : Nums ns) (hl : ns.length ≤ 9) : (rowS f ns).length ≤ 140 := by
  have h1 := rowW_sum hf h hl
  unfold rowS
  rw [TL.join_eq, TL.len_tl, TL.tl_join]
  refine Nat.le_trans (joinL_len _ _) ?_
  rw [List.map_map, List.length_map]
  have e : (List.map (List.length ∘ TL.tl) (rowW f ns)) = (rowW f ns).map (·.length) := List.map_congr_left fun x _ => (TL.len_tl x).symm
  rw [e, show (TL.tl " ").length = 1 from rfl]
  exact h1
theorem tl_sp : TL.tl " " = 32 :: [] := rfl
theorem tl_nl : TL.tl "\n" = 10 :: [] := rfl
theorem word_free {f : Str} {ns : List Int} (hf : FirstW f) (h : Nums ns) {c : Nat} (hc : c < 48) : ∀ p ∈ rowW f ns, c ∉ TL.tl p := fun p hp hm => by
  rcases List.mem_cons.1 hp with e | e
  · subst e
    have := hf.2 c hm
    omega
  · obtain ⟨i, hi, rfl⟩ := List.mem_map.1 e
    have := numS_dig (h i hi).1 c hm
    omega
theorem row_split {f : Str} {ns : List Int} (hf : FirstW f) (h : Nums ns) : Txt.split (rowS f ns) " " = rowW f ns :=
  TL.split_join tl_sp (by decide +kernel) (by unfold rowW; simp) (word_free hf h (by decide))
theorem row_free {f : Str} {ns : List Int} (hf : FirstW f) (h : Nums ns) : 10 ∉ TL.tl (rowS f ns) := fun hm => by
  unfold rowS at hm
  rw [TL.join_eq, TL.tl_join] at hm
  rcases joinL_mem _ _ hm with z | ⟨p, hp, z⟩
  · rw [tl_sp] at z
    simp at z
  · obtain ⟨x, hx, rfl⟩ := List.mem_map.1 hp
    exact word_free hf h (by decide) x hx z
/-- the first word of an evening's text, and its number -/
theorem table_row (n : Nat) : ("table " : Str) ++ numS n = rowS "table" [(n : Int)] := by
  refine TL.ext_tl ?_
  unfold rowS
  rw [TL.tl_append, TL.join_eq, TL.tl_join]
  show _ = TL.tl "table" ++ (TL.tl " " ++ TL.tl (numS n))
  rw [← List.append_assoc]
  rfl
/-- the numbers of the rows of an evening's text -/
def evRows (n : Nat) (bs : List (Int × List Int)) : List Str := rowS "table" [(n : Int)] :: bs.map fun b => rowS "bill" (b.1 :: b.2)
def evText (n : Nat) (bs : List (Int × List Int)) : Str := Txt.join "\n" (evRows n bs)
end Odd

namespace Odd
open PySem PySem.Spec PyProof.Rows L2
/-! ### comprehensions whose items are new lists: the list under way is named -/
def TurnJ (S : Addr → Prop) (Pv : Nat → List V → Hp → Prop) (D : Addr) (i : Nat) (tt : TT) (te : TE) (σ2 : L2.St) (H1 : Hp) (o : List V) : Prop :=
  ∀ (K1 : VK) (K0 : Hp → Prop), (∀ y H4, SameB S H1 H4 → Pv (i + 1) (o ++ [y]) (upd H4 D (.lst (o ++ [y]))) → K1 y H4) → (∀ H3, SameB S H1 H3 → Pv (i + 1) o H3 → K0 H3) → tt σ2 H1 fun b H3 => if b = true then te σ2 H3 K1 else K0 H3
theorem turnJ_map {S : Addr → Prop} {Pv : Nat → List V → Hp → Prop} {D : Addr} {i : Nat} {te : TE} {σ2 : L2.St} {H1 : Hp} {o : List V} (h : ∀ R : VK, (∀ y H4, SameB S H1 H4 → Pv (i + 1) (o ++ [y]) (upd H4 D (.lst (o ++ [y]))) → R y H4) → te σ2 H1 R) : TurnJ S Pv D i tYes te σ2 H1 o := fun K1 K0 k1 _ => by
  show (if true = true then te σ2 H1 K1 else K0 H1)
  rw [if_pos rfl]
  exact h K1 k1
section
variable {K : PySem.W.Frag} {J : It} {n : Nat} {G : Hp → Prop} {Y : Nat → Hp → V → Hp → Prop} {g : TG} {tt : TT} {te : TE} {vs : List Nat} {σ : L2.St} {H : Hp} {Q : VK}
theorem c_walkJ (S : Addr → Prop) (Pv : Addr → Nat → List V → Hp → Prop) (w : Walk J n G Y) (hS : ∀ b, S b → H b ≠ none) (h0 : ∀ D, H D = none → Pv D 0 [] (upd H D (.lst []))) (hz : ∀ D i o H', i < n → Pv D i o H' → o.length < 100000) (hG : ∀ H', SameB S H H' → G H')
    (turn : ∀ D i x H1 H' o, H D = none → i < n → SameB S H H1 → H1 D = some (.lst o) → Pv D i o H1 → Y i H1 x H' → ∀ R : L2.St → Hp → Prop, (∀ σ2, wipe σ2 vs = wipe σ vs → SameB S H1 H' → TurnJ S (Pv D) D i tt te σ2 H' o → R σ2 H') → g x (wipe σ vs) H' R)
    (q : ∀ p o H', H p = none → SameB S H H' → Pv p n o H' → H' p = some (.lst o) → Q (.ref p) H') :
    ∀ D, H D = none → ∃ W : Nat → Nat → Hp → Prop, (∃ m, W 0 m (upd H D (.lst []))) ∧ ∀ i m H, W i m H →
      (J.stop i H ∧ Q (.ref D) H) ∨ (J.go i H ∧ ∃ Nx : Hp → Prop, (∀ H', Nx H' → ∃ m', m' < m ∧ W (i + 1) m' H') ∧ ∀ x H', J.yld i H x H' → g x (wipe σ vs) H' fun σ2 H2 => wipe σ2 vs = wipe σ vs ∧ tt σ2 H2 fun b H3 =>
        if b = true then te σ2 H3 fun y H4 => ∃ acc, H4 D = some (.lst acc) ∧ acc.length < sizeLine ∧ Nx (upd H4 D (.lst (acc ++ [y]))) else Nx H3) := fun D hDn => by
  have nS : ¬ S D := fun z => hS D z hDn
  refine lc_it w (Qd := fun H' => Q (.ref D) H') (fun i H' => ∃ o, SameB S H H' ∧ H' D = some (.lst o) ∧ Pv D i o H') ⟨[], (SameB.refl H).upd hDn, upd_same, h0 D hDn⟩ (fun i H' _ p => hG H' p.choose_spec.1) (fun i x H1 H' hi p y => ?_) fun H' p => ?_
  · obtain ⟨o, s1, d1, p1⟩ := p
    refine turn D i x H1 H' o hDn hi s1 d1 p1 y _ fun σ2 ew s2 t => ⟨ew, ?_⟩
    have d2 : H' D = some (.lst o) := s2 _ _ nS d1
    exact t _ _ (fun y H4 s4 p4 => ⟨o, s4 _ _ nS d2, Nat.lt_of_lt_of_le (hz D i o H1 hi p1) (by decide), o ++ [y], ((s1.trans s2).trans s4).upd hDn, upd_same, p4⟩)
      fun H3 s3 p3 => ⟨o, (s1.trans s2).trans s3, s3 _ _ nS d2, p3⟩
  · obtain ⟨o, s1, d1, p1⟩ := p
    exact q D o H' hDn s1 p1 d1
variable {a b : Addr} {xs ys : List V} {j j2 : Nat}
theorem c_tupJ (S : Addr → Prop) (Pv : Addr → Nat → List V → Hp → Prop) (hS : ∀ b, S b → H b ≠ none) (h0 : ∀ D, H D = none → Pv D 0 [] (upd H D (.lst []))) (hz : ∀ D i o H', i < xs.length → Pv D i o H' → o.length < 100000) (hx : ∀ H', SameB S H H' → SqT K H' a xs)
    (hw : ∀ x, wipe ((wipe σ vs).set j (some x)) vs = wipe σ vs)
    (turn : ∀ D i x H' o, H D = none → xs[i]? = some x → SameB S H H' → H' D = some (.lst o) → Pv D i o H' → TurnJ S (Pv D) D i tt te ((wipe σ vs).set j (some x)) H' o)
    (q : ∀ p o H', H p = none → SameB S H H' → Pv p xs.length o H' → H' p = some (.lst o) → Q (.ref p) H')
    {tl : TE} (ht : ∀ R : VK, R (.ref a) H → tl σ H R) : tLc (iSeq K tl) (gName j) tt te vs σ H Q :=
  ht _ ⟨a, rfl, .inr ⟨⟨xs, hx H (SameB.refl H)⟩, c_walkJ S Pv walk_tupS hS h0 hz hx (fun D i x H1 H' o hD hi s d p y R k => by
    obtain ⟨e1, e2⟩ := y
    subst e1
    exact k _ (hw x) (SameB.refl _) (turn D i x _ o hD e2 s d p)) q⟩⟩
theorem c_listJ (S : Addr → Prop) (Pv : Addr → Nat → List V → Hp → Prop) (hS : ∀ b, S b → H b ≠ none) (h0 : ∀ D, H D = none → Pv D 0 [] (upd H D (.lst []))) (hz : ∀ D i o H', i < xs.length → Pv D i o H' → o.length < 100000) (hx : ∀ H', SameB S H H' → SqL K H' a xs)
    (hw : ∀ x, wipe ((wipe σ vs).set j (some x)) vs = wipe σ vs)
    (turn : ∀ D i x H' o, H D = none → xs[i]? = some x → SameB S H H' → H' D = some (.lst o) → Pv D i o H' → TurnJ S (Pv D) D i tt te ((wipe σ vs).set j (some x)) H' o)
    (q : ∀ p o H', H p = none → SameB S H H' → Pv p xs.length o H' → H' p = some (.lst o) → Q (.ref p) H')
    {tl : TE} (ht : ∀ R : VK, R (.ref a) H → tl σ H R) : tLc (iSeq K tl) (gName j) tt te vs σ H Q :=
  ht _ ⟨a, rfl, .inl ⟨⟨xs, hx H (SameB.refl H)⟩, c_walkJ S Pv walk_listS hS h0 hz hx (fun D i x H1 H' o hD hi s d p y R k => by
    obtain ⟨e1, e2⟩ := y
    subst e1
    exact k _ (hw x) (SameB.refl _) (turn D i x _ o hD e2 s d p)) q⟩⟩
theorem c_rngJ {ta : TA} {n : Nat} (S : Addr → Prop) (Pv : Addr → Nat → List V → Hp → Prop) (hn : n < 100000) (hS : ∀ b, S b → H b ≠ none) (h0 : ∀ D, H D = none → Pv D 0 [] (upd H D (.lst []))) (hz : ∀ D i o H', i < n → Pv D i o H' → o.length < 100000)
    (hw : ∀ x, wipe ((wipe σ vs).set j (some x)) vs = wipe σ vs)
    (turn : ∀ D (i : Nat) H' o, H D = none → i < n → SameB S H H' → H' D = some (.lst o) → Pv D i o H' → TurnJ S (Pv D) D i tt te ((wipe σ vs).set j (some (.int i))) H' o)
    (q : ∀ p o H', H p = none → SameB S H H' → Pv p n o H' → H' p = some (.lst o) → Q (.ref p) H')
    (ht : ∀ R : List V → Hp → Prop, R [.int n] H → ta σ H R) : tLc (iRng1 ta) (gName j) tt te vs σ H Q :=
  ht _ ⟨n, rfl, by omega, by omega, by
    rw [Int.toNat_natCast]
    exact c_walkJ S Pv (Y := YFn fun i => .int (0 + (i : Int))) (G := fun _ => True) ⟨fun i _ hi _ => hi, fun _ _ => Nat.le_refl _, fun i H x H' _ _ y => y⟩ hS h0 hz (fun _ _ => True.intro) (fun D i x H1 H' o hD hi s d p y R k => by
      obtain ⟨e1, e2⟩ := y
      subst e1 e2
      refine k _ (hw _) (SameB.refl _) ?_
      show TurnJ S (Pv D) D i tt te ((wipe σ vs).set j (some (.int ((0 : Int) + (i : Int))))) H' o
      rw [Int.zero_add]
      exact turn D i _ o hD hi s d p) q⟩
theorem c_enumLJ {ta : TA} (S : Addr → Prop) (Pv : Addr → Nat → List V → Hp → Prop) (hS : ∀ b, S b → H b ≠ none) (h0 : ∀ D, H D = none → Pv D 0 [] (upd H D (.lst []))) (hz : ∀ D i o H', i < xs.length → Pv D i o H' → o.length < 100000) (hx : ∀ H', SameB S H H' → SqL K H' a xs)
    (hw : ∀ x y, wipe (((wipe σ vs).set j (some x)).set j2 (some y)) vs = wipe σ vs)
    (hT : ∀ D k o H' T o', H' T = none → H' D = some (.lst o) → Pv D k o H' → Pv D k o (upd H' T o'))
    (turn : ∀ D k x H' o, H D = none → xs[k]? = some x → SameB S H H' → H' D = some (.lst o) → Pv D k o H' → TurnJ S (Pv D) D k tt te (((wipe σ vs).set j (some (.int (k : Nat)))).set j2 (some x)) H' o)
    (q : ∀ p o H', H p = none → SameB S H H' → Pv p xs.length o H' → H' p = some (.lst o) → Q (.ref p) H')
    (ht : ∀ R : List V → Hp → Prop, R [.ref a] H → ta σ H R) : tLc (iEnumA K ta) (gTup K 2 (gCons (gName j) (gCons (gName j2) gNil))) tt te vs σ H Q :=
  ht _ ⟨a, rfl, .inl ⟨⟨xs, hx H (SameB.refl H)⟩, c_walkJ S Pv walk_enum hS h0 hz hx (fun D k x H1 H' o hD hk s d p y R q' => by
    obtain ⟨T, u, v, e1, e2, e3, e4, e5⟩ := y
    cases e4
    subst e1 e3
    have p' := hT D k o H1 T (.tup [.int (k : Nat), v]) e2 d p
    have s' : SameB S H1 (upd H1 T (.tup [.int (k : Nat), v])) := Same.b (same_new e2)
    have d' : (upd H1 T (.tup [.int (k : Nat), v])) D = some (.lst o) := by rw [upd_ne (ne_of_none d e2)]; exact d
    exact g_pair (SqT.of upd_same) (q' _ (hw _ _) s' (turn D k v _ o hD e5 (s.trans s') d' p'))) q⟩⟩
end
theorem s_notIn {X0 : Cx} {E : XK} {H : Hp} {Q : VK} {l : Addr} {z : Int} {ss : List Int} (h : SqL X0.K H l (ss.map V.int) ∨ SqT X0.K H l (ss.map V.int)) (q : Q (.bl (!decide (z ∈ ss))) H) : ∃ r, OpD X0 E (compareOp .NotIn) r ∧ r (.int z) (.ref l) H Q :=
  ⟨rIn X0.K true, fun X li _ => by rw [← li.K]; exact op_notIn_seq, l, _, rfl, h, rfl, by rw [List.all_map, List.all_eq_true]; exact fun _ _ => rfl, by
    show Q (.bl (!inV (.int z) (ss.map V.int))) H
    rw [inV_int]
    exact q⟩
/-- a test of two parts that are known -/
theorem w_orT {t u : TT} {σ : L2.St} {H : Hp} {QB : Bool → Hp → Prop} {c d : Bool} (h1 : ∀ R : Bool → Hp → Prop, R c H → t σ H R) (h2 : ∀ R : Bool → Hp → Prop, R d H → u σ H R) (q : QB (c || d) H) : tOr t u σ H QB :=
  w_or (h1 _ (by
    cases c with
    | true => exact iteT q
    | false => exact iteF (h2 _ q)))
theorem w_andT {t u : TT} {σ : L2.St} {H : Hp} {QB : Bool → Hp → Prop} {c d : Bool} (h1 : ∀ R : Bool → Hp → Prop, R c H → t σ H R) (h2 : ∀ R : Bool → Hp → Prop, R d H → u σ H R) (q : QB (c && d) H) : tAnd t u σ H QB :=
  w_and (h1 _ (by
    cases c with
    | true => exact iteT (h2 _ q)
    | false => exact iteF q))
end Odd

namespace TM2
open PySem PySem.Spec PyProof.Rows L2
theorem tuple_mul1 (l : Addr) (items : Array Value) (n : Nat) (dd : Option Addr) (sl : Array (Option Value)) (x : Int) (u : Tok) (c0 : (decide (x < -(2 ^ 63)) || decide (x ≥ 2 ^ 63)) = false) (c1 : (items.isEmpty || x == 1) = true) :
    Meets (Builtin.«tuple.__mul__» ⟨[.ref l, .int x u], []⟩) (fun _ R s => s.heap.get? l = some { cls := .type "tuple", dict := dd, data := .seq items n, slots := sl } ∧
      R (.ok (.ret (Value.ref l))) s) :=
  .of_wp fun prog w A R s h => by
    obtain ⟨hp, g, d, tk, os⟩ := s
    obtain ⟨hl, h⟩ := h
    have f1 := AutoSeq1.idx_int
    wp_walk using wpAny_loadPart' hl
    repeat (first
      | (refine wpAny_ite_false (decide_eq_false (by rw [c0]; exact Bool.false_ne_true)) ?_; wp_walk using wpAny_loadPart' hl)
      | (refine wpAny_ite_true (decide_eq_true c1) ?_; wp_walk using wpAny_loadPart' hl))
    exact ⟨_, rfl, h⟩
theorem tuple_mul0 (l : Addr) (items : Array Value) (n : Nat) (dd : Option Addr) (sl : Array (Option Value)) (x : Int) (u : Tok) (c0 : (decide (x < -(2 ^ 63)) || decide (x ≥ 2 ^ 63)) = false) (c1 : (items.isEmpty || x == 1) = false) (c2 : (decide (x ≤ 0) || items.isEmpty) = true) :
    Meets (Builtin.«tuple.__mul__» ⟨[.ref l, .int x u], []⟩) (fun _ R s => s.heap.get? l = some { cls := .type "tuple", dict := dd, data := .seq items n, slots := sl } ∧
      R (.ok (.ret (Value.ref s.heap.objs.size))) { s with heap := s.heap.push { cls := Value.type "tuple", data := Data.seq #[] }, toks := s.toks }) :=
  .of_wp fun prog w A R s h => by
    obtain ⟨hp, g, d, tk, os⟩ := s
    obtain ⟨hl, h⟩ := h
    have f1 := AutoSeq1.idx_int
    wp_walk using wpAny_loadPart' hl
    repeat (first
      | (refine wpAny_ite_false (decide_eq_false (by rw [c0]; exact Bool.false_ne_true)) ?_; wp_walk using wpAny_loadPart' hl)
      | (refine wpAny_ite_false (decide_eq_false (by rw [c1]; exact Bool.false_ne_true)) ?_; wp_walk using wpAny_loadPart' hl)
      | (refine wpAny_ite_true (decide_eq_true c2) ?_; wp_walk using wpAny_loadPart' hl))
    exact ⟨_, rfl, h⟩
end TM2
namespace Odd
open PySem PySem.Spec PyProof.Rows L2
def rRepT1 (K : PySem.W.Frag) : R2 := fun x y H Q => ∃ l k xs, x = .ref l ∧ y = .int k ∧ SqT K H l xs ∧ 0 ≤ k ∧ k ≤ 1000 ∧ (xs = [] ∨ k = 1) ∧ Q (.ref l) H
def rRepT0 (K : PySem.W.Frag) : R2 := fun x y H Q => ∃ l xs, x = .ref l ∧ y = .int 0 ∧ SqT K H l xs ∧ xs ≠ [] ∧ ∀ p, H p = none → Q (.ref p) (upd H p (.tup []))
section
variable {X : Cx}
theorem op_repT1 : OpR X (binaryOp .Mult) (rRepT1 X.K) := by
  intro pins s σ H x y v u Q I rx ry h
  obtain ⟨l, k, xs, rfl, rfl, hT, h1, h2, hor, q⟩ := h
  cases rx
  obtain ⟨t, rfl⟩ := ry
  obtain ⟨its, r, ⟨⟨cls, dd, data, sl⟩, ho, hc, n, hd⟩, hs⟩ := I.tuple hT
  simp only at hc hd
  subst hc hd
  have hle : its.length = xs.length := r.length.symm
  have c0 : (decide (k < -(2 ^ 63)) || decide (k ≥ 2 ^ 63)) = false := by
    rw [decide_eq_false (by omega), decide_eq_false (by omega)] <;> rfl
  have c1 : (its.toArray.isEmpty || k == 1) = true := by
    rcases hor with e | e
    · rw [e] at hle
      rw [List.eq_nil_of_length_eq_zero hle]
      rfl
    · rw [e]
      simp
  exact wpAny_binaryOp_repeat_ref (T := "tuple") (U := "int") (by decide) ⟨_, ho, rfl⟩ (fun s' => typeIs_int s' k t) noFill_tuple_mul F.fills_int_mul F.slot_int_rmul repeat_tuple F.slot_int_index.lookup
    (call_meets F.slot_int_rmul (typeIs_int s k t) F.entry_int_rmul (F.args_int_rmul_2 _ _) (int_rmul_tuple k t l its.toArray n dd sl)
      ⟨ho, rfl, ⟨_, ho, rfl⟩, call_meets F.slot_tuple_mul ⟨_, ho, rfl⟩ F.entry_tuple_mul (F.args_tuple_mul_2 _ _) (TM2.tuple_mul1 l its.toArray n dd sl k t c0 c1) ⟨ho, ⟨.ref l, H, I, rfl, q⟩⟩⟩)
theorem op_repT0 : OpR X (binaryOp .Mult) (rRepT0 X.K) := by
  intro pins s σ H x y v u Q I rx ry h
  obtain ⟨l, xs, rfl, rfl, hT, hne, q⟩ := h
  cases rx
  obtain ⟨t, rfl⟩ := ry
  obtain ⟨its, r, ⟨⟨cls, dd, data, sl⟩, ho, hc, n, hd⟩, hs⟩ := I.tuple hT
  simp only at hc hd
  subst hc hd
  have hle : its.length = xs.length := r.length.symm
  have hn : its ≠ [] := fun e => hne (by
    rw [e] at hle
    exact List.eq_nil_of_length_eq_zero hle.symm)
  have hi : its.toArray.isEmpty = false := by
    cases its with
    | nil => exact absurd rfl hn
    | cons a b => rfl
  have c0 : (decide ((0 : Int) < -(2 ^ 63)) || decide ((0 : Int) ≥ 2 ^ 63)) = false := by decide
  have c1 : (its.toArray.isEmpty || (0 : Int) == 1) = false := by rw [hi]; rfl
  have c2 : (decide ((0 : Int) ≤ 0) || its.toArray.isEmpty) = true := by rw [hi]; rfl
  refine wpAny_binaryOp_repeat_ref (T := "tuple") (U := "int") (by decide) ⟨_, ho, rfl⟩ (fun s' => typeIs_int s' 0 t) noFill_tuple_mul F.fills_int_mul F.slot_int_rmul repeat_tuple F.slot_int_index.lookup
    (call_meets F.slot_int_rmul (typeIs_int s 0 t) F.entry_int_rmul (F.args_int_rmul_2 _ _) (int_rmul_tuple 0 t l its.toArray n dd sl)
      ⟨ho, rfl, ⟨_, ho, rfl⟩, call_meets F.slot_tuple_mul ⟨_, ho, rfl⟩ F.entry_tuple_mul (F.args_tuple_mul_2 _ _) (TM2.tuple_mul0 l its.toArray n dd sl 0 t c0 c1 c2) ⟨ho, ?_⟩⟩)
  refine ⟨.ref s.heap.objs.size, _, I.laid (t' := s.toks) (o := .tup []) (fun b ob q => Heap.get?_push_of_some _ q) (Nat.le_refl _) ?_, rfl, q _ (I.hok.fresh (Nat.le_refl _))⟩
  exact ⟨Nat.zero_le _, [], .nil, IsTup.new _ _⟩
variable {X0 : Cx} {E : XK} {H : Hp} {Q : VK} {l : Addr} {xs : List V}
/-- a tuple so many times: its items, wherever they stand then -/
theorem s_repT {k : Nat} (h : SqT X0.K H l xs) (hk : k ≤ 1000) (hz : xs.length ≤ 1000) (q : ∀ p H', Same H H' → SqT X0.K H' p (List.replicate k xs).flatten → Q (.ref p) H') : ∃ r, OpD X0 E (binaryOp .Mult) r ∧ r (.ref l) (.int k) H Q := by
  by_cases h1 : xs = [] ∨ k = 1
  · refine ⟨rRepT1 X0.K, fun X li _ => by rw [← li.K]; exact op_repT1, l, k, xs, rfl, rfl, h, by omega, by omega, by rcases h1 with z | z; exact .inl z; exact .inr (by omega), q l H (Same.refl _) ?_⟩
    rcases h1 with z | z
    · subst z
      rw [show (List.replicate k ([] : List V)).flatten = [] by simp]
      exact h
    · subst z
      rw [show (List.replicate 1 xs).flatten = xs by simp]
      exact h
  · by_cases h0 : k = 0
    · subst h0
      exact ⟨rRepT0 X0.K, fun X li _ => by rw [← li.K]; exact op_repT0, l, xs, rfl, rfl, h, fun z => h1 (.inl z), fun p hp => q p _ (same_new hp) (SqT.of upd_same)⟩
    · refine ⟨rRepT X0.K, fun X li _ => by rw [← li.K]; exact op_repT, l, k, xs, rfl, rfl, h, fun z => h1 (.inl z), by omega, by omega, hz, fun p hp => ?_⟩
      rw [Int.toNat_natCast]
      exact q p _ (same_new hp) (SqT.of upd_same)
end
end Odd

namespace Odd
open PySem PySem.Spec PyProof.Rows L2
/-! ### the least and the greatest by a def's answer -/
section
variable {prog : Program} {w : World} {A : Around}
theorem walkS_list (hh : A.handled = none) (I a : Addr) (hne : a ≠ I) (xs : List V) : WalksS prog w A I [I, a] [I] (fun x y => y = x) xs.length (fun i v => ∃ x, xs[i]? = some x ∧ RelV x v)
    (fun i s => s.heap.IsListIter I a i ∧ ∃ its, Vals xs its ∧ s.heap.IsList a its.toArray) where
  sub := fun b hb => by rw [List.mem_singleton.1 hb]; exact List.mem_cons_self ..
  grefl := fun _ => rfl
  gtrans := fun _ _ _ h1 h2 => h2.trans h1
  frame := fun i s h' tk st _ hk => by
    obtain ⟨it, its, rl, il⟩ := st
    exact ⟨it.at fun o e => hk I (by simp) o e, its, rl, il.at fun o e => hk a (by simp) o e⟩
  item := fun i s Q E hi st hQ => by
    obtain ⟨it, its, rl, il⟩ := st
    have hl := rl.length
    refine (Walks.list (prog := prog) (w := w) hh I a hne its.toArray).toS.item i s Q E (by rw [List.size_toArray]; omega) ⟨it, il⟩ fun v s' hP st' mv => ?_
    obtain ⟨x, hx⟩ : ∃ x, xs[i]? = some x := ⟨_, List.getElem?_eq_getElem hi⟩
    obtain ⟨u, hu, ru⟩ := rl.get hx
    have hv : its.toArray[i]? = some v := hP
    rw [List.getElem?_toArray, hu] at hv
    cases hv
    exact hQ _ s' ⟨x, hx, ru⟩ ⟨st'.1, its, rl, st'.2⟩ mv
  done := fun s Q E st hQ => by
    obtain ⟨it, its, rl, il⟩ := st
    have hl := rl.length
    exact (Walks.list (prog := prog) (w := w) hh I a hne its.toArray).toS.done s Q E ⟨by rw [List.size_toArray, ← hl]; exact it, il⟩ hQ
  self := fun i s Q E st hQ => wpAny_pyIter_listiter st.1 hQ
end
section
variable {prog : Program} {w : World} {A : Around} {E : Value → Shared → Prop} {s : Shared}
theorem list_walk {l : Addr} {items : Array Value} {R : Value → Shared → Prop} (hl : s.heap.IsList l items) (h : ∀ s₂ : Shared, s₂ = { s with heap := s₂.heap } → (∀ b o, s.heap.get? b = some o → s₂.heap.get? b = some o) → s₂.heap.IsListIter s.heap.objs.size l 0 → s₂.heap.IsList l items →
    s₂.heap.objs.size = s.heap.objs.size + 1 → R (.ref s.heap.objs.size) s₂) : wpAny (model prog w) A (pyIter (.ref l)) R E s :=
  wpAny_pyIter_list hl (h _ rfl (fun b o e => Heap.get?_push_of_some _ e) ⟨_, Heap.get?_push_size _ rfl, rfl, rfl⟩ (hl.at fun o e => Heap.get?_push_of_some _ e) (Heap.size_push ..))
end
/-- f(xs, key=g), the first item whose answer is best -/
def rKeyF (K : PySem.W.Frag) (g : Addr) (sp : Sp) (lt : Int → Int → Bool) : List V → List V → Hp → VK → Prop := fun vs zs H Q => ∃ (a : Addr) (xs : List V) (kf : Nat → Int), vs = [.ref a] ∧ zs = [.ref g] ∧ SqL K H a xs ∧ 0 < xs.length ∧
  (∀ i x H', xs[i]? = some x → Same H H' → sp [x] H' (fun v H2 => v = .int (kf i) ∧ Same H' H2) E0) ∧ ∀ x H', xs[argBest (fun i j => lt (kf i) (kf j)) (xs.length - 1)]? = some x → Same H H' → Q x H'
section
variable {X : Cx} {n : Nat} {g : Addr} {sp : Sp}
theorem key_run {lt : Int → Int → Bool} {op : CmpOp} {pins : List (Addr × Obj)} {σ : L2.St} {H : Hp} {s : Shared} {a : Addr} {xs : List V} {kf : Nat → Int} {Q : VK} (F : FnR X.prog X.w X.K X.mg X.base (L2.CX X.prog X.w) n g sp) (hr : Room (n + 1) X.A) (hc : X.calm = true)
    (hcmp : CmpOf X.prog X.w X.A.in1 op (fun i v => ∃ t, v = .int (kf i) t) (fun i j => lt (kf i) (kf j))) (I : Inv X pins σ H s) (hq : SqL X.K H a xs) (hne : 0 < xs.length)
    (hkey : ∀ i x H', xs[i]? = some x → Same H H' → sp [x] H' (fun v H2 => v = .int (kf i) ∧ Same H' H2) E0) (q : ∀ x H', xs[argBest (fun i j => lt (kf i) (kf j)) (xs.length - 1)]? = some x → Same H H' → Q x H') :
    wpAny (model X.prog X.w) X.A.in1 (pyIter (.ref a)) (fun it s₂ => ∃ I fp wr G m P St J V bt, it = .ref I ∧ WalksS X.prog X.w X.A.in1 I fp wr G m P St ∧ St 0 s₂ ∧ (∀ b ∈ fp, b < s₂.heap.objs.size) ∧ 0 < m ∧
      KeyRun X.prog X.w X.A.in1 (.ref g) op s₂.heap.objs.size wr G m P St J V bt ∧ J s₂ ∧ ∀ v s', P (argBest bt (m - 1)) v → J s' → EP X pins σ Q v s') X.xe s := by
  obtain ⟨its, rl, p, hz⟩ := I.list hq
  refine list_walk p.isList fun s₂ e2 k2 it2 il2 sz2 => ?_
  have hlt : a < s.heap.objs.size := by
    obtain ⟨o, ho, _⟩ := p.isList
    exact Heap.lt_size ho
  have I2 : L2.Inv X pins σ H s₂ := by
    rw [e2]
    exact I.kept (t' := s.toks) k2
  have nI0 : H s.heap.objs.size = none := I.hok.fresh (Nat.le_refl _)
  have nS0 : H s₂.heap.objs.size = none := I2.hok.fresh (Nat.le_refl _)
  have fI : FpOk X pins H s.heap.objs.size := I.fpOk (Nat.le_refl _) nI0
  have fS : FpOk X pins H s₂.heap.objs.size := I2.fpOk (Nat.le_refl _) nS0
  have nfr : ∀ {H' : Hp} {s' : Shared} {b : Addr}, L2.Inv X pins σ H' s' → FpOk X pins H b → b ∉ frs X.stack := fun I' f z => by
    rcases List.mem_cons.mp (I'.stkSub _ z) with y | y
    · exact f.2.1 y
    · exact f.2.2.1 y
  refine ⟨s.heap.objs.size, [s.heap.objs.size, a], [s.heap.objs.size], _, xs.length, _, _, fun s' => ∃ H', Same H H' ∧ L2.Inv X pins σ H' s' ∧ H' s.heap.objs.size = none ∧ H' s₂.heap.objs.size = none, fun i v _ => ∃ t, v = .int (kf i) t, fun i j => lt (kf i) (kf j), rfl, walkS_list (A := X.A.in1) (I.ok.hd hc) _ a (Nat.ne_of_lt hlt) xs, ?st, fun b hb => ?_, hne, ⟨?keep, fun _ _ _ _ h _ => h, ?turn, ?cmp⟩, ⟨H, Same.refl _, I2, nI0, nS0⟩, ?fin⟩
  case st => exact ⟨it2, its, rl, il2⟩
  · rw [sz2]
    simp only [List.mem_cons, List.not_mem_nil, or_false] at hb
    rcases hb with rfl | rfl
    · exact Nat.lt_succ_self _
    · exact Nat.lt_succ_of_lt hlt
  case keep =>
    rintro s3 s4 ⟨H', s0, I3, n1, n2⟩ mv
    refine ⟨H', s0, ?_, n1, n2⟩
    obtain ⟨hp4, g4, d4, t4, o4⟩ := s4
    obtain rfl : g4 = s3.gens := mv.gens
    obtain rfl : d4 = s3.drawn := mv.drawn
    obtain rfl : o4 = s3.os := mv.os
    refine I3.turnedL (ch := [s₂.heap.objs.size, s.heap.objs.size]) (fun b o hb e => mv.heap b o hb e) fun b hb => ?_
    simp only [List.mem_cons, List.not_mem_nil, or_false] at hb
    rcases hb with rfl | rfl
    · exact ⟨n2, fS.2⟩
    · exact ⟨n1, fI.2⟩
  case turn =>
    rintro i v s3 o Q3 E3 hi ⟨x, hx, rx⟩ ⟨H', s0, I3, n1, n2⟩ ⟨it3, its3, rl3, il3⟩ hS k
    refine wpAny_call (codeAny_mono (F X.A.in1 X.stack s3 H' [v] [x] _ E0 hr.in1 I3.env0.in1 (.cons rx .nil) (hkey i x H' hx s0)) fun r s' hq3 => ?_)
    cases r with
    | error er =>
      obtain ⟨_, _, _, _, _, _, _, _, _, _, _, _, z⟩ := hq3
      exact z.elim
    | ok fl =>
      cases fl with
      | ret u =>
        obtain ⟨y, H4, os, bare, un, hok, ry, rfl, s5⟩ := hq3
        obtain ⟨oI, eI, cI, dI⟩ := id it3
        have eI4 := un.keep _ oI eI n1 (nfr I3 fI) (by simp)
        have eS4 := un.keep _ o hS n2 (nfr I3 fS) (by simp)
        have m1 := un.free _ oI eI n1 (by simp)
        have m2 := un.free _ o hS n2 (by simp)
        obtain ⟨hp4, g4, d4, t4, o4⟩ := s'
        obtain rfl : o4 = s3.os := os
        have I4 : L2.Inv X pins σ H4 { s3 with heap := hp4, gens := g4, drawn := d4, toks := t4 } := I3.call (h' := hp4) (g' := g4) (d' := d4) (t' := t4) (ch := []) un hok bare (fun b z => absurd z (by simp))
        obtain ⟨its4, rl4, p4, _⟩ := I4.list ((s0.trans s5).seq hq)
        exact k u _ ⟨H4, s0.trans s5, I4, m1, m2⟩ ⟨⟨oI, eI4, cI, dI⟩, its4, rl4, p4.isList⟩ eS4 ry fun _ _ h => h
      | next => exact False.elim hq3
      | brk => exact False.elim hq3
      | cont => exact False.elim hq3
  case cmp =>
    intro i j ki kj s3 Q3 E3 _ h1 h2 hq3
    exact hcmp i j ki kj s3 Q3 E3 h1 h2 hq3
  case fin =>
    rintro v s3 ⟨x, hx, rx⟩ ⟨H', s0, I3, _, _⟩
    exact ⟨x, H', I3, rx, q x H' hx s0⟩
theorem call_minF (F : FnR X.prog X.w X.K X.mg X.base (L2.CX X.prog X.w) n g sp) (hr : Room (n + 1) X.A) (hc : X.calm = true) : CallRK X (.builtin "min") [Str.ofString "key"] (rKeyF X.K g sp fun a b => decide (a < b)) := by
  intro pins s σ H vs zs us ws Q I rv rz h
  obtain ⟨a, xs, kf, rfl, rfl, hq, hne, hkey, q⟩ := h
  obtain rfl := Vals.ref1 rv
  obtain rfl := Vals.ref1 rz
  exact call_min_walkK (key_run (lt := fun a b => decide (a < b)) F hr hc (CmpOf.ints_lt kf fun _ _ h => h) I hq hne hkey q)
theorem call_maxF (F : FnR X.prog X.w X.K X.mg X.base (L2.CX X.prog X.w) n g sp) (hr : Room (n + 1) X.A) (hc : X.calm = true) : CallRK X (.builtin "max") [Str.ofString "key"] (rKeyF X.K g sp fun a b => decide (a > b)) := by
  intro pins s σ H vs zs us ws Q I rv rz h
  obtain ⟨a, xs, kf, rfl, rfl, hq, hne, hkey, q⟩ := h
  obtain rfl := Vals.ref1 rv
  obtain rfl := Vals.ref1 rz
  exact call_max_walkK (key_run (lt := fun a b => decide (a > b)) F hr hc (CmpOf.ints_gt kf fun _ _ h => h) I hq hne hkey q)
end
/-! .. with the choice left to the reading -/
def CkD (X0 : Cx) (E : XK) (ks : List Str) (u : Value) (r : List V → List V → Hp → VK → Prop) : Prop := ∀ X, Like X0 X → Pas X E → CallRK X u ks r
def tKwA (X0 : Cx) (E : XK) (x : Str) (ks : List Str) (u : Value) (t tk : TA) : TE := fun σ H Q => X0.mg x = none ∧ t σ H fun vs H1 => tk σ H1 fun zs H2 => ∃ r, CkD X0 E ks u r ∧ r vs zs H2 Q
section
variable {X0 X : Cx} {E : XK} {x : Str} {p pos : Pos} {e : Expr} {es : List Expr} {kws : List Keyword} {t tk : TA} {id : String} {ks : List Str}
theorem pe_kwA (l : Like X0 X) (h : Pas X E) (hg : Gl X x) (hv : bootBuiltins x = some (.builtin id)) (ha : PA X (e :: es) t) (hk : PK X kws tk) (hn : x ≠ "__name__" := by decide) (hdb : (x == ("__debug__" : Str)) = false := by decide)
    (he : backTo pos (starEach (e :: es) X.env) = (false, eval e X.env) :: backTo pos (starEach es X.env) := by rfl) (hpl : (backTo pos (starEach (e :: es) X.env)).any (·.1) = false := by rfl)
    (hall : (backToKw pos (keywordEach kws X.env)).all (·.1.isSome) = true := by rfl) (hnone : (backToKw pos (keywordEach kws X.env)).any (·.1.isNone) = false := by rfl) (hks : (backToKw pos (keywordEach kws X.env)).filterMap (·.1) = ks := by rfl) :
    PE X (.Call (.Name x p) (e :: es) kws pos) (tKwA X0 E x ks (.builtin id) t tk) := by
  refine ⟨fun pins s σ H Q I ⟨hm, q⟩ => ?_⟩
  rw [← l.mg] at hm
  refine wpAny_Call_Name_kw (ld_blt I hg hm hv ?_ hn hdb)
  refine callWith_kw (thn (ha.run pos pins s σ H _ I q) fun us s1 ⟨vs, H1, I1, r1, q1⟩ => thn (hk.run pos pins s1 σ H1 _ I1 q1) fun ws s2 ⟨zs, H2, I2, r2, r, hr, q2⟩ => ?_) he hpl hall hnone
  rw [hks]
  exact hr X l h pins s2 σ H2 vs zs us ws Q I2 r1 r2 q2
variable {σ : L2.St} {H : Hp} {Q : VK} {u : Value}
theorem w_kw (hm : X0.mg x = none) (h : t σ H fun vs H1 => tk σ H1 fun zs H2 => ∃ r, CkD X0 E ks u r ∧ r vs zs H2 Q) : tKwA X0 E x ks u t tk σ H Q := ⟨hm, h⟩
theorem s_minF {k : Nat} {g a : Addr} {sp : Sp} {xs : List V} (kf : Nat → Int) (F : Fn X0 k g sp) (hr : Room (k + 1) X0.A) (hc : X0.calm = true) (hq : SqL X0.K H a xs) (hne : 0 < xs.length) (hkey : ∀ i x H', xs[i]? = some x → Same H H' → sp [x] H' (fun v H2 => v = .int (kf i) ∧ Same H' H2) E0)
    (q : ∀ x H', xs[argBest (fun i j => decide (kf i < kf j)) (xs.length - 1)]? = some x → Same H H' → Q x H') : ∃ r, CkD X0 E [Str.ofString "key"] (.builtin "min") r ∧ r [.ref a] [.ref g] H Q :=
  ⟨rKeyF X0.K g sp fun a b => decide (a < b), fun X l _ => by rw [← l.K]; exact call_minF (l.fn F) (l.room hr) (by rw [l.calm]; exact hc), a, xs, kf, rfl, rfl, hq, hne, hkey, q⟩
theorem s_maxF {k : Nat} {g a : Addr} {sp : Sp} {xs : List V} (kf : Nat → Int) (F : Fn X0 k g sp) (hr : Room (k + 1) X0.A) (hc : X0.calm = true) (hq : SqL X0.K H a xs) (hne : 0 < xs.length) (hkey : ∀ i x H', xs[i]? = some x → Same H H' → sp [x] H' (fun v H2 => v = .int (kf i) ∧ Same H' H2) E0)
    (q : ∀ x H', xs[argBest (fun i j => decide (kf i > kf j)) (xs.length - 1)]? = some x → Same H H' → Q x H') : ∃ r, CkD X0 E [Str.ofString "key"] (.builtin "max") r ∧ r [.ref a] [.ref g] H Q :=
  ⟨rKeyF X0.K g sp fun a b => decide (a > b), fun X l _ => by rw [← l.K]; exact call_maxF (l.fn F) (l.room hr) (by rw [l.calm]; exact hc), a, xs, kf, rfl, rfl, hq, hne, hkey, q⟩
end
end Odd

namespace Odd
open PySem PySem.Spec PyProof.Rows L2
/-! ### a comprehension of two clauses: the items of a list that each item gives -/
section
variable {K : PySem.W.Frag} {a : Addr} {xs : List V} {σ : L2.St} {H : Hp} {Q : VK} {tl te : TE} {wi1 : TI} {vs vs1 : List Nat} {j j1 : Nat}
theorem w_yes {A B : Hp → Prop} {τ : L2.St} {H1 : Hp} (h : A H1) : tYes τ H1 (fun b H3 => if b = true then A H3 else B H3) := by
  show (if true = true then A H1 else B H1)
  rw [if_pos rfl]
  exact h
theorem c_lc2 (Pv : Addr → Nat → List V → Hp → Prop) (h0 : ∀ D, H D = none → Pv D 0 [] (upd H D (.lst []))) (hx : SqL K H a xs) (hz : ∀ D i o H', Pv D i o H' → o.length < 1000000)
    (hw : ∀ x, wipe ((wipe σ vs).set j (some x)) vs = wipe σ vs) (hw1 : ∀ x0 x, wipe ((wipe ((wipe σ vs).set j (some x0)) vs1).set j1 (some x)) vs1 = wipe ((wipe σ vs).set j (some x0)) vs1)
    (hte : ∀ x0 x (R : VK) H', R x H' → te ((wipe ((wipe σ vs).set j (some x0)) vs1).set j1 (some x)) H' R)
    (turn : ∀ D i x H' o, H D = none → xs[i]? = some x → Same H H' → H' D = some (.lst o) → Pv D i o H' → ∀ R : It → Hp → Prop, (∀ b ys H4, Same H' H4 → H' b = none → H4 b = some (.lst ys) → Pv D (i + 1) (o ++ ys) (upd H4 D (.lst (o ++ ys))) → R (Itl K b) H4) → wi1 ((wipe σ vs).set j (some x)) H' R)
    (q : ∀ p o H', H p = none → Same H H' → Pv p xs.length o H' → H' p = some (.lst o) → Q (.ref p) H')
    (ht : ∀ R : VK, R (.ref a) H → tl σ H R) : tLc2 (iSeq K tl) (gName j) tYes wi1 (gName j1) tYes te vs vs1 σ H Q :=
  ht _ ⟨a, rfl, .inl ⟨⟨xs, hx⟩, fun D hD => ⟨fun i m H1 => m = xs.length - i ∧ i ≤ xs.length ∧ ∃ o, Same H H1 ∧ H1 D = some (.lst o) ∧ Pv D i o H1, ⟨xs.length, rfl, Nat.zero_le _, [], same_new hD, upd_same, h0 D hD⟩, fun i m H1 w => by
    obtain ⟨rfl, hi, o, s1, d1, p1⟩ := w
    by_cases hlt : i < xs.length
    · refine .inr ⟨⟨xs, xs[i], s1.seq hx, by simp [hlt]⟩, fun H' => i + 1 ≤ xs.length ∧ ∃ o, Same H H' ∧ H' D = some (.lst o) ∧ Pv D (i + 1) o H', fun H' h => ⟨xs.length - (i + 1), by omega, rfl, h.1, h.2⟩, fun x H' y => ?_⟩
      obtain ⟨e1, e2⟩ := y
      subst e1
      refine ⟨hw x, ?_⟩
      refine w_yes ?_
      refine turn D i x _ o hD (e2 xs (s1.seq hx)) s1 d1 p1 _ fun b ys H4 s4 nb hb p4 => ?_
      have hbD : b ≠ D := fun z => by rw [z, d1] at nb; cases nb
      have d4 := s4 _ _ d1
      have hz4 := hz D (i + 1) _ _ p4
      rw [List.length_append] at hz4
      refine ⟨fun jj k H5 => k = ys.length - jj ∧ jj ≤ ys.length ∧ (∀ c, c ≠ D → H5 c = H4 c) ∧ H5 D = some (.lst (o ++ ys.take jj)), ⟨ys.length, rfl, Nat.zero_le _, fun _ _ => rfl, by rw [List.take_zero, List.append_nil]; exact d4⟩, fun jj k H5 w1 => ?_⟩
      obtain ⟨rfl, hj, k5, d5⟩ := w1
      have hb5 : SqL K H5 b ys := SqL.of (by rw [k5 b hbD]; exact hb)
      by_cases hjl : jj < ys.length
      · refine .inr ⟨⟨ys, ys[jj], hb5, by simp [hjl]⟩, fun H6 => jj + 1 ≤ ys.length ∧ (∀ c, c ≠ D → H6 c = H4 c) ∧ H6 D = some (.lst (o ++ ys.take (jj + 1))), fun H6 h => ⟨ys.length - (jj + 1), by omega, rfl, h.1, h.2⟩, fun x5 H6 y5 => ?_⟩
        obtain ⟨e3, e4⟩ := y5
        subst e3
        have hx5 := e4 ys hb5
        refine ⟨hw1 x x5, ?_⟩
        refine w_yes ?_
        refine hte x x5 _ _ ?_
        refine ⟨o ++ ys.take jj, d5, ?_, hjl, fun c hc => by rw [upd_ne hc]; exact k5 c hc, ?_⟩
        · rw [List.length_append, List.length_take]
          exact Nat.lt_of_lt_of_le (show o.length + min jj ys.length < 1000000 by omega) (by decide)
        · rw [upd_same, List.take_add_one, hx5, ← List.append_assoc]
          rfl
      · obtain rfl : jj = ys.length := by omega
        rw [List.take_of_length_le (Nat.le_refl _)] at d5
        have eH : H5 = upd H4 D (.lst (o ++ ys)) := by
          funext c
          by_cases hc : c = D
          · subst hc
            rw [d5, upd_same]
          · rw [k5 c hc, upd_ne hc]
        refine .inl ⟨⟨ys, hb5, Nat.le_refl _⟩, hlt, o ++ ys, ?_, d5, by rw [eH]; exact p4⟩
        rw [eH]
        exact same_mut (s1.trans s4) hD
    · obtain rfl : i = xs.length := by omega
      exact .inl ⟨⟨xs, s1.seq hx, Nat.le_refl _⟩, q D o H1 hD s1 p1 d1⟩⟩⟩⟩
end
/-! ### the first best -/
theorem argBest_le (bt : Nat → Nat → Bool) : ∀ k, argBest bt k ≤ k
  | 0 => Nat.le_refl _
  | k + 1 => by
    show (if bt (k + 1) (argBest bt k) then k + 1 else argBest bt k) ≤ k + 1
    split
    · exact Nat.le_refl _
    · exact Nat.le_succ_of_le (argBest_le bt k)
theorem argBest_congr {bt bt' : Nat → Nat → Bool} : ∀ k, (∀ i j, i ≤ k → j ≤ k → bt i j = bt' i j) → argBest bt k = argBest bt' k
  | 0, _ => rfl
  | k + 1, h => by
    have e := argBest_congr k fun i j hi hj => h i j (by omega) (by omega)
    show (if bt (k + 1) (argBest bt k) then k + 1 else argBest bt k) = (if bt' (k + 1) (argBest bt' k) then k + 1 else argBest bt' k)
    rw [← e, h (k + 1) (argBest bt k) (Nat.le_refl _) (Nat.le_succ_of_le (argBest_le bt k))]
/-- the first of the least -/
theorem argBest_min (f : Nat → Int) : ∀ k, (∀ i, i ≤ k → f (argBest (fun i j => decide (f i < f j)) k) ≤ f i) ∧ ∀ i, i < argBest (fun i j => decide (f i < f j)) k → f (argBest (fun i j => decide (f i < f j)) k) < f i
  | 0 => ⟨fun i h => by rw [Nat.le_zero.1 h]; exact Int.le_refl _, fun i h => absurd h (Nat.not_lt_zero _)⟩
  | k + 1 => by
    obtain ⟨h1, h2⟩ := argBest_min f k
    show (∀ i, i ≤ k + 1 → f (if decide (f (k + 1) < f (argBest (fun i j => decide (f i < f j)) k)) = true then k + 1 else argBest (fun i j => decide (f i < f j)) k) ≤ f i) ∧ _
    by_cases h : f (k + 1) < f (argBest (fun i j => decide (f i < f j)) k)
    · have e : argBest (fun i j => decide (f i < f j)) (k + 1) = k + 1 := by
        show (if _ then _ else _) = _
        rw [if_pos (decide_eq_true h)]
      rw [if_pos (decide_eq_true h), e]
      refine ⟨fun i hi => ?_, fun i hi => ?_⟩
      · rcases Nat.lt_or_ge i (k + 1) with z | z
        · have := h1 i (by omega); omega
        · rw [show i = k + 1 by omega]; exact Int.le_refl _
      · have := h1 i (by omega)
        omega
    · have e : argBest (fun i j => decide (f i < f j)) (k + 1) = argBest (fun i j => decide (f i < f j)) k := by
        show (if _ then _ else _) = _
        rw [if_neg (by simpa using h)]
      rw [if_neg (by simpa using h), e]
      refine ⟨fun i hi => ?_, h2⟩
      rcases Nat.lt_or_ge i (k + 1) with z | z
      · exact h1 i (by omega)
      · rw [show i = k + 1 by omega]; omega
end Odd

namespace Odd
open PySem PySem.Spec PyProof.Rows L2
/-! ### a try with several statements: what runs within it -/
section
variable {X0 X : Cx}
theorem likeT {pn : List (Addr × Obj)} {xe : Value → Shared → Prop} : Like X (X.tr pn xe) := ⟨rfl, rfl, rfl, rfl, rfl, rfl, rfl⟩
theorem likeS {b : Addr} {pn : List (Addr × Obj)} : Like (X.suite b []) (X.suite b pn) := ⟨rfl, rfl, rfl, rfl, rfl, rfl, rfl⟩
theorem pas0 : Pas X (fun _ _ _ => False) := fun _ _ _ _ _ _ _ ⟨_, _, _, _, _, _, _, _, _, _, _, _, z⟩ => z.elim
/-- o.m(e, ..) within a try: what it raises goes to the handlers -/
def tMeT (X0 : Cx) (W : WX) (m : Str) (ta : TE) (t : TA) : TE := fun σ H Q => ta σ H fun x H1 => ∃ a C dx fs g k sp, x = .ref a ∧ H1 a = some (.ins C dx fs) ∧ Cls X0.K C ∧ Meth X0.K C m g ∧ PySem.W.keepIn X0.K (.ref g) = true ∧ fs.lookup m = none ∧
  Fn X0 k g sp ∧ Room k X0.A ∧ t σ H1 fun vs H2 => ∃ Ef : XK, (∀ cls d H', Ef cls d H' → W cls d σ H') ∧ sp (x :: vs) H2 Q Ef
theorem pe_meT {W : WX} {o e : Expr} {es : List Expr} {ta : TE} {t : TA} {m : Str} {pos apos : Pos} {pl : Sem Bool} (l : Like X0 X) (tk : L2.Takes X W) (he : PE X o ta) (ha : PA X (e :: es) t)
    (hst : starEach (e :: es) X.env = (false, eval e X.env) :: starEach es X.env := by rfl) (hpl : (backTo pos (starEach es X.env)).any (·.1) = false := by rfl)
    (ht : eval (.Call (.Attribute o m apos) (e :: es) [] pos) X.env = (do
      let ov ← eval o X.env
      standAt apos.atName
      let (f, first) ← holding [ov] (getMethod ov m pl)
      callWith pos f first (backTo pos (starEach (e :: es) X.env)) (backToKw pos (keywordEach [] X.env))) := by rfl) :
    PE X (.Call (.Attribute o m apos) (e :: es) [] pos) (tMeT X0 W m ta t) := by
  refine ⟨fun pins s σ H Q I hq => ?_⟩
  refine PySem.W.methodCall_KW (pl := pl) (thn (he.run pins s σ H _ I hq) fun u s1 ⟨x, H1, I1, rx, a, C, dx, fs, g, k, sp, ex, ea, c, hm, hk, lk, F, hr, q⟩ => ?_) ht
  subst ex
  obtain rfl : u = Value.ref a := rx
  rw [← l.K] at c hm hk
  refine getmeth_ok I1 ea c hm lk ?_
  refine PySem.W.callWith_K (first := [.ref a]) (h₀ := X.base) I.ok.mod.kin hm.kp (thn (ha.run pos pins s1 σ H1 _ I1 q) fun us s2 ⟨vs, H2, I2, r, Ef, hW, q2⟩ => ⟨I2.kIn, ?_⟩) hst hpl
  refine wpAny_call (codeAny_mono ((l.fn F) X.A X.stack s2 H2 (.ref a :: us) (.ref a :: vs) Q Ef (l.room hr) I2.env0 (.cons rfl r) q2) fun r s' hq => ?_)
  cases r with
  | error e => exact tk _ _ (L2.XE.of_call I2 hW hq)
  | ok fl =>
    cases fl with
    | ret u => exact I2.after hq
    | next => exact False.elim hq
    | brk => exact False.elim hq
    | cont => exact False.elim hq
theorem w_meT {W : WX} {m : Str} {ta : TE} {t : TA} {σ : L2.St} {H : Hp} {Q : VK} (h : ta σ H fun x H1 => ∃ a C dx fs g k sp, x = .ref a ∧ H1 a = some (.ins C dx fs) ∧ Cls X0.K C ∧ Meth X0.K C m g ∧ PySem.W.keepIn X0.K (.ref g) = true ∧ fs.lookup m = none ∧
  Fn X0 k g sp ∧ Room k X0.A ∧ t σ H1 fun vs H2 => ∃ Ef : XK, (∀ cls d H', Ef cls d H' → W cls d σ H') ∧ sp (x :: vs) H2 Q Ef) : tMeT X0 W m ta t σ H Q := h
end
end Odd

namespace Odd
open PySem PySem.Spec PyProof.Rows L2 SeqAt
/-! ### lists compared, sorted, and a place put in -/
def ltI (ns ms : List Int) : Bool := firstLt (fun j => decide (ns.getD j 0 = ms.getD j 0)) (fun j => decide (ns.getD j 0 < ms.getD j 0)) (decide (ns.length < ms.length)) (List.range (min ns.length ms.length))
def rLtL (K : PySem.W.Frag) : R2 := fun x y H Q => ∃ (a b : Addr) (ns ms : List Int), x = .ref a ∧ y = .ref b ∧ SqL K H a (ns.map V.int) ∧ SqL K H b (ms.map V.int) ∧ Q (.bl (ltI ns ms)) H
/-- the items of a row of ints -/
theorem row_at {us : List Value} {ns : List Int} (h : IntsAre us ns) : ∀ i (hi : i < us.toArray.size), ∃ t, us.toArray[i] = Value.int (ns.getD i 0) t := by
  induction h with
  | nil => exact fun i hi => absurd hi (Nat.not_lt_zero _)
  | cons c t _ ih =>
    intro i hi
    cases i with
    | zero => exact ⟨t, rfl⟩
    | succ i =>
      obtain ⟨t', e⟩ := ih i (by simpa using hi)
      exact ⟨t', by simpa using e⟩
theorem op_ltL {X : Cx} (hu : X.A.units < cLine) : OpR X (compareOp .Lt) (rLtL X.K) := by
  rintro pins sh τ G left right lv rv Z I rl rr ⟨p, p', ks, ls, rfl, rfl, hp, hp', goal⟩
  obtain rfl : lv = Value.ref p := rl
  obtain rfl : rv = Value.ref p' := rr
  obtain ⟨us, vu, pu, -⟩ := I.list hp
  obtain ⟨ws, vw, pw, -⟩ := I.list hp'
  have iu := row_at vu.ints
  have iw := row_at vw.ints
  have lu : us.toArray.size = ks.length := by simpa using vu.ints.length
  have lw : ws.toArray.size = ls.length := by simpa using vw.ints.length
  have low := RcLt.lists (A := X.A) (s := sh) (e := fun i => decide (ks.getD i 0 = ls.getD i 0)) (r := fun i => decide (ks.getD i 0 < ls.getD i 0)) pu.isList pw.isList hu
    (fun i h h' => by
      obtain ⟨t, et⟩ := iu i h
      obtain ⟨t', et'⟩ := iw i h'
      rw [et, et']
      exact EqAt.int_int (ks.getD i 0) t (ls.getD i 0) t')
    (fun i h h' _ => by
      obtain ⟨t, et⟩ := iu i h
      obtain ⟨t', et'⟩ := iw i h'
      rw [et, et']
      exact fun _ _ _ _ k => lt_int k)
  rw [lu, lw] at low
  exact low X.prog X.w X.xe (EP X pins τ Z) ⟨V.bl (ltI ks ls), G, I, rfl, goal⟩
section
variable {X0 : Cx} {E : XK} {H : Hp} {Q : VK}
theorem s_ltL {a b : Addr} {ns ms : List Int} (hu : X0.A.units + 64 < cLine) (ha : SqL X0.K H a (ns.map V.int)) (hb : SqL X0.K H b (ms.map V.int)) (q : Q (.bl (ltI ns ms)) H) : ∃ r, OpD X0 E (compareOp .Lt) r ∧ r (.ref a) (.ref b) H Q :=
  ⟨rLtL X0.K, fun X l _ => by rw [← l.K]; exact op_ltL (by rw [l.A]; omega), a, b, ns, ms, rfl, rfl, ha, hb, q⟩
theorem s_sortI {a : Addr} {ns : List Int} (ha : SqL X0.K H a (ns.map V.int)) (q : ∀ (ns' : List Int) (p : Addr), ns'.Perm ns → ns'.Pairwise (· ≤ ·) → H p = none → Q (.ref p) (upd H p (.lst (ns'.map V.int)))) : ∃ r, CaD X0 E (.builtin "sorted") r ∧ r [.ref a] H Q :=
  ⟨rSortedI X0.K, fun X l _ => by rw [← l.K]; exact cr_sortedI, a, ns, rfl, ha, q⟩
end
/-! ### from the first that differs -/
theorem firstLt_true (e r : Nat → Bool) : ∀ c lo : Nat, firstLt e r false (List.range' lo c) = true → ∃ j, lo ≤ j ∧ j < lo + c ∧ r j = true ∧ ∀ i, lo ≤ i → i < j → e i = true
  | 0, lo, h => by cases h
  | c + 1, lo, h => by
    rw [List.range'_succ] at h
    by_cases he : e lo = true
    · rw [firstLt_yes he] at h
      obtain ⟨j, h1, h2, h3, h4⟩ := firstLt_true e r c (lo + 1) h
      refine ⟨j, by omega, by omega, h3, fun i hi hj => ?_⟩
      by_cases hl : i = lo
      · rw [hl]; exact he
      · exact h4 i (by omega) hj
    · have e1 : firstLt e r false (lo :: List.range' (lo + 1) c) = r lo := if_neg he
      rw [e1] at h
      exact ⟨lo, Nat.le_refl _, by omega, h, fun i h1 h2 => by omega⟩
/-- a before b: the first place that differs is less -/
def Lx (a b : List Nat) : Prop := ∃ (j x y : Nat), a[j]? = some x ∧ b[j]? = some y ∧ x < y ∧ ∀ i, i < j → a[i]? = b[i]?
theorem Lx.asymm {a b : List Nat} (h : Lx a b) (h' : Lx b a) : False := by
  obtain ⟨j, x, y, h1, h2, h3, h4⟩ := h
  obtain ⟨j', x', y', g1, g2, g3, g4⟩ := h'
  rcases Nat.lt_trichotomy j j' with z | z | z
  · have e := g4 j z
    rw [h1, h2] at e
    injection e with e
    omega
  · subst z
    rw [h1] at g2
    rw [h2] at g1
    injection g1 with e1
    injection g2 with e2
    omega
  · have e := h4 j' z
    rw [g1, g2] at e
    injection e with e
    omega
end Odd

namespace Odd
open PySem PySem.Spec PyProof.Rows L2 PpSet
/-! ### {e for x in xs}, e an int -/
section
variable {X : Cx}
def tScI (w : World) (wi : TI) (g : TG) (te : TE) (vs : List Nat) : TE := fun σ H Q => wi σ H fun J H1 => ∀ D, H1 D = none → ∃ W : Nat → Nat → Hp → Prop, (∃ m, W 0 m (upd H1 D (SetO w D (fun _ => false) 0))) ∧ ∀ i m H, W i m H →
  (J.stop i H ∧ Q (.ref D) H) ∨ (J.go i H ∧ ∃ Nx : Hp → Prop, (∀ H', Nx H' → ∃ m', m' < m ∧ W (i + 1) m' H') ∧ ∀ x H', J.yld i H x H' → g x (wipe σ vs) H' fun σ2 H2 => wipe σ2 vs = wipe σ vs ∧ te σ2 H2 fun y H4 =>
    ∃ (c : Int) (S : Int → Bool) (n : Nat), y = .int c ∧ H4 D = some (SetO w D S n) ∧ n + 1 < scanBound ∧ Nx (upd H4 D (SetO w D (fun j => S j || decide (j = c)) (if S c = true then n else n + 1))))
/-- an int put in -/
theorem put_int {pins : List (Addr × Obj)} {σ : L2.St} {H : Hp} {s : Shared} {E : Value → Shared → Prop} {D : Addr} {S : Int → Bool} {n : Nat} {c : Int} {t : Tok} {R : Value → Shared → Prop} (I : Inv X pins σ H s) (atD : H D = some (SetO X.w D S n)) (few : n + 1 < scanBound)
    (k : ∀ s', Inv X pins σ (upd H D (SetO X.w D (fun j => S j || decide (j = c)) (if S c = true then n else n + 1))) s' → R .none s') : wpAny (model X.prog X.w) X.A (call (.builtin "set.add") [.ref D, .int c t]) R E s := by
  refine setR_add (setO_get I atD) few fun h' but made => k _ ?_
  refine I.write (e := D) (t' := s.toks + 1) (by rw [atD]; trivial) (.inl rfl) (fun b u hb hu => (but.2 b hb).trans hu) ?_ (setO_new made)
  obtain ⟨o, _, _, _, ho, _⟩ := made
  exact ⟨o, ho⟩
theorem pe_scI {elt tg iter : Expr} {scope : Scope} {own : List (Str × Nat)} {pos : Pos} {wi : TI} {g : TG} {te : TE} (calm : X.calm = true) (nd : X.N.Nodup) (hi : PI X tg iter wi) (ok : BlkOk X.N X.env.scope scope own)
    (hg : ∀ (s : Shared) (H : Hp) (C : Addr) (cl : List (Str × Addr)) (fp : List Addr), PG (X.blk s H scope (compEnvC scope cl C X.env) fp) tg g)
    (he : ∀ (s : Shared) (H : Hp) (C : Addr) (cl : List (Str × Addr)) (fp : List Addr), PE (X.blk s H scope (compEnvC scope cl C X.env) fp) elt te) (fold : ∀ x, foldedSetIterable iter X.env x = pure x := by intro _; rfl) :
    PE X (.SetComp elt [⟨tg, iter, [], 0⟩] scope pos) (tScI X.w wi g te (own.map (·.2))) := by
  refine ⟨fun pins s σ H Q I start => ?_⟩
  rw [eval_SetComp]
  have cellOf : ∀ y ∈ scope.names, y.2 = .free → ∃ c, X.env.cells.lookup y.1 = some c := fun y hy e => (ok.free y hy e).elim (fun k => I.ok.has _ (.inl k)) fun k => I.ok.has _ (.inr k)
  refine wpAny_comprehension_free (use := none) rfl fold (closure_ok cellOf) ok.kind (fun y hy e => (ok.uniq y hy).trans (by rw [e])) (thn (hi.run pins s σ H _ I start) fun _ s1 run1 => thn run1 fun _ s2 run2 => ?_)
  obtain ⟨it, fp, tn, J, H2, rfl, I2, T, walk2, free2, body⟩ := run2
  refine newSet_ok (newEnv_comp ?_)
  obtain ⟨D, eD⟩ : ∃ D, D = s2.heap.objs.size := ⟨_, rfl⟩
  rw [← eD]
  have newD : H2 D = none := I2.hok.fresh (by rw [eD]; exact Nat.le_refl _)
  -- the set, empty
  obtain ⟨ob, eob⟩ : ∃ ob : Obj, ob = { cls := .type "set", dict := none, data := .set #[] 0 (.fresh 0 0 (!X.w.params.followText "set-order")) } := ⟨_, rfl⟩
  obtain ⟨s3, e3⟩ : ∃ s3 : Shared, s3 = { s2 with heap := s2.heap.push ob } := ⟨_, rfl⟩
  have heap3 : s3.heap = s2.heap.push ob := by rw [e3]
  obtain ⟨H3, eH3⟩ : ∃ H3, H3 = upd H2 D (SetO X.w D (fun _ => false) 0) := ⟨_, rfl⟩
  have I3 : Inv X pins σ H3 s3 := by
    rw [e3, eH3, eD, eob]
    exact I2.laid (t' := s2.toks) (fun b o e => Heap.get?_push_of_some _ e) (Nat.le_refl _) (setO_new (setR_fresh X.w))
  have under : ∀ b ∈ fp, b < s2.heap.objs.size := fun b hb => let ⟨_, e, _⟩ := T.obj _ _ walk2 b hb; Heap.lt_size e
  have free3 : ∀ b ∈ fp, FpOk X pins H3 b ∧ b < s3.heap.objs.size := fun b hb => by
    have lt := under b hb
    refine ⟨⟨?_, (free2 b hb).2⟩, by rw [heap3, Heap.size_push]; exact Nat.lt_succ_of_lt lt⟩
    rw [eH3, upd_ne (by rw [eD]; exact Nat.ne_of_lt lt)]
    exact (free2 b hb).1
  have walk3 : tn 0 s3.heap := T.keep _ _ _ walk2 fun b _ o e => by rw [heap3]; exact Heap.get?_push_of_some _ e
  obtain ⟨W, ⟨m0, w0⟩, turns⟩ := body D newD
  rw [← eH3] at w0
  have I4 := block_start I3 ok nd free3
  have goes := hg s3 H3 s3.heap.objs.size (cellsFrom (s3.heap.objs.size + 1) scope.names (cloFrom X.env.cells scope.names [])) fp
  have elem := he s3 H3 s3.heap.objs.size (cellsFrom (s3.heap.objs.size + 1) scope.names (cloFrom X.env.cells scope.names [])) fp
  rw [← eob]
  have shown : ({ s2 with heap := s2.heap.push ob } : Shared) = s3 := e3.symm
  rw [shown]
  show codeAny _ _ (.compStart (.SetComp elt [⟨tg, iter, [], 0⟩] scope pos) 0 (.ref it) (.ref D) (compEnvC scope (cellsFrom (s3.heap.objs.size + 1) scope.names (cloFrom X.env.cells scope.names [])) s3.heap.objs.size X.env)) (compPost (model X.prog X.w) X.A X.xe none (EP X pins σ Q) (.ref D) s3.heap.objs.size) { s3 with heap := pushCells (s3.heap.push { cls := .type "dict", data := .dict #[] }) scope.names }
  have locD : (compEnvC scope (cellsFrom (s3.heap.objs.size + 1) scope.names (cloFrom X.env.cells scope.names [])) s3.heap.objs.size X.env).locals = s3.heap.objs.size := rfl
  generalize compEnvC scope (cellsFrom (s3.heap.objs.size + 1) scope.names (cloFrom X.env.cells scope.names [])) s3.heap.objs.size X.env = ce at I4 goes elem locD ⊢
  obtain ⟨s4, e4⟩ : ∃ s4 : Shared, s4 = { s3 with heap := pushCells (s3.heap.push { cls := .type "dict", data := .dict #[] }) scope.names } := ⟨_, rfl⟩
  rw [← e4] at I4 ⊢
  have walk4 : tn 0 s4.heap := T.keep _ _ _ walk3 fun b _ o e => by rw [e4]; exact pushCells_keeps _ _ _ _ (Heap.get?_push_of_some _ e)
  have still : ∀ {σ' : L2.St} {H' : Hp} {s' : Shared}, Inv (X.blk s3 H3 scope ce fp) [] σ' H' s' → (∀ b ∈ fp, H' b = none) → ∀ b ∈ fp, FpOk (X.blk s3 H3 scope ce fp) [] H' b := fun {σ' H' s'} I' hn b hb =>
    ⟨hn b hb, (I'.ok.exf b hb).1, I'.ok.exfs b hb, .inl hb, fun x c e => (I'.ok.exf b hb).2 x c e, fun p hp => absurd (show p ∈ ([] : List (Addr × Obj)) ++ [] from hp) (by simp)⟩
  have loop : codeAny (model X.prog X.w) X.A (.compLoop (.SetComp elt [⟨tg, iter, [], 0⟩] scope pos) 0 (.ref it) (.ref D) ce) (compPost (model X.prog X.w) X.A X.xe none (EP X pins σ Q) (.ref D) s3.heap.objs.size) s4 := by
    refine compLoopS_any (fun n s' => ∃ i H', Inv (X.blk s3 H3 scope ce fp) [] (wipe σ (own.map (·.2))) H' s' ∧ tn i s'.heap ∧ (∀ b ∈ fp, H' b = none) ∧ W i n H') (fun n s5 inv5 => ?_) m0 ⟨0, H3, I4, walk4, fun b hb => (free3 b hb).1.1, w0⟩
    obtain ⟨i, H5, I5, walk5, none5, w5⟩ := inv5
    rcases turns i n H5 w5 with ⟨stop, last⟩ | ⟨go, Nx, next, step⟩
    · refine thnF (T.done (X.blk s3 H3 scope ce fp) rfl rfl rfl calm i [] s5 _ H5 (fun _ _ => False) I5 (still I5 none5) walk5 stop) fun r s6 ⟨er, I6⟩ => ?_
      subst er
      have back : Inv X pins σ H5 s6 := I3.call' (ch := fp) I6.os I6.base I6.hok I6.bare fun b hb => let z := (free3 b hb).1; ⟨z.2.2.2.1, z.2.1, z.2.2.2.2.1, z.2.2.2.2.2⟩
      have gone : H5 s3.heap.objs.size = none := by
        have z : H5 ce.locals = none := I6.free
        rwa [locD] at z
      obtain ⟨m, ns, _⟩ := I6.loc
      have ns : s6.heap.Ns ce.locals m := ns
      rw [locD] at ns
      refine ⟨m, ns, fun h7 only => ?_⟩
      obtain ⟨f0, f1, f2, f3, f4, f5⟩ := I3.fpOk (Nat.le_refl _) gone
      exact ⟨.ref D, H5, back.turned (t' := s6.toks) (fun b o hb e => (only.2 b hb).trans e) f0 f1 f3 f4 f5, rfl, last⟩
    · refine thnF (T.item (X.blk s3 H3 scope ce fp) rfl rfl rfl calm i [] s5 _ H5 (fun _ _ => False) I5 (still I5 none5) walk5 go) fun r s6 ⟨u, er, run6⟩ => ?_
      subst er
      refine thnF run6 fun _ s7 ⟨x, H7, I7, rx, yl, walk7, none7⟩ => ?_
      have pinned := I7.pinned (still I7 none7) (T.obj _ _ walk7)
      refine thnF (goes.run _ s7 _ H7 x u _ pinned rx (step x H7 yl)) fun _ s8 ⟨σ8, H8, I8, same8, q8⟩ => ?_
      have done : ∀ {s' : Shared} {H' : Hp}, Inv (X.blk s3 H3 scope ce fp) ([] ++ pinsAt fp s7.heap) σ8 H' s' → Nx H' → ∃ m, m < n ∧ ∃ i H', Inv (X.blk s3 H3 scope ce fp) [] (wipe σ (own.map (·.2))) H' s' ∧ tn i s'.heap ∧ (∀ b ∈ fp, H' b = none) ∧ W i m H' := fun {s' H'} I' nx => by
        obtain ⟨m', lt, w'⟩ := next H' nx
        have pin' : ∀ b ∈ fp, ∀ o, s7.heap.get? b = some o → s'.heap.get? b = some o ∧ H' b = none := fun b hb o e => ⟨(I'.pin (b, o) (List.mem_append_right _ (List.mem_append_right _ (mem_pinsAt hb e)))).1, (I'.pin (b, o) (List.mem_append_right _ (List.mem_append_right _ (mem_pinsAt hb e)))).2.1⟩
        refine ⟨m', lt, i + 1, H', (I'.unpinned (pins := [])).weak (by rw [← same8, wipe_length]) (fun j v e => (wipe_some (by rw [same8]; exact e)).1), T.keep _ _ _ walk7 fun b hb o e => (pin' b hb o e).1, fun b hb => ?_, w'⟩
        obtain ⟨o, e, _⟩ := T.obj _ _ walk7 b hb
        exact (pin' b hb o e).2
      refine thnF ((pts_nil (X := X.blk s3 H3 scope ce fp)).run _ s8 σ8 H8 (fun b H9 => b = true ∧ H9 = H8) I8 (show _ from ⟨rfl, rfl⟩)) fun b s9 ⟨H9, I9, eb, e9⟩ => ?_
      subst eb e9
      rw [if_pos rfl]
      refine thnF (elem.run _ s9 σ8 _ _ I9 q8) fun z s10 ⟨yv, H10, I10, ry, c, S, k, ey, atD, few, nx⟩ => ?_
      subst ey
      obtain ⟨tk, ez⟩ := (show ∃ t, z = Value.int c t from ry)
      subst ez
      exact put_int (X := X.blk s3 H3 scope ce fp) I10 atD few fun s11 I11 => done I11 nx
  exact codeAny_compStart_set loop (T.self X.A 0 _ _ _ walk4 loop)
end
end Odd

namespace Odd
open PySem PySem.Spec PyProof.Rows L2
/-! ### the set of what a tuple's items give -/
section
variable {w : World} {K : PySem.W.Frag} {a : Addr} {xs : List V} {σ : L2.St} {H : Hp} {Q : VK} {tl te : TE} {vs : List Nat} {j : Nat}
theorem c_scT (ys : List Int) (hl : ys.length = xs.length) (h63 : xs.length ≤ 63) (hx : SqT K H a xs) (hw : ∀ x, wipe ((wipe σ vs).set j (some x)) vs = wipe σ vs)
    (turn : ∀ (i : Nat) x y H', xs[i]? = some x → ys[i]? = some y → Same H H' → ∀ R : VK, (∀ H4, Same H' H4 → R (.int y) H4) → te ((wipe σ vs).set j (some x)) H' R)
    (q : ∀ D n H', H D = none → Same H H' → n ≤ ys.length → H' D = some (SetO w D (fun k => decide (k ∈ ys)) n) → Q (.ref D) H')
    (ht : ∀ R : VK, R (.ref a) H → tl σ H R) : tScI w (iSeq K tl) (gName j) te vs σ H Q :=
  ht _ ⟨a, rfl, .inr ⟨⟨xs, hx⟩, fun D hD => ⟨fun i m H1 => m = xs.length - i ∧ i ≤ xs.length ∧ Same H H1 ∧ ∃ n, n ≤ i ∧ H1 D = some (SetO w D (fun k => decide (k ∈ ys.take i)) n),
    ⟨xs.length, rfl, Nat.zero_le _, same_new hD, 0, Nat.le_refl _, by
      rw [upd_same]
      exact congrArg (fun S => some (SetO w D S 0)) (funext fun k => by simp)⟩, fun i m H1 z => by
    obtain ⟨rfl, hi, s1, n, hn, d1⟩ := z
    by_cases hlt : i < xs.length
    · refine .inr ⟨⟨xs, xs[i], same_t s1 hx, by simp [hlt]⟩, fun H' => i + 1 ≤ xs.length ∧ Same H H' ∧ ∃ n, n ≤ i + 1 ∧ H' D = some (SetO w D (fun k => decide (k ∈ ys.take (i + 1))) n), fun H' h => ⟨xs.length - (i + 1), by omega, rfl, h.1, h.2⟩, fun x H' y => ?_⟩
      obtain ⟨e1, e2⟩ := y
      subst e1
      have hy : i < ys.length := by omega
      refine ⟨hw x, turn i x ys[i] _ (e2 xs (same_t s1 hx)) (List.getElem?_eq_getElem hy) s1 _ fun H4 s4 => ?_⟩
      refine ⟨ys[i], _, n, rfl, s4 _ _ d1, Nat.lt_of_le_of_lt (show n + 1 ≤ 64 by omega) (by decide), hlt, same_mut (s1.trans s4) hD, (if decide (ys[i] ∈ ys.take i) = true then n else n + 1), ?_, ?_⟩
      · split <;> omega
      · rw [upd_same]
        refine congrArg (fun S => some (SetO w D S _)) (funext fun k => ?_)
        rw [List.take_add_one, List.getElem?_eq_getElem hy, Bool.eq_iff_iff, Bool.or_eq_true, decide_eq_true_iff, decide_eq_true_iff, decide_eq_true_iff, List.mem_append]
        show _ ∨ _ ↔ _ ∨ k ∈ [ys[i]]
        rw [List.mem_singleton]
    · obtain rfl : i = xs.length := by omega
      rw [List.take_of_length_le (by omega)] at d1
      exact .inl ⟨⟨xs, same_t s1 hx, Nat.le_refl _⟩, q D n H1 hD s1 (by omega) d1⟩⟩⟩⟩
end
section
variable {X0 : Cx} {E : XK} {H : Hp} {Q : VK}
theorem s_sortSet {a : Addr} {S : Int → Bool} {n : Nat} (hc : X0.calm = true) (ha : H a = some (SetO X0.w a S n)) (h64 : n < 64)
    (q : ∀ (ns : List Int) (p : Addr), ns.Pairwise (· < ·) → (∀ k : Int, k ∈ ns ↔ S k = true) → H p = none → Q (.ref p) (upd H p (.lst (ns.map V.int)))) : ∃ r, CaD X0 E (.builtin "sorted") r ∧ r [.ref a] H Q :=
  ⟨rSortedSet X0.w, fun X l _ => by rw [← l.w]; exact cr_sortedSet (by rw [l.calm]; exact hc), a, S, n, rfl, ha, h64, fun ns p h1 h2 _ h4 => q ns p h1 h2 h4⟩
end
theorem asc_ext {xs ys : List Int} (hx : xs.Pairwise (· < ·)) (hy : ys.Pairwise (· < ·)) (h : ∀ k, k ∈ xs ↔ k ∈ ys) : xs = ys := by
  have nd : ∀ {l : List Int}, l.Pairwise (· < ·) → l.Nodup := fun p => p.imp fun h => by omega
  refine List.Perm.eq_of_pairwise (le := fun a b : Int => a ≤ b) (fun a b _ _ h1 h2 => Int.le_antisymm h1 h2) (hx.imp fun h => by omega) (hy.imp fun h => by omega) ?_
  rw [List.perm_iff_count]
  intro c
  rw [List.Nodup.count (nd hx), List.Nodup.count (nd hy)]
  by_cases z : c ∈ xs
  · rw [if_pos z, if_pos ((h c).1 z)]
  · rw [if_neg z, if_neg fun u => z ((h c).2 u)]
end Odd

namespace Odd
open PySem PySem.Spec PyProof.Rows L2 SeqAt
/-! ### two tuples of the very same objects -/
theorem vals_refs : ∀ {ps : List Addr} {us : List Value}, Vals (ps.map V.ref) us → us = ps.map Value.ref
  | [], _, .nil => rfl
  | p :: ps, _, .cons r h => by
    rw [show _ = Value.ref p from r, vals_refs h]
    rfl
def rSameT (K : PySem.W.Frag) : R2 := fun x y H Q => ∃ (a b : Addr) (ps : List Addr), x = .ref a ∧ y = .ref b ∧ SqT K H a (ps.map V.ref) ∧ SqT K H b (ps.map V.ref) ∧ Q (.bl true) H
theorem op_sameT {X : Cx} (hu : X.A.units < cLine) : OpR X (compareOp .Eq) (rSameT X.K) := by
  intro pins s σ H x y v u Q I rx ry h
  obtain ⟨a, b, ps, rfl, rfl, ha, hb, q⟩ := h
  cases rx
  cases ry
  obtain ⟨its, r1, p1, _⟩ := I.tuple ha
  obtain ⟨its2, r2, p2, _⟩ := I.tuple hb
  obtain rfl := vals_refs r1
  obtain rfl := vals_refs r2
  have R := RcAt.tuples (A := X.A) (s := s) (e := fun _ => true) p1 p2 hu fun j h1 h2 => EqAt.same _
  rw [show ((List.range (min (ps.map Value.ref).toArray.size (ps.map Value.ref).toArray.size)).all (fun _ => true) && (ps.map Value.ref).toArray.size == (ps.map Value.ref).toArray.size) = true by simp] at R
  have z : wpAny (model X.prog X.w) X.A (compareOp .Eq (.ref a) (.ref b)) (EP X pins σ Q) X.xe s := R X.prog X.w X.xe (EP X pins σ Q) ⟨.bl _, H, I, rfl, q⟩
  exact z
theorem s_sameT {X0 : Cx} {E : XK} {H : Hp} {Q : VK} {a b : Addr} {ps : List Addr} (hu : X0.A.units + 64 < cLine) (ha : SqT X0.K H a (ps.map V.ref)) (hb : SqT X0.K H b (ps.map V.ref)) (q : Q (.bl true) H) : ∃ r, OpD X0 E (compareOp .Eq) r ∧ r (.ref a) (.ref b) H Q :=
  ⟨rSameT X0.K, fun X l _ => by rw [← l.K]; exact op_sameT (by rw [l.A]; omega), a, b, ps, rfl, rfl, ha, hb, q⟩
theorem w_bm0 {K : PySem.W.Frag} {T : String} {r : V → List V → Hp → VK → Prop} {to : TE} {σ : L2.St} {H : Hp} {Q : VK} (h : to σ H fun x H1 => tyV K T x H1 ∧ r x [] H1 Q) : tBM0 K T r to σ H Q := h
end Odd

namespace Odd
open PySem PySem.Spec PyProof.Rows L2
/-! ### dicts with tuples as keys -/
section
variable {X0 : Cx} {E : XK} {H : Hp} {Q : VK}
theorem s_ixDT {k : Nat} {p b : Addr} {kvs : List (List Key × V)} {key : List Key} {v : V} (hr : Room k X0.A) (h : H p = some (.dT kvs)) (hb : H b = some (.tup (key.map kV))) (e : valV kvs key = some v) (q : Q v H) : ∃ r, IxD X0 E r ∧ r (.ref p) (.ref b) H Q :=
  ⟨rIxK, fun X l _ => ix_dict (hu1 (l.room hr)), p, v, rfl, by rw [← e]; exact DGet.t h hb, q⟩
def rNotInD : R2 := fun x y H Q => ∃ (a : Addr) (o : Option V), y = .ref a ∧ DGet H a x o ∧ Q (.bl (!o.isSome)) H
theorem op_notInD {X : Cx} (hu : X.A.units + 1 < cLine) : OpR X (compareOp .NotIn) rNotInD := by
  intro pins s σ H x y v u Q I rx ry h
  obtain ⟨a, o, rfl, g, q⟩ := h
  obtain rfl : u = Value.ref a := ry
  exact d_notIn hu I g rx fun s' I' => ⟨.bl _, H, I', rfl, q⟩
theorem s_notInDT {k : Nat} {p b : Addr} {kvs : List (List Key × V)} {key : List Key} (hr : Room k X0.A) (h : H p = some (.dT kvs)) (hb : H b = some (.tup (key.map kV))) (q : Q (.bl (!(valV kvs key).isSome)) H) : ∃ r, OpD X0 E (compareOp .NotIn) r ∧ r (.ref b) (.ref p) H Q :=
  ⟨rNotInD, fun X l _ => op_notInD (hu1 (l.room hr)), p, _, rfl, DGet.t h hb, q⟩
end
end Odd

namespace Odd
open PySem PySem.Spec PyProof.Rows L2
/-! ### {t: v}, t a tuple -/
section
variable {X0 X : Cx}
def tDispT (X0 : Cx) (tk tv : TE) : TE := fun σ H Q => X0.A.units + 1 < cLine ∧ ∀ p, H p = none → tPairs [(tk, tv)] σ (upd H p (.dT [])) fun ps H2 =>
  ∃ (b : Addr) (key : List Key) (y : V), ps = [(.ref b, y)] ∧ H2 b = some (.tup (key.map kV)) ∧ H2 p = some (.dT []) ∧ Q (.ref p) (upd H2 p (.dT [(key, y)]))
theorem pe_dispT {k v : Expr} {pos : Pos} {tk tv : TE} (l : Like X0 X) (hk : PE X k tk) (hv : PE X v tv) : PE X (.Dict [some k] [v] pos) (tDispT X0 tk tv) := by
  refine ⟨fun pins s σ H Q I ⟨hu, q⟩ => ?_⟩
  rw [← l.A] at hu
  have fresh := I.hok.fresh (Nat.le_refl s.heap.objs.size)
  have I1 := I.laid (a := s.heap.objs.size) (o := .dT []) (h' := s.heap.push { cls := .type "dict", data := .dict #[] }) (t' := s.toks) (fun _ _ q => Heap.get?_push_of_some _ q) (Nat.le_refl _) (dt_empty s.heap I.big)
  refine wpAny_Dict_any rfl rfl (by simp) (by show 1 ≤ 15; decide) ?_
  refine thn ((pps_cons hk hv pps_nil).run pins _ σ _ _ I1 (q _ fresh)) fun ws s2 ⟨ps, H2, I2, rel, b, key, y, ep, eb, ed, qq⟩ => ?_
  subst ep
  obtain ⟨u, r, rfl, ru, ry⟩ : ∃ u r, ws = [(u, r)] ∧ RelV (.ref b) u ∧ RelV y r := by
    cases rel with
    | @cons a c as cs h t =>
      cases t
      exact ⟨c.1, c.2, rfl, h.1, h.2⟩
  cases (show u = Value.ref b from ru)
  obtain ⟨z, hd, xs, kt, dd⟩ := dt_of I2.hok ed
  have hz : xs.length ≤ sizeLine := by rw [← Paired.length kt]; exact z
  unfold storeAll
  rw [List.forIn_cons]
  refine wpAny_bind (wpAny_bind (wpAny_dictSet_heap (hsz := hz) (knd := tupleKind (mixKind X.prog X.w)) (show X.A.units < cLine by omega) (key_of I2.hok eb) dd fun h' dd' hs => wpAny_pure ?_))
  dsimp only
  rw [List.forIn_nil]
  refine wpAny_pure ⟨.ref s.heap.objs.size, _, ?_, rfl, qq⟩
  obtain ⟨o, es, ep, ho, h2, h3, h4, _, h5⟩ := dd'
  refine d_write I2 (by rw [ed]; exact True.intro) hs ⟨o, ho⟩ ⟨by show 1 ≤ sizeLine; decide, hd, _, (kt.put key eb ry).keeps fun c ys ec => ?_, o, es, ep, ho, h2, h3, h4, h5⟩
  rw [upd_ne (ne_of ec ed (fun z => nomatch z))]
  exact ec
theorem w_dispT {tk tv : TE} {σ : L2.St} {H : Hp} {Q : VK} (hu : X0.A.units + 64 < cLine) (h : ∀ p, H p = none → tk σ (upd H p (.dT [])) fun x H1 => tv σ H1 fun y H2 => ∃ (b : Addr) (key : List Key) (z : V), [(x, y)] = [(V.ref b, z)] ∧ H2 b = some (.tup (key.map kV)) ∧ H2 p = some (.dT []) ∧ Q (.ref p) (upd H2 p (.dT [(key, z)]))) : tDispT X0 tk tv σ H Q := ⟨by omega, h⟩
end
end Odd

namespace Odd
open PySem PySem.Spec PyProof.Rows L2
/-! ### a set made of a list of ints -/
abbrev noSet (w : World) : Obj := { cls := .type "set", dict := none, data := .set #[] 0 (.fresh 0 0 (!w.params.followText "set-order")) }
section
variable {P : Program} {w : World} {A : Around} {E : Value → Shared → Prop} {s : Shared}
/-- what the set's own start does with a list of ints -/
theorem start_set {l : Addr} {items : Array Value} {ns : List Int} {s : Shared} (hh : A.handled = none) (hl : s.heap.IsList l items) (hit : IntsAre items.toList ns) (few : ns.length + 1 < scanBound) :
    codeAny (model P w) A (.call (.builtin "set.__init__") ⟨[.ref s.heap.objs.size, .ref l], []⟩) (wants (fun r s₂ => r = .none ∧ ∃ h' tk c, s₂ = { s with heap := h', toks := tk } ∧ SetR w h' s.heap.objs.size (fun j => decide (j ∈ ns)) c ∧ c ≤ ns.length ∧
      ∀ b o, s.heap.get? b = some o → h'.get? b = some o) E) { s with heap := s.heap.push (noSet w) } := by
  have old : ∀ {b : Addr} {o : Obj}, s.heap.get? b = some o → (s.heap.push (noSet w)).get? b = some o := fun e => Heap.get?_push_of_some _ e
  have mine : (s.heap.push (noSet w)).get? s.heap.objs.size = some (noSet w) := Heap.get?_push_size _ rfl
  have ty : Shared.TypeIs { s with heap := s.heap.push (noSet w) } (.ref s.heap.objs.size) "set" := ⟨_, mine, rfl⟩
  have many : items.size = ns.length := by rw [← Array.length_toList]; exact IntsAre.length hit
  refine codeAny_call_builtin F.called_set.init.plain F.entry_set_init (check_set_init_1 ty ?_)
  obtain ⟨⟨c0, d0, data0, sl0⟩, ho, hc, m0, hd⟩ := hl
  cases hc
  cases hd
  have low : l < s.heap.objs.size := Heap.lt_size ho
  have sz : (s.heap.push (noSet w)).objs.size = s.heap.objs.size + 1 := Heap.size_push ..
  have there := old ho
  have isl : (s.heap.push (noSet w)).IsList l items := ⟨_, there, rfl, m0, rfl⟩
  have n1 := F.sub_list_set
  have n2 := F.sub_list_frozenset
  have n3 : (Value.type "list" == Value.type "dict") = false := by decide
  unfold Builtin.«set.__init__» noKeywords Builtin.Frozenset.updateFrom
  generalize hg : pyIter = PI
  wp_walk
  subst hg
  refine wpAny_pyIter_list isl (wpAny_bind (wpAny_runValue ?_))
  have apart : l ≠ (s.heap.push (noSet w)).objs.size := by rw [sz]; exact Nat.ne_of_lt (Nat.lt_succ_of_lt low)
  have off : s.heap.objs.size ∉ [(s.heap.push (noSet w)).objs.size, l] := fun z => by
    rcases List.mem_cons.1 z with z | z
    · rw [sz] at z
      exact absurd z (Nat.ne_of_lt (Nat.lt_succ_self _))
    · exact absurd (List.mem_singleton.1 z) (Nat.ne_of_gt low)
  refine set_update_ints (Walks.list (by show A.handled = none; exact hh) _ l apart items).toS s.heap.objs.size off ns many few (fun i v hv => ?_) items.size 0 _ (Nat.sub_zero _) (Nat.zero_le _) ⟨⟨_, Heap.get?_push_size _ rfl, rfl, rfl⟩, isl.push _⟩ ⟨0, Nat.le_refl 0, setR_new_at (Heap.get?_push_of_some _ mine)⟩ fun s2 c2 mv hc2 hS2 => ?_
  · have hi : i < ns.length := by rw [← many]; exact (Array.getElem?_eq_some_iff.1 hv).1
    obtain ⟨t, et⟩ := IntsAre.int_at hit i v (by rw [Array.getElem?_toList]; exact hv)
    exact ⟨ns[i], t, List.getElem?_eq_getElem hi, by rw [et, List.getD_eq_getElem?_getD, List.getElem?_eq_getElem hi] <;> rfl⟩
  · obtain ⟨h2, gens, drawn, tk2, os2⟩ := s2
    cases (show gens = s.gens from mv.gens)
    cases (show drawn = s.drawn from mv.drawn)
    cases (show os2 = s.os from mv.os)
    refine wpAny_pure (wpAny_pure ⟨rfl, h2, tk2, c2, rfl, hS2, by omega, fun b o e => ?_⟩)
    have hb := Heap.lt_size e
    refine mv.heap b o (fun z => ?_) (Heap.get?_push_of_some _ (old e))
    rcases List.mem_cons.1 z with z | z
    · exact absurd z (Nat.ne_of_lt hb)
    · have z := List.mem_singleton.1 z
      rw [sz] at z
      exact absurd z (Nat.ne_of_lt (Nat.lt_succ_of_lt hb))
theorem set_of_list {l : Addr} {items : Array Value} {ns : List Int} {Q : Value → Shared → Prop} (hh : A.handled = none) (hl : s.heap.IsList l items) (hit : IntsAre items.toList ns) (few : ns.length + 1 < scanBound)
    (h : ∀ h' tk c, SetR w h' s.heap.objs.size (fun j => decide (j ∈ ns)) c → c ≤ ns.length → (∀ b o, s.heap.get? b = some o → h'.get? b = some o) → Q (.ref s.heap.objs.size) { s with heap := h', toks := tk }) : wpAny (model P w) A (call (.type "set") [.ref l]) Q E s := by
  obtain ⟨c, tl, mro⟩ := F.called_set.mro
  have a1 := F.called_set.made; have a2 := F.called_set.sub; have a3 := F.called_set.notType; have a4 := F.called_set.canCreate; have a5 := F.typeCall_set_1 (.ref l)
  refine wpAny_call (codeAny_of_tree (show wpAny _ _ (callAny (.type "set") _) _ _ _ from wpAny_pure ⟨Code.quiet_builtin _ (by decide +kernel), codeAny_builtin F.entry_type_call ?_⟩))
  rw [Around.under_plain (weight_type_call_type "set" [.ref l] []) rfl]
  repeat any_goals first | assumption | wp_step
  refine codeAny_mono (code_set_led1 (.ref l) (E := E) (Q₁ := fun ob s1 => ob = .ref s.heap.objs.size ∧ s1 = { s with heap := s.heap.push (noSet w) }) ⟨rfl, rfl⟩) fun r s1 hr => ?_
  match r, hr with
  | .error e, hr => exact hr
  | .ok (.ret ob), hr =>
    obtain ⟨rfl, rfl⟩ := hr
    have b1 := F.called_set.init.lookup; have b2 := F.called_set.init.bind (.ref s.heap.objs.size)
    have ty : Shared.TypeIs { s with heap := s.heap.push (noSet w) } (.ref s.heap.objs.size) "set" := ⟨_, Heap.get?_push_size _ rfl, rfl⟩
    repeat any_goals first | assumption | wp_step
    refine codeAny_mono (start_set (E := E) (by exact hh) hl hit few) fun r2 s2 hr2 => ?_
    match r2, hr2 with
    | .error e, hr2 => exact hr2
    | .ok (.ret v), hr2 =>
      obtain ⟨rfl, h', tk, c', rfl, hS, hc, keep⟩ := hr2
      repeat any_goals first | assumption | wp_step
      exact h _ _ _ hS hc keep
end
section
variable {X0 : Cx} {E : XK} {H : Hp} {Q : VK}
theorem s_setOf {a : Addr} {ns : List Int} (hc : X0.calm = true) (ha : SqL X0.K H a (ns.map V.int)) (few : ns.length ≤ 63) (q : ∀ D n H', H D = none → n ≤ ns.length → Same H H' → H' D = some (SetO X0.w D (fun k => decide (k ∈ ns)) n) → Q (.ref D) H') : ∃ r, CaD X0 E (.type "set") r ∧ r [.ref a] H Q := by
  refine ⟨fun vs H Q => ∃ a ns, vs = [.ref a] ∧ SqL X0.K H a (ns.map V.int) ∧ ns.length ≤ 63 ∧ ∀ D n, H D = none → n ≤ ns.length → Q (.ref D) (upd H D (SetO X0.w D (fun k => decide (k ∈ ns)) n)), fun X l _ => ?_, a, ns, rfl, ha, few, fun D n h1 h2 => q D n _ h1 h2 (same_new h1) upd_same⟩
  intro pins s σ H xs us Q I r h
  obtain ⟨a, ns, rfl, hs, few, q⟩ := h
  rw [← l.K] at hs
  rw [← l.w] at q
  rw [Vals.ref1 r]
  obtain ⟨its, rl, p, hz⟩ := I.list hs
  refine set_of_list (I.ok.hd (l.calm.trans hc)) p.isList rl.ints (Nat.lt_of_le_of_lt (show _ ≤ 64 by omega) (by decide)) fun h' tk c hS hn keep => ?_
  exact ⟨.ref _, _, I.laid (t' := tk) keep (Nat.le_refl _) (setO_new hS), rfl, q _ c (I.hok.fresh (Nat.le_refl _)) hn⟩
/-- x in, not in a list of data -/
theorem s_inD {x : V} {d : PyData} {l : Addr} {ds : List PyData} (hu : X0.A.units + 65 < cLine) (hx : Dp X0.K H x d) (hl : Dp X0.K H (.ref l) (.list ds)) (h1 : SeqAt.shaped d = true) (h2 : SeqAt.shaped (.list ds) = true) (q : Q (.bl (ds.any fun z => PyData.eqv z d)) H) : ∃ r, OpD X0 E (compareOp .In) r ∧ r x (.ref l) H Q :=
  ⟨L2.rInD X0.K, fun X l _ => by rw [← l.K]; exact L2.op_inD (by rw [l.A]; exact hu), d, ds, hx, hl, h1, h2, q⟩
theorem s_notInD {x : V} {d : PyData} {l : Addr} {ds : List PyData} (hu : X0.A.units + 65 < cLine) (hx : Dp X0.K H x d) (hl : Dp X0.K H (.ref l) (.list ds)) (h1 : SeqAt.shaped d = true) (h2 : SeqAt.shaped (.list ds) = true) (q : Q (.bl (!ds.any fun z => PyData.eqv z d)) H) : ∃ r, OpD X0 E (compareOp .NotIn) r ∧ r x (.ref l) H Q :=
  ⟨L2.rNotInD X0.K, fun X l _ => by rw [← l.K]; exact L2.op_notInD (by rw [l.A]; exact hu), d, ds, hx, hl, h1, h2, q⟩
end
end Odd

namespace Odd
open PySem PySem.Spec PyProof.Rows L2
def topS (i : Nat) : Stmt := PySem.Challenge.pw_oddcents_k13_known_tables.main.body.getD i (.Pass ⟨0, 0, 0, 0⟩)
abbrev s__wall : Stmt := topS 1
abbrev N__wall : List Str := ["k"]
theorem sc__wall : FnScope N__wall ["k"] (defScope s__wall) := ⟨rfl, rfl, rfl, by decide +kernel, rfl, by decide +kernel, by decide +kernel⟩
abbrev s_is_between : Stmt := topS 13
abbrev N_is_between : List Str := ["value", "low", "high"]
theorem sc_is_between : FnScope N_is_between ["value", "low", "high"] (defScope s_is_between) := ⟨rfl, rfl, rfl, by decide +kernel, rfl, by decide +kernel, by decide +kernel⟩
abbrev s_check_seat : Stmt := topS 14
abbrev N_check_seat : List Str := ["seat", "seat_count"]
theorem sc_check_seat : FnScope N_check_seat ["seat", "seat_count"] (defScope s_check_seat) := ⟨rfl, rfl, rfl, by decide +kernel, rfl, by decide +kernel, by decide +kernel⟩
abbrev s_Shares__init_ : Stmt := inClass (topS 16) 0
abbrev N_Shares__init_ : List Str := ["self", "cents"]
theorem sc_Shares__init_ : FnScope N_Shares__init_ ["self", "cents"] (defScope s_Shares__init_) := ⟨rfl, rfl, rfl, by decide +kernel, rfl, by decide +kernel, by decide +kernel⟩
abbrev s_Shares_cents : Stmt := inClass (topS 16) 1
abbrev N_Shares_cents : List Str := ["self"]
theorem sc_Shares_cents : FnScope N_Shares_cents ["self"] (defScope s_Shares_cents) := ⟨rfl, rfl, rfl, by decide +kernel, rfl, by decide +kernel, by decide +kernel⟩
abbrev s_Shares_whole : Stmt := inClass (topS 16) 2
abbrev N_Shares_whole : List Str := ["self"]
theorem sc_Shares_whole : FnScope N_Shares_whole ["self"] (defScope s_Shares_whole) := ⟨rfl, rfl, rfl, by decide +kernel, rfl, by decide +kernel, by decide +kernel⟩
abbrev s_Shares__getitem_ : Stmt := inClass (topS 16) 3
abbrev N_Shares__getitem_ : List Str := ["self", "seat"]
theorem sc_Shares__getitem_ : FnScope N_Shares__getitem_ ["self", "seat"] (defScope s_Shares__getitem_) := ⟨rfl, rfl, rfl, by decide +kernel, rfl, by decide +kernel, by decide +kernel⟩
abbrev s_Shares__iter_ : Stmt := inClass (topS 16) 4
abbrev N_Shares__iter_ : List Str := ["self"]
theorem sc_Shares__iter_ : FnScope N_Shares__iter_ ["self"] (defScope s_Shares__iter_) := ⟨rfl, rfl, rfl, by decide +kernel, rfl, by decide +kernel, by decide +kernel⟩
abbrev s_Shares__len_ : Stmt := inClass (topS 16) 5
abbrev N_Shares__len_ : List Str := ["self"]
theorem sc_Shares__len_ : FnScope N_Shares__len_ ["self"] (defScope s_Shares__len_) := ⟨rfl, rfl, rfl, by decide +kernel, rfl, by decide +kernel, by decide +kernel⟩
abbrev s_Shares__eq_ : Stmt := inClass (topS 16) 6
abbrev N_Shares__eq_ : List Str := ["self", "other"]
theorem sc_Shares__eq_ : FnScope N_Shares__eq_ ["self", "other"] (defScope s_Shares__eq_) := ⟨rfl, rfl, rfl, by decide +kernel, rfl, by decide +kernel, by decide +kernel⟩
abbrev s_Shares__add_ : Stmt := inClass (topS 16) 7
abbrev N_Shares__add_ : List Str := ["self", "other", "sums", "mine", "its"]
theorem sc_Shares__add_ : FnScope N_Shares__add_ ["self", "other"] (defScope s_Shares__add_) := ⟨rfl, rfl, rfl, by decide +kernel, rfl, by decide +kernel, by decide +kernel⟩
abbrev s_Shares__sub_ : Stmt := inClass (topS 16) 8
abbrev N_Shares__sub_ : List Str := ["self", "other"]
theorem sc_Shares__sub_ : FnScope N_Shares__sub_ ["self", "other"] (defScope s_Shares__sub_) := ⟨rfl, rfl, rfl, by decide +kernel, rfl, by decide +kernel, by decide +kernel⟩
abbrev s_Shares__mul_ : Stmt := inClass (topS 16) 9
abbrev N_Shares__mul_ : List Str := ["self", "times", "products", "cents"]
theorem sc_Shares__mul_ : FnScope N_Shares__mul_ ["self", "times"] (defScope s_Shares__mul_) := ⟨rfl, rfl, rfl, by decide +kernel, rfl, by decide +kernel, by decide +kernel⟩
abbrev s_Shares__neg_ : Stmt := inClass (topS 16) 10
abbrev N_Shares__neg_ : List Str := ["self"]
theorem sc_Shares__neg_ : FnScope N_Shares__neg_ ["self"] (defScope s_Shares__neg_) := ⟨rfl, rfl, rfl, by decide +kernel, rfl, by decide +kernel, by decide +kernel⟩
abbrev s_Shares__abs_ : Stmt := inClass (topS 16) 11
abbrev N_Shares__abs_ : List Str := ["self"]
theorem sc_Shares__abs_ : FnScope N_Shares__abs_ ["self"] (defScope s_Shares__abs_) := ⟨rfl, rfl, rfl, by decide +kernel, rfl, by decide +kernel, by decide +kernel⟩
abbrev s_Bill__init_ : Stmt := inClass (topS 21) 1
abbrev N_Bill__init_ : List Str := ["self", "amount", "seats"]
theorem sc_Bill__init_ : FnScope N_Bill__init_ ["self", "amount", "seats"] (defScope s_Bill__init_) := ⟨rfl, rfl, rfl, by decide +kernel, rfl, by decide +kernel, by decide +kernel⟩
abbrev s_Bill_amount : Stmt := inClass (topS 21) 2
abbrev N_Bill_amount : List Str := ["self"]
theorem sc_Bill_amount : FnScope N_Bill_amount ["self"] (defScope s_Bill_amount) := ⟨rfl, rfl, rfl, by decide +kernel, rfl, by decide +kernel, by decide +kernel⟩
abbrev s_Bill_seats : Stmt := inClass (topS 21) 3
abbrev N_Bill_seats : List Str := ["self"]
theorem sc_Bill_seats : FnScope N_Bill_seats ["self"] (defScope s_Bill_seats) := ⟨rfl, rfl, rfl, by decide +kernel, rfl, by decide +kernel, by decide +kernel⟩
abbrev s_Bill_odd_cents : Stmt := inClass (topS 21) 4
abbrev N_Bill_odd_cents : List Str := ["self"]
theorem sc_Bill_odd_cents : FnScope N_Bill_odd_cents ["self"] (defScope s_Bill_odd_cents) := ⟨rfl, rfl, rfl, by decide +kernel, rfl, by decide +kernel, by decide +kernel⟩
abbrev s_Bill__contains_ : Stmt := inClass (topS 21) 5
abbrev N_Bill__contains_ : List Str := ["self", "seat"]
theorem sc_Bill__contains_ : FnScope N_Bill__contains_ ["self", "seat"] (defScope s_Bill__contains_) := ⟨rfl, rfl, rfl, by decide +kernel, rfl, by decide +kernel, by decide +kernel⟩
abbrev s_Evening__init_ : Stmt := inClass (topS 22) 1
abbrev N_Evening__init_ : List Str := ["self", "seat_count", "bills"]
theorem sc_Evening__init_ : FnScope N_Evening__init_ ["self", "seat_count", "bills"] (defScope s_Evening__init_) := ⟨rfl, rfl, rfl, by decide +kernel, rfl, by decide +kernel, by decide +kernel⟩
abbrev s_Evening_together : Stmt := inClass (topS 22) 2
abbrev N_Evening_together : List Str := ["cls", "seat_count", "amounts", "seats", "bills", "amount"]
theorem sc_Evening_together : FnScope N_Evening_together ["cls", "seat_count", "amounts"] (defScope s_Evening_together) := ⟨rfl, rfl, rfl, by decide +kernel, rfl, by decide +kernel, by decide +kernel⟩
abbrev s_Evening_seat_count : Stmt := inClass (topS 22) 3
abbrev N_Evening_seat_count : List Str := ["self"]
theorem sc_Evening_seat_count : FnScope N_Evening_seat_count ["self"] (defScope s_Evening_seat_count) := ⟨rfl, rfl, rfl, by decide +kernel, rfl, by decide +kernel, by decide +kernel⟩
abbrev s_Evening_bills : Stmt := inClass (topS 22) 4
abbrev N_Evening_bills : List Str := ["self"]
theorem sc_Evening_bills : FnScope N_Evening_bills ["self"] (defScope s_Evening_bills) := ⟨rfl, rfl, rfl, by decide +kernel, rfl, by decide +kernel, by decide +kernel⟩
abbrev s_Evening__call_ : Stmt := inClass (topS 22) 5
abbrev N_Evening__call_ : List Str := ["self", "mark", "shares", "bill", "part"]
theorem sc_Evening__call_ : FnScope N_Evening__call_ ["self", "mark"] (defScope s_Evening__call_) := ⟨rfl, rfl, rfl, by decide +kernel, rfl, by decide +kernel, by decide +kernel⟩
abbrev s_Evening__getitem_ : Stmt := inClass (topS 22) 6
abbrev N_Evening__getitem_ : List Str := ["self", "index"]
theorem sc_Evening__getitem_ : FnScope N_Evening__getitem_ ["self", "index"] (defScope s_Evening__getitem_) := ⟨rfl, rfl, rfl, by decide +kernel, rfl, by decide +kernel, by decide +kernel⟩
abbrev s_Evening__iter_ : Stmt := inClass (topS 22) 7
abbrev N_Evening__iter_ : List Str := ["self"]
theorem sc_Evening__iter_ : FnScope N_Evening__iter_ ["self"] (defScope s_Evening__iter_) := ⟨rfl, rfl, rfl, by decide +kernel, rfl, by decide +kernel, by decide +kernel⟩
abbrev s_Evening__len_ : Stmt := inClass (topS 22) 8
abbrev N_Evening__len_ : List Str := ["self"]
theorem sc_Evening__len_ : FnScope N_Evening__len_ ["self"] (defScope s_Evening__len_) := ⟨rfl, rfl, rfl, by decide +kernel, rfl, by decide +kernel, by decide +kernel⟩
abbrev s_Evening__bool_ : Stmt := inClass (topS 22) 9
abbrev N_Evening__bool_ : List Str := ["self"]
theorem sc_Evening__bool_ : FnScope N_Evening__bool_ ["self"] (defScope s_Evening__bool_) := ⟨rfl, rfl, rfl, by decide +kernel, rfl, by decide +kernel, by decide +kernel⟩
abbrev s_Evening__add_ : Stmt := inClass (topS 22) 10
abbrev N_Evening__add_ : List Str := ["self", "other", "bills"]
theorem sc_Evening__add_ : FnScope N_Evening__add_ ["self", "other"] (defScope s_Evening__add_) := ⟨rfl, rfl, rfl, by decide +kernel, rfl, by decide +kernel, by decide +kernel⟩
abbrev s_Evening__mul_ : Stmt := inClass (topS 22) 11
abbrev N_Evening__mul_ : List Str := ["self", "times", "bills"]
theorem sc_Evening__mul_ : FnScope N_Evening__mul_ ["self", "times"] (defScope s_Evening__mul_) := ⟨rfl, rfl, rfl, by decide +kernel, rfl, by decide +kernel, by decide +kernel⟩
abbrev s_check_amount : Stmt := topS 23
abbrev N_check_amount : List Str := ["amount"]
theorem sc_check_amount : FnScope N_check_amount ["amount"] (defScope s_check_amount) := ⟨rfl, rfl, rfl, by decide +kernel, rfl, by decide +kernel, by decide +kernel⟩
abbrev s_check_seats : Stmt := topS 24
abbrev N_check_seats : List Str := ["seats", "lowest", "index", "seat"]
theorem sc_check_seats : FnScope N_check_seats ["seats"] (defScope s_check_seats) := ⟨rfl, rfl, rfl, by decide +kernel, rfl, by decide +kernel, by decide +kernel⟩
abbrev s_check_seat_count : Stmt := topS 25
abbrev N_check_seat_count : List Str := ["seat_count"]
theorem sc_check_seat_count : FnScope N_check_seat_count ["seat_count"] (defScope s_check_seat_count) := ⟨rfl, rfl, rfl, by decide +kernel, rfl, by decide +kernel, by decide +kernel⟩
abbrev s_check_bills : Stmt := topS 26
abbrev N_check_bills : List Str := ["seat_count", "bills", "index", "bill"]
theorem sc_check_bills : FnScope N_check_bills ["seat_count", "bills"] (defScope s_check_bills) := ⟨rfl, rfl, rfl, by decide +kernel, rfl, by decide +kernel, by decide +kernel⟩
abbrev s_check_mark : Stmt := topS 27
abbrev N_check_mark : List Str := ["mark", "seat_count"]
theorem sc_check_mark : FnScope N_check_mark ["mark", "seat_count"] (defScope s_check_mark) := ⟨rfl, rfl, rfl, by decide +kernel, rfl, by decide +kernel, by decide +kernel⟩
abbrev s_check_times : Stmt := topS 28
abbrev N_check_times : List Str := ["times"]
theorem sc_check_times : FnScope N_check_times ["times"] (defScope s_check_times) := ⟨rfl, rfl, rfl, by decide +kernel, rfl, by decide +kernel, by decide +kernel⟩
abbrev s_no_shares : Stmt := topS 29
abbrev N_no_shares : List Str := ["seat_count", "cents"]
theorem sc_no_shares : FnScope N_no_shares ["seat_count"] (defScope s_no_shares) := ⟨rfl, rfl, rfl, by decide +kernel, rfl, by decide +kernel, by decide +kernel⟩
abbrev s_seats_behind : Stmt := topS 30
abbrev N_seats_behind : List Str := ["mark", "seats", "seat"]
theorem sc_seats_behind : FnScope N_seats_behind ["mark", "seats"] (defScope s_seats_behind) := ⟨rfl, rfl, rfl, by decide +kernel, rfl, by decide +kernel, by decide +kernel⟩
abbrev s_split_bill : Stmt := topS 31
abbrev N_split_bill : List Str := ["bill", "mark", "seat_count", "cents", "seat"]
theorem sc_split_bill : FnScope N_split_bill ["bill", "mark", "seat_count"] (defScope s_split_bill) := ⟨rfl, rfl, rfl, by decide +kernel, rfl, by decide +kernel, by decide +kernel⟩
abbrev s_twice : Stmt := topS 32
abbrev N_twice : List Str := ["run", "doubled", "shares", "between", "more", "mark"]
theorem sc_twice : FnScope N_twice ["run"] (defScope s_twice) := ⟨rfl, rfl, rfl, by decide +kernel, rfl, by decide +kernel, by decide +kernel⟩
abbrev s_repeated : Stmt := topS 33
abbrev N_repeated : List Str := ["evening", "mark", "times", "shares", "run", "start", "more"]
theorem sc_repeated : FnScope N_repeated ["evening", "mark", "times"] (defScope s_repeated) := ⟨rfl, rfl, rfl, by decide +kernel, rfl, by decide +kernel, by decide +kernel⟩
abbrev s_lowest_terms : Stmt := topS 34
abbrev N_lowest_terms : List Str := ["numerator", "denominator", "common"]
theorem sc_lowest_terms : FnScope N_lowest_terms ["numerator", "denominator"] (defScope s_lowest_terms) := ⟨rfl, rfl, rfl, by decide +kernel, rfl, by decide +kernel, by decide +kernel⟩
abbrev s_long_run : Stmt := topS 35
abbrev N_long_run : List Str := ["evening", "mark", "_", "start", "shares", "count", "more", "cents"]
theorem sc_long_run : FnScope N_long_run ["evening", "mark"] (defScope s_long_run) := ⟨rfl, rfl, rfl, by decide +kernel, rfl, by decide +kernel, by decide +kernel⟩
abbrev s_marks_after : Stmt := topS 39
abbrev N_marks_after : List Str := ["bill", "marks", "seat_count", "mark"]
theorem sc_marks_after : FnScope N_marks_after ["bill", "marks", "seat_count"] (defScope s_marks_after) := ⟨rfl, rfl, rfl, by decide +kernel, rfl, by decide +kernel, by decide +kernel⟩
abbrev s_known_after : Stmt := topS 40
abbrev N_known_after : List Str := ["evening", "marks", "count", "_", "bill"]
theorem sc_known_after : FnScope N_known_after ["evening"] (defScope s_known_after) := ⟨rfl, rfl, rfl, by decide +kernel, rfl, by decide +kernel, by decide +kernel⟩
abbrev s_evening_of_few : Stmt := topS 41
abbrev N_evening_of_few : List Str := ["seat_count", "bills", "evening"]
theorem sc_evening_of_few : FnScope N_evening_of_few ["seat_count", "bills"] (defScope s_evening_of_few) := ⟨rfl, rfl, rfl, by decide +kernel, rfl, by decide +kernel, by decide +kernel⟩
abbrev s_reset : Stmt := topS 42
abbrev N_reset : List Str := ["seat_count", "bills", "evening", "everywhere", "lists", "level", "later", "marks", "index", "bill", "remaining"]
theorem sc_reset : FnScope N_reset ["seat_count", "bills"] (defScope s_reset) := ⟨rfl, rfl, rfl, by decide +kernel, rfl, by decide +kernel, by decide +kernel⟩
abbrev s_telling : Stmt := topS 43
abbrev N_telling : List Str := ["seat_count", "bills", "evening", "index", "bill"]
theorem sc_telling : FnScope N_telling ["seat_count", "bills"] (defScope s_telling) := ⟨rfl, rfl, rfl, by decide +kernel, rfl, by decide +kernel, by decide +kernel⟩
abbrev s_share_for_bill : Stmt := topS 44
abbrev N_share_for_bill : List Str := ["evening", "mark", "number", "seat", "times", "index", "_", "bill", "shares"]
theorem sc_share_for_bill : FnScope N_share_for_bill ["evening", "mark", "number", "seat"] (defScope s_share_for_bill) := ⟨rfl, rfl, rfl, by decide +kernel, rfl, by decide +kernel, by decide +kernel⟩
abbrev s_MarkObserver__init_ : Stmt := inClass (topS 45) 0
abbrev N_MarkObserver__init_ : List Str := ["self", "evening"]
theorem sc_MarkObserver__init_ : FnScope N_MarkObserver__init_ ["self", "evening"] (defScope s_MarkObserver__init_) := ⟨rfl, rfl, rfl, by decide +kernel, rfl, by decide +kernel, by decide +kernel⟩
abbrev s_MarkObserver_possible_marks : Stmt := inClass (topS 45) 1
abbrev N_MarkObserver_possible_marks : List Str := ["self"]
theorem sc_MarkObserver_possible_marks : FnScope N_MarkObserver_possible_marks ["self"] (defScope s_MarkObserver_possible_marks) := ⟨rfl, rfl, rfl, by decide +kernel, rfl, by decide +kernel, by decide +kernel⟩
abbrev s_MarkObserver_records : Stmt := inClass (topS 45) 2
abbrev N_MarkObserver_records : List Str := ["self"]
theorem sc_MarkObserver_records : FnScope N_MarkObserver_records ["self"] (defScope s_MarkObserver_records) := ⟨rfl, rfl, rfl, by decide +kernel, rfl, by decide +kernel, by decide +kernel⟩
abbrev s_MarkObserver_see : Stmt := inClass (topS 45) 3
abbrev N_MarkObserver_see : List Str := ["self", "number", "seat", "cents", "remaining", "mark"]
theorem sc_MarkObserver_see : FnScope N_MarkObserver_see ["self", "number", "seat", "cents"] (defScope s_MarkObserver_see) := ⟨rfl, rfl, rfl, by decide +kernel, rfl, by decide +kernel, by decide +kernel⟩
abbrev s_paid_from_each_mark : Stmt := topS 48
abbrev N_paid_from_each_mark : List Str := ["evening", "seat", "times", "paid", "mark", "shares", "_"]
theorem sc_paid_from_each_mark : FnScope N_paid_from_each_mark ["evening", "seat", "times"] (defScope s_paid_from_each_mark) := ⟨rfl, rfl, rfl, by decide +kernel, rfl, by decide +kernel, by decide +kernel⟩
abbrev s_widest_gap : Stmt := topS 49
abbrev N_widest_gap : List Str := ["evening", "seat", "times", "paid"]
theorem sc_widest_gap : FnScope N_widest_gap ["evening", "seat", "times"] (defScope s_widest_gap) := ⟨rfl, rfl, rfl, by decide +kernel, rfl, by decide +kernel, by decide +kernel⟩
abbrev s_best_mark : Stmt := topS 50
abbrev N_best_mark : List Str := ["evening", "seat", "times", "paid"]
theorem sc_best_mark : FnScope N_best_mark ["evening", "seat", "times"] (defScope s_best_mark) := ⟨rfl, rfl, rfl, by decide +kernel, rfl, by decide +kernel, by decide +kernel⟩
abbrev s_longer_ways : Stmt := topS 51
abbrev N_longer_ways : List Str := ["evening", "way", "order", "shares", "mark", "ways", "index", "bill", "part", "afterwards"]
theorem sc_longer_ways : FnScope N_longer_ways ["evening", "way"] (defScope s_longer_ways) := ⟨rfl, rfl, rfl, by decide +kernel, rfl, by decide +kernel, by decide +kernel⟩
abbrev s_spread_of : Stmt := topS 52
abbrev N_spread_of : List Str := ["way"]
theorem sc_spread_of : FnScope N_spread_of ["way"] (defScope s_spread_of) := ⟨rfl, rfl, rfl, by decide +kernel, rfl, by decide +kernel, by decide +kernel⟩
abbrev s_fairest_order : Stmt := topS 53
abbrev N_fairest_order : List Str := ["evening", "mark", "ways", "_", "way", "longer", "best"]
theorem sc_fairest_order : FnScope N_fairest_order ["evening", "mark"] (defScope s_fairest_order) := ⟨rfl, rfl, rfl, by decide +kernel, rfl, by decide +kernel, by decide +kernel⟩
abbrev s__law_start : Stmt := topS 55
abbrev N__law_start : List Str := ["_law_script", "_law_mixed", "_law_cell"]
theorem sc__law_start : FnScope N__law_start ["_law_script"] (defScope s__law_start) := ⟨rfl, rfl, rfl, by decide +kernel, rfl, by decide +kernel, by decide +kernel⟩
abbrev s__law_drawn : Stmt := topS 56
abbrev N__law_drawn : List Str := ["_law_state", "_law_count", "_law_result", "_law_cell"]
theorem sc__law_drawn : FnScope N__law_drawn ["_law_state", "_law_count"] (defScope s__law_drawn) := ⟨rfl, rfl, rfl, by decide +kernel, rfl, by decide +kernel, by decide +kernel⟩
abbrev s__law_same : Stmt := topS 57
abbrev N__law_same : List Str := ["_law_result", "_law_expected", "_law_k"]
theorem sc__law_same : FnScope N__law_same ["_law_result", "_law_expected"] (defScope s__law_same) := ⟨rfl, rfl, rfl, by decide +kernel, rfl, by decide +kernel, by decide +kernel⟩
abbrev s__law_all_there : Stmt := topS 58
abbrev N__law_all_there : List Str := ["_law_count", "_law_amount", "_law_mark", "_law_times", "_law_evening", "_law_odd", "_law_shares", "_law_after", "_law_seat", "_law_behind", "_law_cents", "_law_common", "_law_k"]
theorem sc__law_all_there : FnScope N__law_all_there ["_law_count", "_law_amount", "_law_mark", "_law_times"] (defScope s__law_all_there) := ⟨rfl, rfl, rfl, by decide +kernel, rfl, by decide +kernel, by decide +kernel⟩
abbrev s__law_two_and_all : Stmt := topS 59
abbrev N__law_two_and_all : List Str := ["_law_cents", "_law_both", "_law_evening", "_law_observer", "_law_shares", "_law_mark"]
theorem sc__law_two_and_all : FnScope N__law_two_and_all ["_law_cents"] (defScope s__law_two_and_all) := ⟨rfl, rfl, rfl, by decide +kernel, rfl, by decide +kernel, by decide +kernel⟩
abbrev s_law : Stmt := topS 60
abbrev N_law : List Str := ["_law_script", "_law_state", "_law_turn", "_law_count", "_law_amount", "_law_times", "_law_two", "_law_shares", "_law_mark"]
theorem sc_law : FnScope N_law ["_law_script"] (defScope s_law) := ⟨rfl, rfl, rfl, by decide +kernel, rfl, by decide +kernel, by decide +kernel⟩
/-- where the top has laid what the text names -/
structure Ad where
  f__wall : Addr
  f_is_between : Addr
  f_check_seat : Addr
  f_check_amount : Addr
  f_check_seats : Addr
  f_check_seat_count : Addr
  f_check_bills : Addr
  f_check_mark : Addr
  f_check_times : Addr
  f_no_shares : Addr
  f_seats_behind : Addr
  f_split_bill : Addr
  f_twice : Addr
  f_repeated : Addr
  f_lowest_terms : Addr
  f_long_run : Addr
  f_marks_after : Addr
  f_known_after : Addr
  f_evening_of_few : Addr
  f_reset : Addr
  f_telling : Addr
  f_share_for_bill : Addr
  f_paid_from_each_mark : Addr
  f_widest_gap : Addr
  f_best_mark : Addr
  f_longer_ways : Addr
  f_spread_of : Addr
  f_fairest_order : Addr
  f__law_start : Addr
  f__law_drawn : Addr
  f__law_all_there : Addr
  f__law_two_and_all : Addr
  f_law : Addr
  c_CentError : Addr
  c_InvalidBill : Addr
  c_InvalidEvening : Addr
  c_InvalidMark : Addr
  c_UnknownSeat : Addr
  c_OtherTable : Addr
  c_InvalidNumber : Addr
  c_TooManyBills : Addr
  c_Contradiction : Addr
  c_Shares : Addr
  f_Shares__init_ : Addr
  f_Shares_cents : Addr
  p_Shares_cents : Addr
  f_Shares_whole : Addr
  p_Shares_whole : Addr
  f_Shares__getitem_ : Addr
  f_Shares__iter_ : Addr
  f_Shares__len_ : Addr
  f_Shares__eq_ : Addr
  f_Shares__add_ : Addr
  f_Shares__sub_ : Addr
  f_Shares__mul_ : Addr
  f_Shares__neg_ : Addr
  f_Shares__abs_ : Addr
  c_Bill : Addr
  f_Bill__init_ : Addr
  f_Bill_amount : Addr
  p_Bill_amount : Addr
  f_Bill_seats : Addr
  p_Bill_seats : Addr
  f_Bill_odd_cents : Addr
  p_Bill_odd_cents : Addr
  f_Bill__contains_ : Addr
  c_Evening : Addr
  f_Evening__init_ : Addr
  f_Evening_together : Addr
  p_Evening_together : Addr
  f_Evening_seat_count : Addr
  p_Evening_seat_count : Addr
  f_Evening_bills : Addr
  p_Evening_bills : Addr
  f_Evening__call_ : Addr
  f_Evening__getitem_ : Addr
  f_Evening__iter_ : Addr
  f_Evening__len_ : Addr
  f_Evening__bool_ : Addr
  f_Evening__add_ : Addr
  f_Evening__mul_ : Addr
  c_MarkObserver : Addr
  f_MarkObserver__init_ : Addr
  f_MarkObserver_possible_marks : Addr
  p_MarkObserver_possible_marks : Addr
  f_MarkObserver_records : Addr
  p_MarkObserver_records : Addr
  f_MarkObserver_see : Addr
/-- what is true of them -/
structure Facts (K : PySem.W.Frag) (mg : Str → Option Value) (a : Ad) : Prop where
  z_TypeError : mg "TypeError" = none
  z_abs : mg "abs" = none
  z_bool : mg "bool" = none
  z_classmethod : mg "classmethod" = none
  z_divmod : mg "divmod" = none
  z_enumerate : mg "enumerate" = none
  z_int : mg "int" = none
  z_isinstance : mg "isinstance" = none
  z_len : mg "len" = none
  z_list : mg "list" = none
  z_max : mg "max" = none
  z_min : mg "min" = none
  z_property : mg "property" = none
  z_range : mg "range" = none
  z_sorted : mg "sorted" = none
  z_sum : mg "sum" = none
  z_super : mg "super" = none
  z_tuple : mg "tuple" = none
  z_zip : mg "zip" = none
  b_gcd : mg "gcd" = some (.builtin "math.gcd")
  i_MAX_AMOUNT : ∃ u, mg "MAX_AMOUNT" = some (.int 1000000000000 u)
  i_MIN_SEAT_COUNT : ∃ u, mg "MIN_SEAT_COUNT" = some (.int 2 u)
  i_MAX_TIMES : ∃ u, mg "MAX_TIMES" = some (.int 1000000000000000000 u)
  i_MAX_LISTED_BILLS : ∃ u, mg "MAX_LISTED_BILLS" = some (.int 6 u)
  i_MAX_BILL_NUMBER : ∃ u, mg "MAX_BILL_NUMBER" = some (.int 1000000000000000000 u)
  i_MAX_ORDERED_BILLS : ∃ u, mg "MAX_ORDERED_BILLS" = some (.int 7 u)
  u__wall : ∃ fd, Fun K "_wall" "_wall" s__wall a.f__wall fd
  g__wall : mg "_wall" = some (.ref a.f__wall)
  u_is_between : ∃ fd, Fun K "is_between" "is_between" s_is_between a.f_is_between fd
  g_is_between : mg "is_between" = some (.ref a.f_is_between)
  u_check_seat : ∃ fd, Fun K "check_seat" "check_seat" s_check_seat a.f_check_seat fd
  g_check_seat : mg "check_seat" = some (.ref a.f_check_seat)
  u_check_amount : ∃ fd, Fun K "check_amount" "check_amount" s_check_amount a.f_check_amount fd
  g_check_amount : mg "check_amount" = some (.ref a.f_check_amount)
  u_check_seats : ∃ fd, Fun K "check_seats" "check_seats" s_check_seats a.f_check_seats fd
  g_check_seats : mg "check_seats" = some (.ref a.f_check_seats)
  u_check_seat_count : ∃ fd, Fun K "check_seat_count" "check_seat_count" s_check_seat_count a.f_check_seat_count fd
  g_check_seat_count : mg "check_seat_count" = some (.ref a.f_check_seat_count)
  u_check_bills : ∃ fd, Fun K "check_bills" "check_bills" s_check_bills a.f_check_bills fd
  g_check_bills : mg "check_bills" = some (.ref a.f_check_bills)
  u_check_mark : ∃ fd, Fun K "check_mark" "check_mark" s_check_mark a.f_check_mark fd
  g_check_mark : mg "check_mark" = some (.ref a.f_check_mark)
  u_check_times : ∃ fd, Fun K "check_times" "check_times" s_check_times a.f_check_times fd
  g_check_times : mg "check_times" = some (.ref a.f_check_times)
  u_no_shares : ∃ fd, Fun K "no_shares" "no_shares" s_no_shares a.f_no_shares fd
  g_no_shares : mg "no_shares" = some (.ref a.f_no_shares)
  u_seats_behind : ∃ fd, Fun K "seats_behind" "seats_behind" s_seats_behind a.f_seats_behind fd
  g_seats_behind : mg "seats_behind" = some (.ref a.f_seats_behind)
  u_split_bill : ∃ fd, Fun K "split_bill" "split_bill" s_split_bill a.f_split_bill fd
  g_split_bill : mg "split_bill" = some (.ref a.f_split_bill)
  u_twice : ∃ fd, Fun K "twice" "twice" s_twice a.f_twice fd
  g_twice : mg "twice" = some (.ref a.f_twice)
  u_repeated : ∃ fd, Fun K "repeated" "repeated" s_repeated a.f_repeated fd
  g_repeated : mg "repeated" = some (.ref a.f_repeated)
  u_lowest_terms : ∃ fd, Fun K "lowest_terms" "lowest_terms" s_lowest_terms a.f_lowest_terms fd
  g_lowest_terms : mg "lowest_terms" = some (.ref a.f_lowest_terms)
  u_long_run : ∃ fd, Fun K "long_run" "long_run" s_long_run a.f_long_run fd
  g_long_run : mg "long_run" = some (.ref a.f_long_run)
  u_marks_after : ∃ fd, Fun K "marks_after" "marks_after" s_marks_after a.f_marks_after fd
  g_marks_after : mg "marks_after" = some (.ref a.f_marks_after)
  u_known_after : ∃ fd, Fun K "known_after" "known_after" s_known_after a.f_known_after fd
  g_known_after : mg "known_after" = some (.ref a.f_known_after)
  u_evening_of_few : ∃ fd, Fun K "evening_of_few" "evening_of_few" s_evening_of_few a.f_evening_of_few fd
  g_evening_of_few : mg "evening_of_few" = some (.ref a.f_evening_of_few)
  u_reset : ∃ fd, Fun K "reset" "reset" s_reset a.f_reset fd
  g_reset : mg "reset" = some (.ref a.f_reset)
  u_telling : ∃ fd, Fun K "telling" "telling" s_telling a.f_telling fd
  g_telling : mg "telling" = some (.ref a.f_telling)
  u_share_for_bill : ∃ fd, Fun K "share_for_bill" "share_for_bill" s_share_for_bill a.f_share_for_bill fd
  g_share_for_bill : mg "share_for_bill" = some (.ref a.f_share_for_bill)
  u_paid_from_each_mark : ∃ fd, Fun K "paid_from_each_mark" "paid_from_each_mark" s_paid_from_each_mark a.f_paid_from_each_mark fd
  g_paid_from_each_mark : mg "paid_from_each_mark" = some (.ref a.f_paid_from_each_mark)
  u_widest_gap : ∃ fd, Fun K "widest_gap" "widest_gap" s_widest_gap a.f_widest_gap fd
  g_widest_gap : mg "widest_gap" = some (.ref a.f_widest_gap)
  u_best_mark : ∃ fd, Fun K "best_mark" "best_mark" s_best_mark a.f_best_mark fd
  g_best_mark : mg "best_mark" = some (.ref a.f_best_mark)
  u_longer_ways : ∃ fd, Fun K "longer_ways" "longer_ways" s_longer_ways a.f_longer_ways fd
  g_longer_ways : mg "longer_ways" = some (.ref a.f_longer_ways)
  u_spread_of : ∃ fd, Fun K "spread_of" "spread_of" s_spread_of a.f_spread_of fd
  g_spread_of : mg "spread_of" = some (.ref a.f_spread_of)
  u_fairest_order : ∃ fd, Fun K "fairest_order" "fairest_order" s_fairest_order a.f_fairest_order fd
  g_fairest_order : mg "fairest_order" = some (.ref a.f_fairest_order)
  u__law_start : ∃ fd, Fun K "_law_start" "_law_start" s__law_start a.f__law_start fd
  g__law_start : mg "_law_start" = some (.ref a.f__law_start)
  u__law_drawn : ∃ fd, Fun K "_law_drawn" "_law_drawn" s__law_drawn a.f__law_drawn fd
  g__law_drawn : mg "_law_drawn" = some (.ref a.f__law_drawn)
  u__law_all_there : ∃ fd, Fun K "_law_all_there" "_law_all_there" s__law_all_there a.f__law_all_there fd
  g__law_all_there : mg "_law_all_there" = some (.ref a.f__law_all_there)
  u__law_two_and_all : ∃ fd, Fun K "_law_two_and_all" "_law_two_and_all" s__law_two_and_all a.f__law_two_and_all fd
  g__law_two_and_all : mg "_law_two_and_all" = some (.ref a.f__law_two_and_all)
  u_law : ∃ fd, Fun K "law" "law" s_law a.f_law fd
  g_law : mg "law" = some (.ref a.f_law)
  x_CentError : ExcC K mg "CentError" a.c_CentError
  x_InvalidMark : ExcC K mg "InvalidMark" a.c_InvalidMark
  x_UnknownSeat : ExcC K mg "UnknownSeat" a.c_UnknownSeat
  x_OtherTable : ExcC K mg "OtherTable" a.c_OtherTable
  x_InvalidNumber : ExcC K mg "InvalidNumber" a.c_InvalidNumber
  x_TooManyBills : ExcC K mg "TooManyBills" a.c_TooManyBills
  x_Contradiction : ExcC K mg "Contradiction" a.c_Contradiction
  g_Shares : mg "Shares" = some (.ref a.c_Shares)
  cl_Shares : Cls K a.c_Shares
  si_Shares : SlX.SIsi K a.c_Shares
  ob_Shares : PySem.W.subIn K (.ref a.c_Shares) (.type "object") = some true
  sf_Shares : PySem.W.selfFirst K a.c_Shares = true
  kit_Shares_tuple : PySem.W.kitOne K (.type "tuple") (.ref a.c_Shares) = some false
  kit_Shares_list : PySem.W.kitOne K (.type "list") (.ref a.c_Shares) = some false
  kit_Shares_int : PySem.W.kitOne K (.type "int") (.ref a.c_Shares) = some false
  na_Shares_cents : NoAttr K a.c_Shares "_cents"
  u_Shares__init_ : ∃ fd, Fun K "__init__" "Shares.__init__" s_Shares__init_ a.f_Shares__init_ fd
  m_Shares__init_ : Meth K a.c_Shares "__init__" a.f_Shares__init_
  mk_Shares : Mk K a.c_Shares a.f_Shares__init_
  u_Shares_cents : ∃ fd, Fun K "cents" "Shares.cents" s_Shares_cents a.f_Shares_cents fd
  pr_Shares_cents : PropOf K a.c_Shares "cents" a.p_Shares_cents a.f_Shares_cents
  u_Shares_whole : ∃ fd, Fun K "whole" "Shares.whole" s_Shares_whole a.f_Shares_whole fd
  pr_Shares_whole : PropOf K a.c_Shares "whole" a.p_Shares_whole a.f_Shares_whole
  u_Shares__getitem_ : ∃ fd, Fun K "__getitem__" "Shares.__getitem__" s_Shares__getitem_ a.f_Shares__getitem_ fd
  m_Shares__getitem_ : Meth K a.c_Shares "__getitem__" a.f_Shares__getitem_
  u_Shares__iter_ : ∃ fd, Fun K "__iter__" "Shares.__iter__" s_Shares__iter_ a.f_Shares__iter_ fd
  m_Shares__iter_ : Meth K a.c_Shares "__iter__" a.f_Shares__iter_
  u_Shares__len_ : ∃ fd, Fun K "__len__" "Shares.__len__" s_Shares__len_ a.f_Shares__len_ fd
  m_Shares__len_ : Meth K a.c_Shares "__len__" a.f_Shares__len_
  u_Shares__eq_ : ∃ fd, Fun K "__eq__" "Shares.__eq__" s_Shares__eq_ a.f_Shares__eq_ fd
  m_Shares__eq_ : Meth K a.c_Shares "__eq__" a.f_Shares__eq_
  ne_Shares__eq_ : OwnNe K a.c_Shares
  u_Shares__add_ : ∃ fd, Fun K "__add__" "Shares.__add__" s_Shares__add_ a.f_Shares__add_ fd
  m_Shares__add_ : Meth K a.c_Shares "__add__" a.f_Shares__add_
  u_Shares__sub_ : ∃ fd, Fun K "__sub__" "Shares.__sub__" s_Shares__sub_ a.f_Shares__sub_ fd
  m_Shares__sub_ : Meth K a.c_Shares "__sub__" a.f_Shares__sub_
  u_Shares__mul_ : ∃ fd, Fun K "__mul__" "Shares.__mul__" s_Shares__mul_ a.f_Shares__mul_ fd
  m_Shares__mul_ : Meth K a.c_Shares "__mul__" a.f_Shares__mul_
  oi_Shares__mul_ : OpInt K a.c_Shares "__mul__" "__rmul__"
  u_Shares__neg_ : ∃ fd, Fun K "__neg__" "Shares.__neg__" s_Shares__neg_ a.f_Shares__neg_ fd
  m_Shares__neg_ : Meth K a.c_Shares "__neg__" a.f_Shares__neg_
  u_Shares__abs_ : ∃ fd, Fun K "__abs__" "Shares.__abs__" s_Shares__abs_ a.f_Shares__abs_ fd
  m_Shares__abs_ : Meth K a.c_Shares "__abs__" a.f_Shares__abs_
  g_Bill : mg "Bill" = some (.ref a.c_Bill)
  cl_Bill : Cls K a.c_Bill
  si_Bill : SlX.SIsi K a.c_Bill
  ob_Bill : PySem.W.subIn K (.ref a.c_Bill) (.type "object") = some true
  sf_Bill : PySem.W.selfFirst K a.c_Bill = true
  kit_Bill_tuple : PySem.W.kitOne K (.type "tuple") (.ref a.c_Bill) = some false
  kit_Bill_list : PySem.W.kitOne K (.type "list") (.ref a.c_Bill) = some false
  kit_Bill_int : PySem.W.kitOne K (.type "int") (.ref a.c_Bill) = some false
  na_Bill_amount : NoAttr K a.c_Bill "_amount"
  na_Bill_seats : NoAttr K a.c_Bill "_seats"
  cr_Bill : ClX.CRead K a.c_Bill (.type "type")
  cv_Bill_MAX_SEATS : ∃ u, ClX.CVal K a.c_Bill (.type "type") "MAX_SEATS" (.int 8) u
  u_Bill__init_ : ∃ fd, Fun K "__init__" "Bill.__init__" s_Bill__init_ a.f_Bill__init_ fd
  m_Bill__init_ : Meth K a.c_Bill "__init__" a.f_Bill__init_
  mk_Bill : Mk K a.c_Bill a.f_Bill__init_
  u_Bill_amount : ∃ fd, Fun K "amount" "Bill.amount" s_Bill_amount a.f_Bill_amount fd
  pr_Bill_amount : PropOf K a.c_Bill "amount" a.p_Bill_amount a.f_Bill_amount
  u_Bill_seats : ∃ fd, Fun K "seats" "Bill.seats" s_Bill_seats a.f_Bill_seats fd
  pr_Bill_seats : PropOf K a.c_Bill "seats" a.p_Bill_seats a.f_Bill_seats
  u_Bill_odd_cents : ∃ fd, Fun K "odd_cents" "Bill.odd_cents" s_Bill_odd_cents a.f_Bill_odd_cents fd
  pr_Bill_odd_cents : PropOf K a.c_Bill "odd_cents" a.p_Bill_odd_cents a.f_Bill_odd_cents
  u_Bill__contains_ : ∃ fd, Fun K "__contains__" "Bill.__contains__" s_Bill__contains_ a.f_Bill__contains_ fd
  m_Bill__contains_ : Meth K a.c_Bill "__contains__" a.f_Bill__contains_
  g_Evening : mg "Evening" = some (.ref a.c_Evening)
  cl_Evening : Cls K a.c_Evening
  si_Evening : SlX.SIsi K a.c_Evening
  ob_Evening : PySem.W.subIn K (.ref a.c_Evening) (.type "object") = some true
  sf_Evening : PySem.W.selfFirst K a.c_Evening = true
  kit_Evening_tuple : PySem.W.kitOne K (.type "tuple") (.ref a.c_Evening) = some false
  kit_Evening_list : PySem.W.kitOne K (.type "list") (.ref a.c_Evening) = some false
  kit_Evening_int : PySem.W.kitOne K (.type "int") (.ref a.c_Evening) = some false
  na_Evening_seat_count : NoAttr K a.c_Evening "_seat_count"
  na_Evening_bills : NoAttr K a.c_Evening "_bills"
  cr_Evening : ClX.CRead K a.c_Evening (.type "type")
  cv_Evening_MAX_BILLS : ∃ u, ClX.CVal K a.c_Evening (.type "type") "MAX_BILLS" (.int 30) u
  u_Evening__init_ : ∃ fd, Fun K "__init__" "Evening.__init__" s_Evening__init_ a.f_Evening__init_ fd
  m_Evening__init_ : Meth K a.c_Evening "__init__" a.f_Evening__init_
  mk_Evening : Mk K a.c_Evening a.f_Evening__init_
  u_Evening_together : ∃ fd, Fun K "together" "Evening.together" s_Evening_together a.f_Evening_together fd
  cm_Evening_together : ClX.CMet K a.c_Evening (.type "type") "together" a.p_Evening_together a.f_Evening_together
  u_Evening_seat_count : ∃ fd, Fun K "seat_count" "Evening.seat_count" s_Evening_seat_count a.f_Evening_seat_count fd
  pr_Evening_seat_count : PropOf K a.c_Evening "seat_count" a.p_Evening_seat_count a.f_Evening_seat_count
  u_Evening_bills : ∃ fd, Fun K "bills" "Evening.bills" s_Evening_bills a.f_Evening_bills fd
  pr_Evening_bills : PropOf K a.c_Evening "bills" a.p_Evening_bills a.f_Evening_bills
  u_Evening__call_ : ∃ fd, Fun K "__call__" "Evening.__call__" s_Evening__call_ a.f_Evening__call_ fd
  m_Evening__call_ : Meth K a.c_Evening "__call__" a.f_Evening__call_
  co_Evening : StX.CallO K a.c_Evening a.f_Evening__call_
  u_Evening__getitem_ : ∃ fd, Fun K "__getitem__" "Evening.__getitem__" s_Evening__getitem_ a.f_Evening__getitem_ fd
  m_Evening__getitem_ : Meth K a.c_Evening "__getitem__" a.f_Evening__getitem_
  u_Evening__iter_ : ∃ fd, Fun K "__iter__" "Evening.__iter__" s_Evening__iter_ a.f_Evening__iter_ fd
  m_Evening__iter_ : Meth K a.c_Evening "__iter__" a.f_Evening__iter_
  u_Evening__len_ : ∃ fd, Fun K "__len__" "Evening.__len__" s_Evening__len_ a.f_Evening__len_ fd
  m_Evening__len_ : Meth K a.c_Evening "__len__" a.f_Evening__len_
  u_Evening__bool_ : ∃ fd, Fun K "__bool__" "Evening.__bool__" s_Evening__bool_ a.f_Evening__bool_ fd
  m_Evening__bool_ : Meth K a.c_Evening "__bool__" a.f_Evening__bool_
  u_Evening__add_ : ∃ fd, Fun K "__add__" "Evening.__add__" s_Evening__add_ a.f_Evening__add_ fd
  m_Evening__add_ : Meth K a.c_Evening "__add__" a.f_Evening__add_
  u_Evening__mul_ : ∃ fd, Fun K "__mul__" "Evening.__mul__" s_Evening__mul_ a.f_Evening__mul_ fd
  m_Evening__mul_ : Meth K a.c_Evening "__mul__" a.f_Evening__mul_
  oi_Evening__mul_ : OpInt K a.c_Evening "__mul__" "__rmul__"
  g_MarkObserver : mg "MarkObserver" = some (.ref a.c_MarkObserver)
  cl_MarkObserver : Cls K a.c_MarkObserver
  si_MarkObserver : SlX.SIsi K a.c_MarkObserver
  ob_MarkObserver : PySem.W.subIn K (.ref a.c_MarkObserver) (.type "object") = some true
  sf_MarkObserver : PySem.W.selfFirst K a.c_MarkObserver = true
  kit_MarkObserver_tuple : PySem.W.kitOne K (.type "tuple") (.ref a.c_MarkObserver) = some false
  kit_MarkObserver_list : PySem.W.kitOne K (.type "list") (.ref a.c_MarkObserver) = some false
  kit_MarkObserver_int : PySem.W.kitOne K (.type "int") (.ref a.c_MarkObserver) = some false
  na_MarkObserver_evening : NoAttr K a.c_MarkObserver "_evening"
  na_MarkObserver_possible : NoAttr K a.c_MarkObserver "_possible"
  na_MarkObserver_accepted : NoAttr K a.c_MarkObserver "_accepted"
  u_MarkObserver__init_ : ∃ fd, Fun K "__init__" "MarkObserver.__init__" s_MarkObserver__init_ a.f_MarkObserver__init_ fd
  m_MarkObserver__init_ : Meth K a.c_MarkObserver "__init__" a.f_MarkObserver__init_
  mk_MarkObserver : Mk K a.c_MarkObserver a.f_MarkObserver__init_
  u_MarkObserver_possible_marks : ∃ fd, Fun K "possible_marks" "MarkObserver.possible_marks" s_MarkObserver_possible_marks a.f_MarkObserver_possible_marks fd
  pr_MarkObserver_possible_marks : PropOf K a.c_MarkObserver "possible_marks" a.p_MarkObserver_possible_marks a.f_MarkObserver_possible_marks
  u_MarkObserver_records : ∃ fd, Fun K "records" "MarkObserver.records" s_MarkObserver_records a.f_MarkObserver_records fd
  pr_MarkObserver_records : PropOf K a.c_MarkObserver "records" a.p_MarkObserver_records a.f_MarkObserver_records
  u_MarkObserver_see : ∃ fd, Fun K "see" "MarkObserver.see" s_MarkObserver_see a.f_MarkObserver_see fd
  m_MarkObserver_see : Meth K a.c_MarkObserver "see" a.f_MarkObserver_see
theorem all_mk {K : PySem.W.Frag} {h : Heap} {mg : Str → Option Value} {f__wall f_is_between f_check_seat f_check_amount f_check_seats f_check_seat_count f_check_bills f_check_mark f_check_times f_no_shares f_seats_behind f_split_bill f_twice f_repeated f_lowest_terms f_long_run f_marks_after f_known_after f_evening_of_few f_reset f_telling f_share_for_bill f_paid_from_each_mark f_widest_gap f_best_mark f_longer_ways f_spread_of f_fairest_order f__law_start f__law_drawn f__law_all_there f__law_two_and_all f_law c_CentError c_InvalidBill c_InvalidEvening c_InvalidMark c_UnknownSeat c_OtherTable c_InvalidNumber c_TooManyBills c_Contradiction c_Shares f_Shares__init_ f_Shares_cents p_Shares_cents f_Shares_whole p_Shares_whole f_Shares__getitem_ f_Shares__iter_ f_Shares__len_ f_Shares__eq_ f_Shares__add_ f_Shares__sub_ f_Shares__mul_ f_Shares__neg_ f_Shares__abs_ c_Bill f_Bill__init_ f_Bill_amount p_Bill_amount f_Bill_seats p_Bill_seats f_Bill_odd_cents p_Bill_odd_cents f_Bill__contains_ c_Evening f_Evening__init_ f_Evening_together p_Evening_together f_Evening_seat_count p_Evening_seat_count f_Evening_bills p_Evening_bills f_Evening__call_ f_Evening__getitem_ f_Evening__iter_ f_Evening__len_ f_Evening__bool_ f_Evening__add_ f_Evening__mul_ c_MarkObserver f_MarkObserver__init_ f_MarkObserver_possible_marks p_MarkObserver_possible_marks f_MarkObserver_records p_MarkObserver_records f_MarkObserver_see : Addr} (X : K.In h) (G : h.Ns mainGlobals mg)
    {tk_MAX_AMOUNT : Tok}
    {tk_MIN_SEAT_COUNT : Tok}
    {tk_MAX_TIMES : Tok}
    {tk_MAX_LISTED_BILLS : Tok}
    {tk_MAX_BILL_NUMBER : Tok}
    {tk_MAX_ORDERED_BILLS : Tok}
    {od1 an1 : Option Addr} {sl1 : Array (Option Value)} {oc1 kV1 dc1 pm1 cd1 ct1 : Value}
    {od2 an2 : Option Addr} {sl2 : Array (Option Value)} {oc2 kV2 dc2 pm2 cd2 ct2 : Value}
    {od3 an3 : Option Addr} {sl3 : Array (Option Value)} {oc3 kV3 dc3 pm3 cd3 ct3 : Value}
    {od4 an4 : Option Addr} {sl4 : Array (Option Value)} {oc4 kV4 dc4 pm4 cd4 ct4 : Value}
    {od5 an5 : Option Addr} {sl5 : Array (Option Value)} {oc5 kV5 dc5 pm5 cd5 ct5 : Value}
    {od6 an6 : Option Addr} {sl6 : Array (Option Value)} {oc6 kV6 dc6 pm6 cd6 ct6 : Value}
    {od7 an7 : Option Addr} {sl7 : Array (Option Value)} {oc7 kV7 dc7 pm7 cd7 ct7 : Value}
    {od8 an8 : Option Addr} {sl8 : Array (Option Value)} {oc8 kV8 dc8 pm8 cd8 ct8 : Value}
    {od9 an9 : Option Addr} {sl9 : Array (Option Value)} {oc9 kV9 dc9 pm9 cd9 ct9 : Value}
    {od10 an10 : Option Addr} {sl10 : Array (Option Value)} {oc10 kV10 dc10 pm10 cd10 ct10 : Value}
    {od11 an11 : Option Addr} {sl11 : Array (Option Value)} {oc11 kV11 dc11 pm11 cd11 ct11 : Value}
    {od12 an12 : Option Addr} {sl12 : Array (Option Value)} {oc12 kV12 dc12 pm12 cd12 ct12 : Value}
    {od13 an13 : Option Addr} {sl13 : Array (Option Value)} {oc13 kV13 dc13 pm13 cd13 ct13 : Value}
    {od14 an14 : Option Addr} {sl14 : Array (Option Value)} {oc14 kV14 dc14 pm14 cd14 ct14 : Value}
    {od15 an15 : Option Addr} {sl15 : Array (Option Value)} {oc15 kV15 dc15 pm15 cd15 ct15 : Value}
    {od16 an16 : Option Addr} {sl16 : Array (Option Value)} {oc16 kV16 dc16 pm16 cd16 ct16 : Value}
    {od17 an17 : Option Addr} {sl17 : Array (Option Value)} {oc17 kV17 dc17 pm17 cd17 ct17 : Value}
    {od18 an18 : Option Addr} {sl18 : Array (Option Value)} {oc18 kV18 dc18 pm18 cd18 ct18 : Value}
    {od19 an19 : Option Addr} {sl19 : Array (Option Value)} {oc19 kV19 dc19 pm19 cd19 ct19 : Value}
    {od20 an20 : Option Addr} {sl20 : Array (Option Value)} {oc20 kV20 dc20 pm20 cd20 ct20 : Value}
    {od21 an21 : Option Addr} {sl21 : Array (Option Value)} {oc21 kV21 dc21 pm21 cd21 ct21 : Value}
    {od22 an22 : Option Addr} {sl22 : Array (Option Value)} {oc22 kV22 dc22 pm22 cd22 ct22 : Value}
    {od23 an23 : Option Addr} {sl23 : Array (Option Value)} {oc23 kV23 dc23 pm23 cd23 ct23 : Value}
    {od24 an24 : Option Addr} {sl24 : Array (Option Value)} {oc24 kV24 dc24 pm24 cd24 ct24 : Value}
    {od25 an25 : Option Addr} {sl25 : Array (Option Value)} {oc25 kV25 dc25 pm25 cd25 ct25 : Value}
    {od26 an26 : Option Addr} {sl26 : Array (Option Value)} {oc26 kV26 dc26 pm26 cd26 ct26 : Value}
    {od27 an27 : Option Addr} {sl27 : Array (Option Value)} {oc27 kV27 dc27 pm27 cd27 ct27 : Value}
    {od28 an28 : Option Addr} {sl28 : Array (Option Value)} {oc28 kV28 dc28 pm28 cd28 ct28 : Value}
    {od29 an29 : Option Addr} {sl29 : Array (Option Value)} {oc29 kV29 dc29 pm29 cd29 ct29 : Value}
    {od30 an30 : Option Addr} {sl30 : Array (Option Value)} {oc30 kV30 dc30 pm30 cd30 ct30 : Value}
    {od31 an31 : Option Addr} {sl31 : Array (Option Value)} {oc31 kV31 dc31 pm31 cd31 ct31 : Value}
    {od32 an32 : Option Addr} {sl32 : Array (Option Value)} {oc32 kV32 dc32 pm32 cd32 ct32 : Value}
    {od33 an33 : Option Addr} {sl33 : Array (Option Value)} {oc33 kV33 dc33 pm33 cd33 ct33 : Value}
    {od34 an34 : Option Addr} {sl34 : Array (Option Value)} {oc34 kV34 dc34 pm34 cd34 ct34 : Value}
    {rs_Shares_cents : List Value}
    {od35 an35 : Option Addr} {sl35 : Array (Option Value)} {oc35 kV35 dc35 pm35 cd35 ct35 : Value}
    {rs_Shares_whole : List Value}
    {od36 an36 : Option Addr} {sl36 : Array (Option Value)} {oc36 kV36 dc36 pm36 cd36 ct36 : Value}
    {od37 an37 : Option Addr} {sl37 : Array (Option Value)} {oc37 kV37 dc37 pm37 cd37 ct37 : Value}
    {od38 an38 : Option Addr} {sl38 : Array (Option Value)} {oc38 kV38 dc38 pm38 cd38 ct38 : Value}
    {od39 an39 : Option Addr} {sl39 : Array (Option Value)} {oc39 kV39 dc39 pm39 cd39 ct39 : Value}
    {od40 an40 : Option Addr} {sl40 : Array (Option Value)} {oc40 kV40 dc40 pm40 cd40 ct40 : Value}
    {od41 an41 : Option Addr} {sl41 : Array (Option Value)} {oc41 kV41 dc41 pm41 cd41 ct41 : Value}
    {od42 an42 : Option Addr} {sl42 : Array (Option Value)} {oc42 kV42 dc42 pm42 cd42 ct42 : Value}
    {od43 an43 : Option Addr} {sl43 : Array (Option Value)} {oc43 kV43 dc43 pm43 cd43 ct43 : Value}
    {fo_Shares__mul_ ro_Shares__mul_ : Option Value}
    {od44 an44 : Option Addr} {sl44 : Array (Option Value)} {oc44 kV44 dc44 pm44 cd44 ct44 : Value}
    {od45 an45 : Option Addr} {sl45 : Array (Option Value)} {oc45 kV45 dc45 pm45 cd45 ct45 : Value}
    {tk_Bill_MAX_SEATS : Tok}
    {od46 an46 : Option Addr} {sl46 : Array (Option Value)} {oc46 kV46 dc46 pm46 cd46 ct46 : Value}
    {rs_Bill_amount : List Value}
    {od47 an47 : Option Addr} {sl47 : Array (Option Value)} {oc47 kV47 dc47 pm47 cd47 ct47 : Value}
    {rs_Bill_seats : List Value}
    {od48 an48 : Option Addr} {sl48 : Array (Option Value)} {oc48 kV48 dc48 pm48 cd48 ct48 : Value}
    {rs_Bill_odd_cents : List Value}
    {od49 an49 : Option Addr} {sl49 : Array (Option Value)} {oc49 kV49 dc49 pm49 cd49 ct49 : Value}
    {od50 an50 : Option Addr} {sl50 : Array (Option Value)} {oc50 kV50 dc50 pm50 cd50 ct50 : Value}
    {tk_Evening_MAX_BILLS : Tok}
    {od51 an51 : Option Addr} {sl51 : Array (Option Value)} {oc51 kV51 dc51 pm51 cd51 ct51 : Value}
    {rs_Evening_together : List Value}
    {od52 an52 : Option Addr} {sl52 : Array (Option Value)} {oc52 kV52 dc52 pm52 cd52 ct52 : Value}
    {rs_Evening_seat_count : List Value}
    {od53 an53 : Option Addr} {sl53 : Array (Option Value)} {oc53 kV53 dc53 pm53 cd53 ct53 : Value}
    {rs_Evening_bills : List Value}
    {od54 an54 : Option Addr} {sl54 : Array (Option Value)} {oc54 kV54 dc54 pm54 cd54 ct54 : Value}
    {od55 an55 : Option Addr} {sl55 : Array (Option Value)} {oc55 kV55 dc55 pm55 cd55 ct55 : Value}
    {od56 an56 : Option Addr} {sl56 : Array (Option Value)} {oc56 kV56 dc56 pm56 cd56 ct56 : Value}
    {od57 an57 : Option Addr} {sl57 : Array (Option Value)} {oc57 kV57 dc57 pm57 cd57 ct57 : Value}
    {od58 an58 : Option Addr} {sl58 : Array (Option Value)} {oc58 kV58 dc58 pm58 cd58 ct58 : Value}
    {od59 an59 : Option Addr} {sl59 : Array (Option Value)} {oc59 kV59 dc59 pm59 cd59 ct59 : Value}
    {od60 an60 : Option Addr} {sl60 : Array (Option Value)} {oc60 kV60 dc60 pm60 cd60 ct60 : Value}
    {od61 an61 : Option Addr} {sl61 : Array (Option Value)} {oc61 kV61 dc61 pm61 cd61 ct61 : Value}
    {fo_Evening__mul_ ro_Evening__mul_ : Option Value}
    {od62 an62 : Option Addr} {sl62 : Array (Option Value)} {oc62 kV62 dc62 pm62 cd62 ct62 : Value}
    {rs_MarkObserver_possible_marks : List Value}
    {od63 an63 : Option Addr} {sl63 : Array (Option Value)} {oc63 kV63 dc63 pm63 cd63 ct63 : Value}
    {rs_MarkObserver_records : List Value}
    {od64 an64 : Option Addr} {sl64 : Array (Option Value)} {oc64 kV64 dc64 pm64 cd64 ct64 : Value}
    {od65 an65 : Option Addr} {sl65 : Array (Option Value)} {oc65 kV65 dc65 pm65 cd65 ct65 : Value}
    (z_TypeError : PySem.W.nsIn K mainGlobals "TypeError" = some none)
    (z_abs : PySem.W.nsIn K mainGlobals "abs" = some none)
    (z_bool : PySem.W.nsIn K mainGlobals "bool" = some none)
    (z_classmethod : PySem.W.nsIn K mainGlobals "classmethod" = some none)
    (z_divmod : PySem.W.nsIn K mainGlobals "divmod" = some none)
    (z_enumerate : PySem.W.nsIn K mainGlobals "enumerate" = some none)
    (z_int : PySem.W.nsIn K mainGlobals "int" = some none)
    (z_isinstance : PySem.W.nsIn K mainGlobals "isinstance" = some none)
    (z_len : PySem.W.nsIn K mainGlobals "len" = some none)
    (z_list : PySem.W.nsIn K mainGlobals "list" = some none)
    (z_max : PySem.W.nsIn K mainGlobals "max" = some none)
    (z_min : PySem.W.nsIn K mainGlobals "min" = some none)
    (z_property : PySem.W.nsIn K mainGlobals "property" = some none)
    (z_range : PySem.W.nsIn K mainGlobals "range" = some none)
    (z_sorted : PySem.W.nsIn K mainGlobals "sorted" = some none)
    (z_sum : PySem.W.nsIn K mainGlobals "sum" = some none)
    (z_super : PySem.W.nsIn K mainGlobals "super" = some none)
    (z_tuple : PySem.W.nsIn K mainGlobals "tuple" = some none)
    (z_zip : PySem.W.nsIn K mainGlobals "zip" = some none)
    (b_gcd : PySem.W.nsIn K mainGlobals "gcd" = some (some (.builtin "math.gcd")))
    (g_MAX_AMOUNT : PySem.W.nsIn K mainGlobals "MAX_AMOUNT" = some (some (.int 1000000000000 tk_MAX_AMOUNT)))
    (g_MIN_SEAT_COUNT : PySem.W.nsIn K mainGlobals "MIN_SEAT_COUNT" = some (some (.int 2 tk_MIN_SEAT_COUNT)))
    (g_MAX_TIMES : PySem.W.nsIn K mainGlobals "MAX_TIMES" = some (some (.int 1000000000000000000 tk_MAX_TIMES)))
    (g_MAX_LISTED_BILLS : PySem.W.nsIn K mainGlobals "MAX_LISTED_BILLS" = some (some (.int 6 tk_MAX_LISTED_BILLS)))
    (g_MAX_BILL_NUMBER : PySem.W.nsIn K mainGlobals "MAX_BILL_NUMBER" = some (some (.int 1000000000000000000 tk_MAX_BILL_NUMBER)))
    (g_MAX_ORDERED_BILLS : PySem.W.nsIn K mainGlobals "MAX_ORDERED_BILLS" = some (some (.int 7 tk_MAX_ORDERED_BILLS)))
    (g__wall : PySem.W.nsIn K mainGlobals "_wall" = some (some (.ref f__wall)))
    (l1 : K.lookup f__wall = some ⟨oc1, od1, .func (PySem.W.fnOf "_wall" "_wall" (defArgs s__wall) (defBody s__wall) (defScope s__wall) .none kV1 dc1 pm1 an1 cd1 ct1), sl1⟩)
    (c1 : PySem.W.codeIn K cd1 "_wall" = true)
    (k1 : PySem.W.keepIn K (.ref f__wall) = true)
    (g_is_between : PySem.W.nsIn K mainGlobals "is_between" = some (some (.ref f_is_between)))
    (l2 : K.lookup f_is_between = some ⟨oc2, od2, .func (PySem.W.fnOf "is_between" "is_between" (defArgs s_is_between) (defBody s_is_between) (defScope s_is_between) .none kV2 dc2 pm2 an2 cd2 ct2), sl2⟩)
    (c2 : PySem.W.codeIn K cd2 "is_between" = true)
    (k2 : PySem.W.keepIn K (.ref f_is_between) = true)
    (g_check_seat : PySem.W.nsIn K mainGlobals "check_seat" = some (some (.ref f_check_seat)))
    (l3 : K.lookup f_check_seat = some ⟨oc3, od3, .func (PySem.W.fnOf "check_seat" "check_seat" (defArgs s_check_seat) (defBody s_check_seat) (defScope s_check_seat) .none kV3 dc3 pm3 an3 cd3 ct3), sl3⟩)
    (c3 : PySem.W.codeIn K cd3 "check_seat" = true)
    (k3 : PySem.W.keepIn K (.ref f_check_seat) = true)
    (g_check_amount : PySem.W.nsIn K mainGlobals "check_amount" = some (some (.ref f_check_amount)))
    (l4 : K.lookup f_check_amount = some ⟨oc4, od4, .func (PySem.W.fnOf "check_amount" "check_amount" (defArgs s_check_amount) (defBody s_check_amount) (defScope s_check_amount) .none kV4 dc4 pm4 an4 cd4 ct4), sl4⟩)
    (c4 : PySem.W.codeIn K cd4 "check_amount" = true)
    (k4 : PySem.W.keepIn K (.ref f_check_amount) = true)
    (g_check_seats : PySem.W.nsIn K mainGlobals "check_seats" = some (some (.ref f_check_seats)))
    (l5 : K.lookup f_check_seats = some ⟨oc5, od5, .func (PySem.W.fnOf "check_seats" "check_seats" (defArgs s_check_seats) (defBody s_check_seats) (defScope s_check_seats) .none kV5 dc5 pm5 an5 cd5 ct5), sl5⟩)
    (c5 : PySem.W.codeIn K cd5 "check_seats" = true)
    (k5 : PySem.W.keepIn K (.ref f_check_seats) = true)
    (g_check_seat_count : PySem.W.nsIn K mainGlobals "check_seat_count" = some (some (.ref f_check_seat_count)))
    (l6 : K.lookup f_check_seat_count = some ⟨oc6, od6, .func (PySem.W.fnOf "check_seat_count" "check_seat_count" (defArgs s_check_seat_count) (defBody s_check_seat_count) (defScope s_check_seat_count) .none kV6 dc6 pm6 an6 cd6 ct6), sl6⟩)
    (c6 : PySem.W.codeIn K cd6 "check_seat_count" = true)
    (k6 : PySem.W.keepIn K (.ref f_check_seat_count) = true)
    (g_check_bills : PySem.W.nsIn K mainGlobals "check_bills" = some (some (.ref f_check_bills)))
    (l7 : K.lookup f_check_bills = some ⟨oc7, od7, .func (PySem.W.fnOf "check_bills" "check_bills" (defArgs s_check_bills) (defBody s_check_bills) (defScope s_check_bills) .none kV7 dc7 pm7 an7 cd7 ct7), sl7⟩)
    (c7 : PySem.W.codeIn K cd7 "check_bills" = true)
    (k7 : PySem.W.keepIn K (.ref f_check_bills) = true)
    (g_check_mark : PySem.W.nsIn K mainGlobals "check_mark" = some (some (.ref f_check_mark)))
    (l8 : K.lookup f_check_mark = some ⟨oc8, od8, .func (PySem.W.fnOf "check_mark" "check_mark" (defArgs s_check_mark) (defBody s_check_mark) (defScope s_check_mark) .none kV8 dc8 pm8 an8 cd8 ct8), sl8⟩)
    (c8 : PySem.W.codeIn K cd8 "check_mark" = true)
    (k8 : PySem.W.keepIn K (.ref f_check_mark) = true)
    (g_check_times : PySem.W.nsIn K mainGlobals "check_times" = some (some (.ref f_check_times)))
    (l9 : K.lookup f_check_times = some ⟨oc9, od9, .func (PySem.W.fnOf "check_times" "check_times" (defArgs s_check_times) (defBody s_check_times) (defScope s_check_times) .none kV9 dc9 pm9 an9 cd9 ct9), sl9⟩)
    (c9 : PySem.W.codeIn K cd9 "check_times" = true)
    (k9 : PySem.W.keepIn K (.ref f_check_times) = true)
    (g_no_shares : PySem.W.nsIn K mainGlobals "no_shares" = some (some (.ref f_no_shares)))
    (l10 : K.lookup f_no_shares = some ⟨oc10, od10, .func (PySem.W.fnOf "no_shares" "no_shares" (defArgs s_no_shares) (defBody s_no_shares) (defScope s_no_shares) .none kV10 dc10 pm10 an10 cd10 ct10), sl10⟩)
    (c10 : PySem.W.codeIn K cd10 "no_shares" = true)
    (k10 : PySem.W.keepIn K (.ref f_no_shares) = true)
    (g_seats_behind : PySem.W.nsIn K mainGlobals "seats_behind" = some (some (.ref f_seats_behind)))
    (l11 : K.lookup f_seats_behind = some ⟨oc11, od11, .func (PySem.W.fnOf "seats_behind" "seats_behind" (defArgs s_seats_behind) (defBody s_seats_behind) (defScope s_seats_behind) .none kV11 dc11 pm11 an11 cd11 ct11), sl11⟩)
    (c11 : PySem.W.codeIn K cd11 "seats_behind" = true)
    (k11 : PySem.W.keepIn K (.ref f_seats_behind) = true)
    (g_split_bill : PySem.W.nsIn K mainGlobals "split_bill" = some (some (.ref f_split_bill)))
    (l12 : K.lookup f_split_bill = some ⟨oc12, od12, .func (PySem.W.fnOf "split_bill" "split_bill" (defArgs s_split_bill) (defBody s_split_bill) (defScope s_split_bill) .none kV12 dc12 pm12 an12 cd12 ct12), sl12⟩)
    (c12 : PySem.W.codeIn K cd12 "split_bill" = true)
    (k12 : PySem.W.keepIn K (.ref f_split_bill) = true)
    (g_twice : PySem.W.nsIn K mainGlobals "twice" = some (some (.ref f_twice)))
    (l13 : K.lookup f_twice = some ⟨oc13, od13, .func (PySem.W.fnOf "twice" "twice" (defArgs s_twice) (defBody s_twice) (defScope s_twice) .none kV13 dc13 pm13 an13 cd13 ct13), sl13⟩)
    (c13 : PySem.W.codeIn K cd13 "twice" = true)
    (k13 : PySem.W.keepIn K (.ref f_twice) = true)
    (g_repeated : PySem.W.nsIn K mainGlobals "repeated" = some (some (.ref f_repeated)))
    (l14 : K.lookup f_repeated = some ⟨oc14, od14, .func (PySem.W.fnOf "repeated" "repeated" (defArgs s_repeated) (defBody s_repeated) (defScope s_repeated) .none kV14 dc14 pm14 an14 cd14 ct14), sl14⟩)
    (c14 : PySem.W.codeIn K cd14 "repeated" = true)
    (k14 : PySem.W.keepIn K (.ref f_repeated) = true)
    (g_lowest_terms : PySem.W.nsIn K mainGlobals "lowest_terms" = some (some (.ref f_lowest_terms)))
    (l15 : K.lookup f_lowest_terms = some ⟨oc15, od15, .func (PySem.W.fnOf "lowest_terms" "lowest_terms" (defArgs s_lowest_terms) (defBody s_lowest_terms) (defScope s_lowest_terms) .none kV15 dc15 pm15 an15 cd15 ct15), sl15⟩)
    (c15 : PySem.W.codeIn K cd15 "lowest_terms" = true)
    (k15 : PySem.W.keepIn K (.ref f_lowest_terms) = true)
    (g_long_run : PySem.W.nsIn K mainGlobals "long_run" = some (some (.ref f_long_run)))
    (l16 : K.lookup f_long_run = some ⟨oc16, od16, .func (PySem.W.fnOf "long_run" "long_run" (defArgs s_long_run) (defBody s_long_run) (defScope s_long_run) .none kV16 dc16 pm16 an16 cd16 ct16), sl16⟩)
    (c16 : PySem.W.codeIn K cd16 "long_run" = true)
    (k16 : PySem.W.keepIn K (.ref f_long_run) = true)
    (g_marks_after : PySem.W.nsIn K mainGlobals "marks_after" = some (some (.ref f_marks_after)))
    (l17 : K.lookup f_marks_after = some ⟨oc17, od17, .func (PySem.W.fnOf "marks_after" "marks_after" (defArgs s_marks_after) (defBody s_marks_after) (defScope s_marks_after) .none kV17 dc17 pm17 an17 cd17 ct17), sl17⟩)
    (c17 : PySem.W.codeIn K cd17 "marks_after" = true)
    (k17 : PySem.W.keepIn K (.ref f_marks_after) = true)
    (g_known_after : PySem.W.nsIn K mainGlobals "known_after" = some (some (.ref f_known_after)))
    (l18 : K.lookup f_known_after = some ⟨oc18, od18, .func (PySem.W.fnOf "known_after" "known_after" (defArgs s_known_after) (defBody s_known_after) (defScope s_known_after) .none kV18 dc18 pm18 an18 cd18 ct18), sl18⟩)
    (c18 : PySem.W.codeIn K cd18 "known_after" = true)
    (k18 : PySem.W.keepIn K (.ref f_known_after) = true)
    (g_evening_of_few : PySem.W.nsIn K mainGlobals "evening_of_few" = some (some (.ref f_evening_of_few)))
    (l19 : K.lookup f_evening_of_few = some ⟨oc19, od19, .func (PySem.W.fnOf "evening_of_few" "evening_of_few" (defArgs s_evening_of_few) (defBody s_evening_of_few) (defScope s_evening_of_few) .none kV19 dc19 pm19 an19 cd19 ct19), sl19⟩)
    (c19 : PySem.W.codeIn K cd19 "evening_of_few" = true)
    (k19 : PySem.W.keepIn K (.ref f_evening_of_few) = true)
    (g_reset : PySem.W.nsIn K mainGlobals "reset" = some (some (.ref f_reset)))
    (l20 : K.lookup f_reset = some ⟨oc20, od20, .func (PySem.W.fnOf "reset" "reset" (defArgs s_reset) (defBody s_reset) (defScope s_reset) .none kV20 dc20 pm20 an20 cd20 ct20), sl20⟩)
    (c20 : PySem.W.codeIn K cd20 "reset" = true)
    (k20 : PySem.W.keepIn K (.ref f_reset) = true)
    (g_telling : PySem.W.nsIn K mainGlobals "telling" = some (some (.ref f_telling)))
    (l21 : K.lookup f_telling = some ⟨oc21, od21, .func (PySem.W.fnOf "telling" "telling" (defArgs s_telling) (defBody s_telling) (defScope s_telling) .none kV21 dc21 pm21 an21 cd21 ct21), sl21⟩)
    (c21 : PySem.W.codeIn K cd21 "telling" = true)
    (k21 : PySem.W.keepIn K (.ref f_telling) = true)
    (g_share_for_bill : PySem.W.nsIn K mainGlobals "share_for_bill" = some (some (.ref f_share_for_bill)))
    (l22 : K.lookup f_share_for_bill = some ⟨oc22, od22, .func (PySem.W.fnOf "share_for_bill" "share_for_bill" (defArgs s_share_for_bill) (defBody s_share_for_bill) (defScope s_share_for_bill) .none kV22 dc22 pm22 an22 cd22 ct22), sl22⟩)
    (c22 : PySem.W.codeIn K cd22 "share_for_bill" = true)
    (k22 : PySem.W.keepIn K (.ref f_share_for_bill) = true)
    (g_paid_from_each_mark : PySem.W.nsIn K mainGlobals "paid_from_each_mark" = some (some (.ref f_paid_from_each_mark)))
    (l23 : K.lookup f_paid_from_each_mark = some ⟨oc23, od23, .func (PySem.W.fnOf "paid_from_each_mark" "paid_from_each_mark" (defArgs s_paid_from_each_mark) (defBody s_paid_from_each_mark) (defScope s_paid_from_each_mark) .none kV23 dc23 pm23 an23 cd23 ct23), sl23⟩)
    (c23 : PySem.W.codeIn K cd23 "paid_from_each_mark" = true)
    (k23 : PySem.W.keepIn K (.ref f_paid_from_each_mark) = true)
    (g_widest_gap : PySem.W.nsIn K mainGlobals "widest_gap" = some (some (.ref f_widest_gap)))
    (l24 : K.lookup f_widest_gap = some ⟨oc24, od24, .func (PySem.W.fnOf "widest_gap" "widest_gap" (defArgs s_widest_gap) (defBody s_widest_gap) (defScope s_widest_gap) .none kV24 dc24 pm24 an24 cd24 ct24), sl24⟩)
    (c24 : PySem.W.codeIn K cd24 "widest_gap" = true)
    (k24 : PySem.W.keepIn K (.ref f_widest_gap) = true)
    (g_best_mark : PySem.W.nsIn K mainGlobals "best_mark" = some (some (.ref f_best_mark)))
    (l25 : K.lookup f_best_mark = some ⟨oc25, od25, .func (PySem.W.fnOf "best_mark" "best_mark" (defArgs s_best_mark) (defBody s_best_mark) (defScope s_best_mark) .none kV25 dc25 pm25 an25 cd25 ct25), sl25⟩)
    (c25 : PySem.W.codeIn K cd25 "best_mark" = true)
    (k25 : PySem.W.keepIn K (.ref f_best_mark) = true)
    (g_longer_ways : PySem.W.nsIn K mainGlobals "longer_ways" = some (some (.ref f_longer_ways)))
    (l26 : K.lookup f_longer_ways = some ⟨oc26, od26, .func (PySem.W.fnOf "longer_ways" "longer_ways" (defArgs s_longer_ways) (defBody s_longer_ways) (defScope s_longer_ways) .none kV26 dc26 pm26 an26 cd26 ct26), sl26⟩)
    (c26 : PySem.W.codeIn K cd26 "longer_ways" = true)
    (k26 : PySem.W.keepIn K (.ref f_longer_ways) = true)
    (g_spread_of : PySem.W.nsIn K mainGlobals "spread_of" = some (some (.ref f_spread_of)))
    (l27 : K.lookup f_spread_of = some ⟨oc27, od27, .func (PySem.W.fnOf "spread_of" "spread_of" (defArgs s_spread_of) (defBody s_spread_of) (defScope s_spread_of) .none kV27 dc27 pm27 an27 cd27 ct27), sl27⟩)
    (c27 : PySem.W.codeIn K cd27 "spread_of" = true)
    (k27 : PySem.W.keepIn K (.ref f_spread_of) = true)
    (g_fairest_order : PySem.W.nsIn K mainGlobals "fairest_order" = some (some (.ref f_fairest_order)))
    (l28 : K.lookup f_fairest_order = some ⟨oc28, od28, .func (PySem.W.fnOf "fairest_order" "fairest_order" (defArgs s_fairest_order) (defBody s_fairest_order) (defScope s_fairest_order) .none kV28 dc28 pm28 an28 cd28 ct28), sl28⟩)
    (c28 : PySem.W.codeIn K cd28 "fairest_order" = true)
    (k28 : PySem.W.keepIn K (.ref f_fairest_order) = true)
    (g__law_start : PySem.W.nsIn K mainGlobals "_law_start" = some (some (.ref f__law_start)))
    (l29 : K.lookup f__law_start = some ⟨oc29, od29, .func (PySem.W.fnOf "_law_start" "_law_start" (defArgs s__law_start) (defBody s__law_start) (defScope s__law_start) .none kV29 dc29 pm29 an29 cd29 ct29), sl29⟩)
    (c29 : PySem.W.codeIn K cd29 "_law_start" = true)
    (k29 : PySem.W.keepIn K (.ref f__law_start) = true)
    (g__law_drawn : PySem.W.nsIn K mainGlobals "_law_drawn" = some (some (.ref f__law_drawn)))
    (l30 : K.lookup f__law_drawn = some ⟨oc30, od30, .func (PySem.W.fnOf "_law_drawn" "_law_drawn" (defArgs s__law_drawn) (defBody s__law_drawn) (defScope s__law_drawn) .none kV30 dc30 pm30 an30 cd30 ct30), sl30⟩)
    (c30 : PySem.W.codeIn K cd30 "_law_drawn" = true)
    (k30 : PySem.W.keepIn K (.ref f__law_drawn) = true)
    (g__law_all_there : PySem.W.nsIn K mainGlobals "_law_all_there" = some (some (.ref f__law_all_there)))
    (l31 : K.lookup f__law_all_there = some ⟨oc31, od31, .func (PySem.W.fnOf "_law_all_there" "_law_all_there" (defArgs s__law_all_there) (defBody s__law_all_there) (defScope s__law_all_there) .none kV31 dc31 pm31 an31 cd31 ct31), sl31⟩)
    (c31 : PySem.W.codeIn K cd31 "_law_all_there" = true)
    (k31 : PySem.W.keepIn K (.ref f__law_all_there) = true)
    (g__law_two_and_all : PySem.W.nsIn K mainGlobals "_law_two_and_all" = some (some (.ref f__law_two_and_all)))
    (l32 : K.lookup f__law_two_and_all = some ⟨oc32, od32, .func (PySem.W.fnOf "_law_two_and_all" "_law_two_and_all" (defArgs s__law_two_and_all) (defBody s__law_two_and_all) (defScope s__law_two_and_all) .none kV32 dc32 pm32 an32 cd32 ct32), sl32⟩)
    (c32 : PySem.W.codeIn K cd32 "_law_two_and_all" = true)
    (k32 : PySem.W.keepIn K (.ref f__law_two_and_all) = true)
    (g_law : PySem.W.nsIn K mainGlobals "law" = some (some (.ref f_law)))
    (l33 : K.lookup f_law = some ⟨oc33, od33, .func (PySem.W.fnOf "law" "law" (defArgs s_law) (defBody s_law) (defScope s_law) .none kV33 dc33 pm33 an33 cd33 ct33), sl33⟩)
    (c33 : PySem.W.codeIn K cd33 "law" = true)
    (k33 : PySem.W.keepIn K (.ref f_law) = true)
    (g_CentError : PySem.W.nsIn K mainGlobals "CentError" = some (some (.ref c_CentError)))
    (x_CentError : PySem.W.excIn K c_CentError [.type "ValueError", .type "Exception", .type "BaseException", .type "object"] "ValueError.__new__" = true)
    (xk_CentError : PySem.W.keepIn K (.ref c_CentError) = true)
    (xs_CentError : PySem.W.subIn K (.ref c_CentError) (.type "BaseException") = some true)
    (xt_CentError : PySem.W.typeIn K (.ref c_CentError) = some (.type "type"))
    (g_InvalidBill : PySem.W.nsIn K mainGlobals "InvalidBill" = some (some (.ref c_InvalidBill)))
    (g_InvalidEvening : PySem.W.nsIn K mainGlobals "InvalidEvening" = some (some (.ref c_InvalidEvening)))
    (g_InvalidMark : PySem.W.nsIn K mainGlobals "InvalidMark" = some (some (.ref c_InvalidMark)))
    (x_InvalidMark : PySem.W.excIn K c_InvalidMark [.type "ValueError", .type "Exception", .type "BaseException", .type "object"] "ValueError.__new__" = true)
    (xk_InvalidMark : PySem.W.keepIn K (.ref c_InvalidMark) = true)
    (xs_InvalidMark : PySem.W.subIn K (.ref c_InvalidMark) (.type "BaseException") = some true)
    (xt_InvalidMark : PySem.W.typeIn K (.ref c_InvalidMark) = some (.type "type"))
    (g_UnknownSeat : PySem.W.nsIn K mainGlobals "UnknownSeat" = some (some (.ref c_UnknownSeat)))
    (x_UnknownSeat : PySem.W.excIn K c_UnknownSeat [.type "ValueError", .type "Exception", .type "BaseException", .type "object"] "ValueError.__new__" = true)
    (xk_UnknownSeat : PySem.W.keepIn K (.ref c_UnknownSeat) = true)
    (xs_UnknownSeat : PySem.W.subIn K (.ref c_UnknownSeat) (.type "BaseException") = some true)
    (xt_UnknownSeat : PySem.W.typeIn K (.ref c_UnknownSeat) = some (.type "type"))
    (g_OtherTable : PySem.W.nsIn K mainGlobals "OtherTable" = some (some (.ref c_OtherTable)))
    (x_OtherTable : PySem.W.excIn K c_OtherTable [.type "ValueError", .type "Exception", .type "BaseException", .type "object"] "ValueError.__new__" = true)
    (xk_OtherTable : PySem.W.keepIn K (.ref c_OtherTable) = true)
    (xs_OtherTable : PySem.W.subIn K (.ref c_OtherTable) (.type "BaseException") = some true)
    (xt_OtherTable : PySem.W.typeIn K (.ref c_OtherTable) = some (.type "type"))
    (g_InvalidNumber : PySem.W.nsIn K mainGlobals "InvalidNumber" = some (some (.ref c_InvalidNumber)))
    (x_InvalidNumber : PySem.W.excIn K c_InvalidNumber [.type "ValueError", .type "Exception", .type "BaseException", .type "object"] "ValueError.__new__" = true)
    (xk_InvalidNumber : PySem.W.keepIn K (.ref c_InvalidNumber) = true)
    (xs_InvalidNumber : PySem.W.subIn K (.ref c_InvalidNumber) (.type "BaseException") = some true)
    (xt_InvalidNumber : PySem.W.typeIn K (.ref c_InvalidNumber) = some (.type "type"))
    (g_TooManyBills : PySem.W.nsIn K mainGlobals "TooManyBills" = some (some (.ref c_TooManyBills)))
    (x_TooManyBills : PySem.W.excIn K c_TooManyBills [.type "ValueError", .type "Exception", .type "BaseException", .type "object"] "ValueError.__new__" = true)
    (xk_TooManyBills : PySem.W.keepIn K (.ref c_TooManyBills) = true)
    (xs_TooManyBills : PySem.W.subIn K (.ref c_TooManyBills) (.type "BaseException") = some true)
    (xt_TooManyBills : PySem.W.typeIn K (.ref c_TooManyBills) = some (.type "type"))
    (g_Contradiction : PySem.W.nsIn K mainGlobals "Contradiction" = some (some (.ref c_Contradiction)))
    (x_Contradiction : PySem.W.excIn K c_Contradiction [.type "ValueError", .type "Exception", .type "BaseException", .type "object"] "ValueError.__new__" = true)
    (xk_Contradiction : PySem.W.keepIn K (.ref c_Contradiction) = true)
    (xs_Contradiction : PySem.W.subIn K (.ref c_Contradiction) (.type "BaseException") = some true)
    (xt_Contradiction : PySem.W.typeIn K (.ref c_Contradiction) = some (.type "type"))
    (g_Shares : PySem.W.nsIn K mainGlobals "Shares" = some (some (.ref c_Shares)))
    (pg_Shares : PySem.W.plainGet K c_Shares Str.empty = true)
    (hd_Shares : PySem.W.hasDictIn K c_Shares = true)
    (po_Shares : PySem.W.plainOver K c_Shares = true)
    (sa_Shares : PySem.W.findIn K (.ref c_Shares) "__setattr__" = some (some (.builtin "object.__setattr__")))
    (ia_Shares : PySem.W.findIn K (.ref c_Shares) "__class__" = some (some (.builtin "object.__class__")))
    (ib_Shares : PySem.W.specialIn K (.builtin "object.__class__") "__get__" = some (some (.builtin "getset_descriptor.__get__")))
    (ic_Shares : PySem.W.takesIn K (.builtin "object.__class__") = some true)
    (id_Shares : PySem.W.mroIn K c_Shares (.type "object") = some true)
    (ob_Shares : PySem.W.subIn K (.ref c_Shares) (.type "object") = some true)
    (sf_Shares : PySem.W.selfFirst K c_Shares = true)
    (tyc_Shares : PySem.W.typeIn K (.ref c_Shares) = some (.type "type"))
    (kit_Shares_tuple : PySem.W.subIn K (.type "tuple") (.ref c_Shares) = some false)
    (kit_Shares_list : PySem.W.subIn K (.type "list") (.ref c_Shares) = some false)
    (kit_Shares_int : PySem.W.subIn K (.type "int") (.ref c_Shares) = some false)
    (na_Shares_cents : PySem.W.findIn K (.ref c_Shares) "_cents" = some none)
    (ma_Shares__init_ : PySem.W.findIn K (.ref c_Shares) "__init__" = some (some (.ref f_Shares__init_)))
    (mb_Shares__init_ : PySem.W.isFn K (.ref f_Shares__init_) = true)
    (l34 : K.lookup f_Shares__init_ = some ⟨oc34, od34, .func (PySem.W.fnOf "__init__" "Shares.__init__" (defArgs s_Shares__init_) (defBody s_Shares__init_) (defScope s_Shares__init_) .none kV34 dc34 pm34 an34 cd34 ct34), sl34⟩)
    (c34 : PySem.W.codeIn K cd34 "Shares.__init__" = true)
    (k34 : PySem.W.keepIn K (.ref f_Shares__init_) = true)
    (mk_Shares : PySem.W.makesIn K c_Shares = true)
    (kc_Shares : PySem.W.keepIn K (.ref c_Shares) = true)
    (pa_Shares_cents : PySem.W.findIn K (.ref c_Shares) "cents" = some (some (.ref p_Shares_cents)))
    (pb_Shares_cents : PySem.W.specialIn K (.ref p_Shares_cents) "__get__" = some (some (.builtin "property.__get__")))
    (pc_Shares_cents : PySem.W.takesIn K (.ref p_Shares_cents) = some true)
    (pd_Shares_cents : PySem.W.recIn K p_Shares_cents "property" = some (.ref f_Shares_cents :: rs_Shares_cents))
    (l35 : K.lookup f_Shares_cents = some ⟨oc35, od35, .func (PySem.W.fnOf "cents" "Shares.cents" (defArgs s_Shares_cents) (defBody s_Shares_cents) (defScope s_Shares_cents) .none kV35 dc35 pm35 an35 cd35 ct35), sl35⟩)
    (c35 : PySem.W.codeIn K cd35 "Shares.cents" = true)
    (k35 : PySem.W.keepIn K (.ref f_Shares_cents) = true)
    (pa_Shares_whole : PySem.W.findIn K (.ref c_Shares) "whole" = some (some (.ref p_Shares_whole)))
    (pb_Shares_whole : PySem.W.specialIn K (.ref p_Shares_whole) "__get__" = some (some (.builtin "property.__get__")))
    (pc_Shares_whole : PySem.W.takesIn K (.ref p_Shares_whole) = some true)
    (pd_Shares_whole : PySem.W.recIn K p_Shares_whole "property" = some (.ref f_Shares_whole :: rs_Shares_whole))
    (l36 : K.lookup f_Shares_whole = some ⟨oc36, od36, .func (PySem.W.fnOf "whole" "Shares.whole" (defArgs s_Shares_whole) (defBody s_Shares_whole) (defScope s_Shares_whole) .none kV36 dc36 pm36 an36 cd36 ct36), sl36⟩)
    (c36 : PySem.W.codeIn K cd36 "Shares.whole" = true)
    (k36 : PySem.W.keepIn K (.ref f_Shares_whole) = true)
    (ma_Shares__getitem_ : PySem.W.findIn K (.ref c_Shares) "__getitem__" = some (some (.ref f_Shares__getitem_)))
    (mb_Shares__getitem_ : PySem.W.isFn K (.ref f_Shares__getitem_) = true)
    (l37 : K.lookup f_Shares__getitem_ = some ⟨oc37, od37, .func (PySem.W.fnOf "__getitem__" "Shares.__getitem__" (defArgs s_Shares__getitem_) (defBody s_Shares__getitem_) (defScope s_Shares__getitem_) .none kV37 dc37 pm37 an37 cd37 ct37), sl37⟩)
    (c37 : PySem.W.codeIn K cd37 "Shares.__getitem__" = true)
    (k37 : PySem.W.keepIn K (.ref f_Shares__getitem_) = true)
    (ma_Shares__iter_ : PySem.W.findIn K (.ref c_Shares) "__iter__" = some (some (.ref f_Shares__iter_)))
    (mb_Shares__iter_ : PySem.W.isFn K (.ref f_Shares__iter_) = true)
    (l38 : K.lookup f_Shares__iter_ = some ⟨oc38, od38, .func (PySem.W.fnOf "__iter__" "Shares.__iter__" (defArgs s_Shares__iter_) (defBody s_Shares__iter_) (defScope s_Shares__iter_) .none kV38 dc38 pm38 an38 cd38 ct38), sl38⟩)
    (c38 : PySem.W.codeIn K cd38 "Shares.__iter__" = true)
    (k38 : PySem.W.keepIn K (.ref f_Shares__iter_) = true)
    (ma_Shares__len_ : PySem.W.findIn K (.ref c_Shares) "__len__" = some (some (.ref f_Shares__len_)))
    (mb_Shares__len_ : PySem.W.isFn K (.ref f_Shares__len_) = true)
    (l39 : K.lookup f_Shares__len_ = some ⟨oc39, od39, .func (PySem.W.fnOf "__len__" "Shares.__len__" (defArgs s_Shares__len_) (defBody s_Shares__len_) (defScope s_Shares__len_) .none kV39 dc39 pm39 an39 cd39 ct39), sl39⟩)
    (c39 : PySem.W.codeIn K cd39 "Shares.__len__" = true)
    (k39 : PySem.W.keepIn K (.ref f_Shares__len_) = true)
    (ma_Shares__eq_ : PySem.W.findIn K (.ref c_Shares) "__eq__" = some (some (.ref f_Shares__eq_)))
    (mb_Shares__eq_ : PySem.W.isFn K (.ref f_Shares__eq_) = true)
    (l40 : K.lookup f_Shares__eq_ = some ⟨oc40, od40, .func (PySem.W.fnOf "__eq__" "Shares.__eq__" (defArgs s_Shares__eq_) (defBody s_Shares__eq_) (defScope s_Shares__eq_) .none kV40 dc40 pm40 an40 cd40 ct40), sl40⟩)
    (c40 : PySem.W.codeIn K cd40 "Shares.__eq__" = true)
    (k40 : PySem.W.keepIn K (.ref f_Shares__eq_) = true)
    (na_Shares__eq_ : PySem.W.findIn K (.ref c_Shares) "__ne__" = some (some (.builtin "object.__ne__")))
    (nf_Shares__eq_ : PySem.W.notFirst K c_Shares (.ref c_Shares) = true)
    (nt_Shares__eq_ : PySem.W.notFirst K c_Shares (.type "tuple") = true)
    (ma_Shares__add_ : PySem.W.findIn K (.ref c_Shares) "__add__" = some (some (.ref f_Shares__add_)))
    (mb_Shares__add_ : PySem.W.isFn K (.ref f_Shares__add_) = true)
    (l41 : K.lookup f_Shares__add_ = some ⟨oc41, od41, .func (PySem.W.fnOf "__add__" "Shares.__add__" (defArgs s_Shares__add_) (defBody s_Shares__add_) (defScope s_Shares__add_) .none kV41 dc41 pm41 an41 cd41 ct41), sl41⟩)
    (c41 : PySem.W.codeIn K cd41 "Shares.__add__" = true)
    (k41 : PySem.W.keepIn K (.ref f_Shares__add_) = true)
    (ma_Shares__sub_ : PySem.W.findIn K (.ref c_Shares) "__sub__" = some (some (.ref f_Shares__sub_)))
    (mb_Shares__sub_ : PySem.W.isFn K (.ref f_Shares__sub_) = true)
    (l42 : K.lookup f_Shares__sub_ = some ⟨oc42, od42, .func (PySem.W.fnOf "__sub__" "Shares.__sub__" (defArgs s_Shares__sub_) (defBody s_Shares__sub_) (defScope s_Shares__sub_) .none kV42 dc42 pm42 an42 cd42 ct42), sl42⟩)
    (c42 : PySem.W.codeIn K cd42 "Shares.__sub__" = true)
    (k42 : PySem.W.keepIn K (.ref f_Shares__sub_) = true)
    (ma_Shares__mul_ : PySem.W.findIn K (.ref c_Shares) "__mul__" = some (some (.ref f_Shares__mul_)))
    (mb_Shares__mul_ : PySem.W.isFn K (.ref f_Shares__mul_) = true)
    (l43 : K.lookup f_Shares__mul_ = some ⟨oc43, od43, .func (PySem.W.fnOf "__mul__" "Shares.__mul__" (defArgs s_Shares__mul_) (defBody s_Shares__mul_) (defScope s_Shares__mul_) .none kV43 dc43 pm43 an43 cd43 ct43), sl43⟩)
    (c43 : PySem.W.codeIn K cd43 "Shares.__mul__" = true)
    (k43 : PySem.W.keepIn K (.ref f_Shares__mul_) = true)
    (oa_Shares__mul_ : PySem.W.findIn K (.ref c_Shares) "__rmul__" = some none)
    (ob_Shares__mul_ : PySem.W.findIn K (.type "int") "__mul__" = some fo_Shares__mul_)
    (oc_Shares__mul_ : PySem.W.findIn K (.type "int") "__rmul__" = some ro_Shares__mul_)
    (od_Shares__mul_ : PySem.W.subIn K (.type "int") (.ref c_Shares) = some false)
    (ma_Shares__neg_ : PySem.W.findIn K (.ref c_Shares) "__neg__" = some (some (.ref f_Shares__neg_)))
    (mb_Shares__neg_ : PySem.W.isFn K (.ref f_Shares__neg_) = true)
    (l44 : K.lookup f_Shares__neg_ = some ⟨oc44, od44, .func (PySem.W.fnOf "__neg__" "Shares.__neg__" (defArgs s_Shares__neg_) (defBody s_Shares__neg_) (defScope s_Shares__neg_) .none kV44 dc44 pm44 an44 cd44 ct44), sl44⟩)
    (c44 : PySem.W.codeIn K cd44 "Shares.__neg__" = true)
    (k44 : PySem.W.keepIn K (.ref f_Shares__neg_) = true)
    (ma_Shares__abs_ : PySem.W.findIn K (.ref c_Shares) "__abs__" = some (some (.ref f_Shares__abs_)))
    (mb_Shares__abs_ : PySem.W.isFn K (.ref f_Shares__abs_) = true)
    (l45 : K.lookup f_Shares__abs_ = some ⟨oc45, od45, .func (PySem.W.fnOf "__abs__" "Shares.__abs__" (defArgs s_Shares__abs_) (defBody s_Shares__abs_) (defScope s_Shares__abs_) .none kV45 dc45 pm45 an45 cd45 ct45), sl45⟩)
    (c45 : PySem.W.codeIn K cd45 "Shares.__abs__" = true)
    (k45 : PySem.W.keepIn K (.ref f_Shares__abs_) = true)
    (g_Bill : PySem.W.nsIn K mainGlobals "Bill" = some (some (.ref c_Bill)))
    (pg_Bill : PySem.W.plainGet K c_Bill Str.empty = true)
    (hd_Bill : PySem.W.hasDictIn K c_Bill = true)
    (po_Bill : PySem.W.plainOver K c_Bill = true)
    (sa_Bill : PySem.W.findIn K (.ref c_Bill) "__setattr__" = some (some (.builtin "object.__setattr__")))
    (ia_Bill : PySem.W.findIn K (.ref c_Bill) "__class__" = some (some (.builtin "object.__class__")))
    (ib_Bill : PySem.W.specialIn K (.builtin "object.__class__") "__get__" = some (some (.builtin "getset_descriptor.__get__")))
    (ic_Bill : PySem.W.takesIn K (.builtin "object.__class__") = some true)
    (id_Bill : PySem.W.mroIn K c_Bill (.type "object") = some true)
    (ob_Bill : PySem.W.subIn K (.ref c_Bill) (.type "object") = some true)
    (sf_Bill : PySem.W.selfFirst K c_Bill = true)
    (tyc_Bill : PySem.W.typeIn K (.ref c_Bill) = some (.type "type"))
    (kit_Bill_tuple : PySem.W.subIn K (.type "tuple") (.ref c_Bill) = some false)
    (kit_Bill_list : PySem.W.subIn K (.type "list") (.ref c_Bill) = some false)
    (kit_Bill_int : PySem.W.subIn K (.type "int") (.ref c_Bill) = some false)
    (na_Bill_amount : PySem.W.findIn K (.ref c_Bill) "_amount" = some none)
    (na_Bill_seats : PySem.W.findIn K (.ref c_Bill) "_seats" = some none)
    (cra_Bill : PySem.W.readsIn K c_Bill (.type "type") = true)
    (crb_Bill : PySem.W.specialIn K (.ref c_Bill) "__getattribute__" = some (some (.builtin "type.__getattribute__")))
    (cva_Bill_MAX_SEATS : PySem.W.findCls K (.ref c_Bill) (.type "type") "MAX_SEATS" = some (.val (.int 8 tk_Bill_MAX_SEATS)))
    (ma_Bill__init_ : PySem.W.findIn K (.ref c_Bill) "__init__" = some (some (.ref f_Bill__init_)))
    (mb_Bill__init_ : PySem.W.isFn K (.ref f_Bill__init_) = true)
    (l46 : K.lookup f_Bill__init_ = some ⟨oc46, od46, .func (PySem.W.fnOf "__init__" "Bill.__init__" (defArgs s_Bill__init_) (defBody s_Bill__init_) (defScope s_Bill__init_) .none kV46 dc46 pm46 an46 cd46 ct46), sl46⟩)
    (c46 : PySem.W.codeIn K cd46 "Bill.__init__" = true)
    (k46 : PySem.W.keepIn K (.ref f_Bill__init_) = true)
    (mk_Bill : PySem.W.makesIn K c_Bill = true)
    (kc_Bill : PySem.W.keepIn K (.ref c_Bill) = true)
    (pa_Bill_amount : PySem.W.findIn K (.ref c_Bill) "amount" = some (some (.ref p_Bill_amount)))
    (pb_Bill_amount : PySem.W.specialIn K (.ref p_Bill_amount) "__get__" = some (some (.builtin "property.__get__")))
    (pc_Bill_amount : PySem.W.takesIn K (.ref p_Bill_amount) = some true)
    (pd_Bill_amount : PySem.W.recIn K p_Bill_amount "property" = some (.ref f_Bill_amount :: rs_Bill_amount))
    (l47 : K.lookup f_Bill_amount = some ⟨oc47, od47, .func (PySem.W.fnOf "amount" "Bill.amount" (defArgs s_Bill_amount) (defBody s_Bill_amount) (defScope s_Bill_amount) .none kV47 dc47 pm47 an47 cd47 ct47), sl47⟩)
    (c47 : PySem.W.codeIn K cd47 "Bill.amount" = true)
    (k47 : PySem.W.keepIn K (.ref f_Bill_amount) = true)
    (pa_Bill_seats : PySem.W.findIn K (.ref c_Bill) "seats" = some (some (.ref p_Bill_seats)))
    (pb_Bill_seats : PySem.W.specialIn K (.ref p_Bill_seats) "__get__" = some (some (.builtin "property.__get__")))
    (pc_Bill_seats : PySem.W.takesIn K (.ref p_Bill_seats) = some true)
    (pd_Bill_seats : PySem.W.recIn K p_Bill_seats "property" = some (.ref f_Bill_seats :: rs_Bill_seats))
    (l48 : K.lookup f_Bill_seats = some ⟨oc48, od48, .func (PySem.W.fnOf "seats" "Bill.seats" (defArgs s_Bill_seats) (defBody s_Bill_seats) (defScope s_Bill_seats) .none kV48 dc48 pm48 an48 cd48 ct48), sl48⟩)
    (c48 : PySem.W.codeIn K cd48 "Bill.seats" = true)
    (k48 : PySem.W.keepIn K (.ref f_Bill_seats) = true)
    (pa_Bill_odd_cents : PySem.W.findIn K (.ref c_Bill) "odd_cents" = some (some (.ref p_Bill_odd_cents)))
    (pb_Bill_odd_cents : PySem.W.specialIn K (.ref p_Bill_odd_cents) "__get__" = some (some (.builtin "property.__get__")))
    (pc_Bill_odd_cents : PySem.W.takesIn K (.ref p_Bill_odd_cents) = some true)
    (pd_Bill_odd_cents : PySem.W.recIn K p_Bill_odd_cents "property" = some (.ref f_Bill_odd_cents :: rs_Bill_odd_cents))
    (l49 : K.lookup f_Bill_odd_cents = some ⟨oc49, od49, .func (PySem.W.fnOf "odd_cents" "Bill.odd_cents" (defArgs s_Bill_odd_cents) (defBody s_Bill_odd_cents) (defScope s_Bill_odd_cents) .none kV49 dc49 pm49 an49 cd49 ct49), sl49⟩)
    (c49 : PySem.W.codeIn K cd49 "Bill.odd_cents" = true)
    (k49 : PySem.W.keepIn K (.ref f_Bill_odd_cents) = true)
    (ma_Bill__contains_ : PySem.W.findIn K (.ref c_Bill) "__contains__" = some (some (.ref f_Bill__contains_)))
    (mb_Bill__contains_ : PySem.W.isFn K (.ref f_Bill__contains_) = true)
    (l50 : K.lookup f_Bill__contains_ = some ⟨oc50, od50, .func (PySem.W.fnOf "__contains__" "Bill.__contains__" (defArgs s_Bill__contains_) (defBody s_Bill__contains_) (defScope s_Bill__contains_) .none kV50 dc50 pm50 an50 cd50 ct50), sl50⟩)
    (c50 : PySem.W.codeIn K cd50 "Bill.__contains__" = true)
    (k50 : PySem.W.keepIn K (.ref f_Bill__contains_) = true)
    (g_Evening : PySem.W.nsIn K mainGlobals "Evening" = some (some (.ref c_Evening)))
    (pg_Evening : PySem.W.plainGet K c_Evening Str.empty = true)
    (hd_Evening : PySem.W.hasDictIn K c_Evening = true)
    (po_Evening : PySem.W.plainOver K c_Evening = true)
    (sa_Evening : PySem.W.findIn K (.ref c_Evening) "__setattr__" = some (some (.builtin "object.__setattr__")))
    (ia_Evening : PySem.W.findIn K (.ref c_Evening) "__class__" = some (some (.builtin "object.__class__")))
    (ib_Evening : PySem.W.specialIn K (.builtin "object.__class__") "__get__" = some (some (.builtin "getset_descriptor.__get__")))
    (ic_Evening : PySem.W.takesIn K (.builtin "object.__class__") = some true)
    (id_Evening : PySem.W.mroIn K c_Evening (.type "object") = some true)
    (ob_Evening : PySem.W.subIn K (.ref c_Evening) (.type "object") = some true)
    (sf_Evening : PySem.W.selfFirst K c_Evening = true)
    (tyc_Evening : PySem.W.typeIn K (.ref c_Evening) = some (.type "type"))
    (kit_Evening_tuple : PySem.W.subIn K (.type "tuple") (.ref c_Evening) = some false)
    (kit_Evening_list : PySem.W.subIn K (.type "list") (.ref c_Evening) = some false)
    (kit_Evening_int : PySem.W.subIn K (.type "int") (.ref c_Evening) = some false)
    (na_Evening_seat_count : PySem.W.findIn K (.ref c_Evening) "_seat_count" = some none)
    (na_Evening_bills : PySem.W.findIn K (.ref c_Evening) "_bills" = some none)
    (cra_Evening : PySem.W.readsIn K c_Evening (.type "type") = true)
    (crb_Evening : PySem.W.specialIn K (.ref c_Evening) "__getattribute__" = some (some (.builtin "type.__getattribute__")))
    (cva_Evening_MAX_BILLS : PySem.W.findCls K (.ref c_Evening) (.type "type") "MAX_BILLS" = some (.val (.int 30 tk_Evening_MAX_BILLS)))
    (ma_Evening__init_ : PySem.W.findIn K (.ref c_Evening) "__init__" = some (some (.ref f_Evening__init_)))
    (mb_Evening__init_ : PySem.W.isFn K (.ref f_Evening__init_) = true)
    (l51 : K.lookup f_Evening__init_ = some ⟨oc51, od51, .func (PySem.W.fnOf "__init__" "Evening.__init__" (defArgs s_Evening__init_) (defBody s_Evening__init_) (defScope s_Evening__init_) .none kV51 dc51 pm51 an51 cd51 ct51), sl51⟩)
    (c51 : PySem.W.codeIn K cd51 "Evening.__init__" = true)
    (k51 : PySem.W.keepIn K (.ref f_Evening__init_) = true)
    (mk_Evening : PySem.W.makesIn K c_Evening = true)
    (kc_Evening : PySem.W.keepIn K (.ref c_Evening) = true)
    (cma_Evening_together : PySem.W.findCls K (.ref c_Evening) (.type "type") "together" = some (.get (.builtin "classmethod.__get__") (.ref p_Evening_together) .none (.ref c_Evening)))
    (cmb_Evening_together : PySem.W.recIn K p_Evening_together "classmethod" = some (.ref f_Evening_together :: rs_Evening_together))
    (cmc_Evening_together : PySem.W.fnIn K f_Evening_together = true)
    (l52 : K.lookup f_Evening_together = some ⟨oc52, od52, .func (PySem.W.fnOf "together" "Evening.together" (defArgs s_Evening_together) (defBody s_Evening_together) (defScope s_Evening_together) .none kV52 dc52 pm52 an52 cd52 ct52), sl52⟩)
    (c52 : PySem.W.codeIn K cd52 "Evening.together" = true)
    (k52 : PySem.W.keepIn K (.ref f_Evening_together) = true)
    (pa_Evening_seat_count : PySem.W.findIn K (.ref c_Evening) "seat_count" = some (some (.ref p_Evening_seat_count)))
    (pb_Evening_seat_count : PySem.W.specialIn K (.ref p_Evening_seat_count) "__get__" = some (some (.builtin "property.__get__")))
    (pc_Evening_seat_count : PySem.W.takesIn K (.ref p_Evening_seat_count) = some true)
    (pd_Evening_seat_count : PySem.W.recIn K p_Evening_seat_count "property" = some (.ref f_Evening_seat_count :: rs_Evening_seat_count))
    (l53 : K.lookup f_Evening_seat_count = some ⟨oc53, od53, .func (PySem.W.fnOf "seat_count" "Evening.seat_count" (defArgs s_Evening_seat_count) (defBody s_Evening_seat_count) (defScope s_Evening_seat_count) .none kV53 dc53 pm53 an53 cd53 ct53), sl53⟩)
    (c53 : PySem.W.codeIn K cd53 "Evening.seat_count" = true)
    (k53 : PySem.W.keepIn K (.ref f_Evening_seat_count) = true)
    (pa_Evening_bills : PySem.W.findIn K (.ref c_Evening) "bills" = some (some (.ref p_Evening_bills)))
    (pb_Evening_bills : PySem.W.specialIn K (.ref p_Evening_bills) "__get__" = some (some (.builtin "property.__get__")))
    (pc_Evening_bills : PySem.W.takesIn K (.ref p_Evening_bills) = some true)
    (pd_Evening_bills : PySem.W.recIn K p_Evening_bills "property" = some (.ref f_Evening_bills :: rs_Evening_bills))
    (l54 : K.lookup f_Evening_bills = some ⟨oc54, od54, .func (PySem.W.fnOf "bills" "Evening.bills" (defArgs s_Evening_bills) (defBody s_Evening_bills) (defScope s_Evening_bills) .none kV54 dc54 pm54 an54 cd54 ct54), sl54⟩)
    (c54 : PySem.W.codeIn K cd54 "Evening.bills" = true)
    (k54 : PySem.W.keepIn K (.ref f_Evening_bills) = true)
    (ma_Evening__call_ : PySem.W.findIn K (.ref c_Evening) "__call__" = some (some (.ref f_Evening__call_)))
    (mb_Evening__call_ : PySem.W.isFn K (.ref f_Evening__call_) = true)
    (l55 : K.lookup f_Evening__call_ = some ⟨oc55, od55, .func (PySem.W.fnOf "__call__" "Evening.__call__" (defArgs s_Evening__call_) (defBody s_Evening__call_) (defScope s_Evening__call_) .none kV55 dc55 pm55 an55 cd55 ct55), sl55⟩)
    (c55 : PySem.W.codeIn K cd55 "Evening.__call__" = true)
    (k55 : PySem.W.keepIn K (.ref f_Evening__call_) = true)
    (coc_Evening__call_ : PySem.W.fnIn K f_Evening__call_ = true)
    (ma_Evening__getitem_ : PySem.W.findIn K (.ref c_Evening) "__getitem__" = some (some (.ref f_Evening__getitem_)))
    (mb_Evening__getitem_ : PySem.W.isFn K (.ref f_Evening__getitem_) = true)
    (l56 : K.lookup f_Evening__getitem_ = some ⟨oc56, od56, .func (PySem.W.fnOf "__getitem__" "Evening.__getitem__" (defArgs s_Evening__getitem_) (defBody s_Evening__getitem_) (defScope s_Evening__getitem_) .none kV56 dc56 pm56 an56 cd56 ct56), sl56⟩)
    (c56 : PySem.W.codeIn K cd56 "Evening.__getitem__" = true)
    (k56 : PySem.W.keepIn K (.ref f_Evening__getitem_) = true)
    (ma_Evening__iter_ : PySem.W.findIn K (.ref c_Evening) "__iter__" = some (some (.ref f_Evening__iter_)))
    (mb_Evening__iter_ : PySem.W.isFn K (.ref f_Evening__iter_) = true)
    (l57 : K.lookup f_Evening__iter_ = some ⟨oc57, od57, .func (PySem.W.fnOf "__iter__" "Evening.__iter__" (defArgs s_Evening__iter_) (defBody s_Evening__iter_) (defScope s_Evening__iter_) .none kV57 dc57 pm57 an57 cd57 ct57), sl57⟩)
    (c57 : PySem.W.codeIn K cd57 "Evening.__iter__" = true)
    (k57 : PySem.W.keepIn K (.ref f_Evening__iter_) = true)
    (ma_Evening__len_ : PySem.W.findIn K (.ref c_Evening) "__len__" = some (some (.ref f_Evening__len_)))
    (mb_Evening__len_ : PySem.W.isFn K (.ref f_Evening__len_) = true)
    (l58 : K.lookup f_Evening__len_ = some ⟨oc58, od58, .func (PySem.W.fnOf "__len__" "Evening.__len__" (defArgs s_Evening__len_) (defBody s_Evening__len_) (defScope s_Evening__len_) .none kV58 dc58 pm58 an58 cd58 ct58), sl58⟩)
    (c58 : PySem.W.codeIn K cd58 "Evening.__len__" = true)
    (k58 : PySem.W.keepIn K (.ref f_Evening__len_) = true)
    (ma_Evening__bool_ : PySem.W.findIn K (.ref c_Evening) "__bool__" = some (some (.ref f_Evening__bool_)))
    (mb_Evening__bool_ : PySem.W.isFn K (.ref f_Evening__bool_) = true)
    (l59 : K.lookup f_Evening__bool_ = some ⟨oc59, od59, .func (PySem.W.fnOf "__bool__" "Evening.__bool__" (defArgs s_Evening__bool_) (defBody s_Evening__bool_) (defScope s_Evening__bool_) .none kV59 dc59 pm59 an59 cd59 ct59), sl59⟩)
    (c59 : PySem.W.codeIn K cd59 "Evening.__bool__" = true)
    (k59 : PySem.W.keepIn K (.ref f_Evening__bool_) = true)
    (ma_Evening__add_ : PySem.W.findIn K (.ref c_Evening) "__add__" = some (some (.ref f_Evening__add_)))
    (mb_Evening__add_ : PySem.W.isFn K (.ref f_Evening__add_) = true)
    (l60 : K.lookup f_Evening__add_ = some ⟨oc60, od60, .func (PySem.W.fnOf "__add__" "Evening.__add__" (defArgs s_Evening__add_) (defBody s_Evening__add_) (defScope s_Evening__add_) .none kV60 dc60 pm60 an60 cd60 ct60), sl60⟩)
    (c60 : PySem.W.codeIn K cd60 "Evening.__add__" = true)
    (k60 : PySem.W.keepIn K (.ref f_Evening__add_) = true)
    (ma_Evening__mul_ : PySem.W.findIn K (.ref c_Evening) "__mul__" = some (some (.ref f_Evening__mul_)))
    (mb_Evening__mul_ : PySem.W.isFn K (.ref f_Evening__mul_) = true)
    (l61 : K.lookup f_Evening__mul_ = some ⟨oc61, od61, .func (PySem.W.fnOf "__mul__" "Evening.__mul__" (defArgs s_Evening__mul_) (defBody s_Evening__mul_) (defScope s_Evening__mul_) .none kV61 dc61 pm61 an61 cd61 ct61), sl61⟩)
    (c61 : PySem.W.codeIn K cd61 "Evening.__mul__" = true)
    (k61 : PySem.W.keepIn K (.ref f_Evening__mul_) = true)
    (oa_Evening__mul_ : PySem.W.findIn K (.ref c_Evening) "__rmul__" = some none)
    (ob_Evening__mul_ : PySem.W.findIn K (.type "int") "__mul__" = some fo_Evening__mul_)
    (oc_Evening__mul_ : PySem.W.findIn K (.type "int") "__rmul__" = some ro_Evening__mul_)
    (od_Evening__mul_ : PySem.W.subIn K (.type "int") (.ref c_Evening) = some false)
    (g_MarkObserver : PySem.W.nsIn K mainGlobals "MarkObserver" = some (some (.ref c_MarkObserver)))
    (pg_MarkObserver : PySem.W.plainGet K c_MarkObserver Str.empty = true)
    (hd_MarkObserver : PySem.W.hasDictIn K c_MarkObserver = true)
    (po_MarkObserver : PySem.W.plainOver K c_MarkObserver = true)
    (sa_MarkObserver : PySem.W.findIn K (.ref c_MarkObserver) "__setattr__" = some (some (.builtin "object.__setattr__")))
    (ia_MarkObserver : PySem.W.findIn K (.ref c_MarkObserver) "__class__" = some (some (.builtin "object.__class__")))
    (ib_MarkObserver : PySem.W.specialIn K (.builtin "object.__class__") "__get__" = some (some (.builtin "getset_descriptor.__get__")))
    (ic_MarkObserver : PySem.W.takesIn K (.builtin "object.__class__") = some true)
    (id_MarkObserver : PySem.W.mroIn K c_MarkObserver (.type "object") = some true)
    (ob_MarkObserver : PySem.W.subIn K (.ref c_MarkObserver) (.type "object") = some true)
    (sf_MarkObserver : PySem.W.selfFirst K c_MarkObserver = true)
    (tyc_MarkObserver : PySem.W.typeIn K (.ref c_MarkObserver) = some (.type "type"))
    (kit_MarkObserver_tuple : PySem.W.subIn K (.type "tuple") (.ref c_MarkObserver) = some false)
    (kit_MarkObserver_list : PySem.W.subIn K (.type "list") (.ref c_MarkObserver) = some false)
    (kit_MarkObserver_int : PySem.W.subIn K (.type "int") (.ref c_MarkObserver) = some false)
    (na_MarkObserver_evening : PySem.W.findIn K (.ref c_MarkObserver) "_evening" = some none)
    (na_MarkObserver_possible : PySem.W.findIn K (.ref c_MarkObserver) "_possible" = some none)
    (na_MarkObserver_accepted : PySem.W.findIn K (.ref c_MarkObserver) "_accepted" = some none)
    (ma_MarkObserver__init_ : PySem.W.findIn K (.ref c_MarkObserver) "__init__" = some (some (.ref f_MarkObserver__init_)))
    (mb_MarkObserver__init_ : PySem.W.isFn K (.ref f_MarkObserver__init_) = true)
    (l62 : K.lookup f_MarkObserver__init_ = some ⟨oc62, od62, .func (PySem.W.fnOf "__init__" "MarkObserver.__init__" (defArgs s_MarkObserver__init_) (defBody s_MarkObserver__init_) (defScope s_MarkObserver__init_) .none kV62 dc62 pm62 an62 cd62 ct62), sl62⟩)
    (c62 : PySem.W.codeIn K cd62 "MarkObserver.__init__" = true)
    (k62 : PySem.W.keepIn K (.ref f_MarkObserver__init_) = true)
    (mk_MarkObserver : PySem.W.makesIn K c_MarkObserver = true)
    (kc_MarkObserver : PySem.W.keepIn K (.ref c_MarkObserver) = true)
    (pa_MarkObserver_possible_marks : PySem.W.findIn K (.ref c_MarkObserver) "possible_marks" = some (some (.ref p_MarkObserver_possible_marks)))
    (pb_MarkObserver_possible_marks : PySem.W.specialIn K (.ref p_MarkObserver_possible_marks) "__get__" = some (some (.builtin "property.__get__")))
    (pc_MarkObserver_possible_marks : PySem.W.takesIn K (.ref p_MarkObserver_possible_marks) = some true)
    (pd_MarkObserver_possible_marks : PySem.W.recIn K p_MarkObserver_possible_marks "property" = some (.ref f_MarkObserver_possible_marks :: rs_MarkObserver_possible_marks))
    (l63 : K.lookup f_MarkObserver_possible_marks = some ⟨oc63, od63, .func (PySem.W.fnOf "possible_marks" "MarkObserver.possible_marks" (defArgs s_MarkObserver_possible_marks) (defBody s_MarkObserver_possible_marks) (defScope s_MarkObserver_possible_marks) .none kV63 dc63 pm63 an63 cd63 ct63), sl63⟩)
    (c63 : PySem.W.codeIn K cd63 "MarkObserver.possible_marks" = true)
    (k63 : PySem.W.keepIn K (.ref f_MarkObserver_possible_marks) = true)
    (pa_MarkObserver_records : PySem.W.findIn K (.ref c_MarkObserver) "records" = some (some (.ref p_MarkObserver_records)))
    (pb_MarkObserver_records : PySem.W.specialIn K (.ref p_MarkObserver_records) "__get__" = some (some (.builtin "property.__get__")))
    (pc_MarkObserver_records : PySem.W.takesIn K (.ref p_MarkObserver_records) = some true)
    (pd_MarkObserver_records : PySem.W.recIn K p_MarkObserver_records "property" = some (.ref f_MarkObserver_records :: rs_MarkObserver_records))
    (l64 : K.lookup f_MarkObserver_records = some ⟨oc64, od64, .func (PySem.W.fnOf "records" "MarkObserver.records" (defArgs s_MarkObserver_records) (defBody s_MarkObserver_records) (defScope s_MarkObserver_records) .none kV64 dc64 pm64 an64 cd64 ct64), sl64⟩)
    (c64 : PySem.W.codeIn K cd64 "MarkObserver.records" = true)
    (k64 : PySem.W.keepIn K (.ref f_MarkObserver_records) = true)
    (ma_MarkObserver_see : PySem.W.findIn K (.ref c_MarkObserver) "see" = some (some (.ref f_MarkObserver_see)))
    (mb_MarkObserver_see : PySem.W.isFn K (.ref f_MarkObserver_see) = true)
    (l65 : K.lookup f_MarkObserver_see = some ⟨oc65, od65, .func (PySem.W.fnOf "see" "MarkObserver.see" (defArgs s_MarkObserver_see) (defBody s_MarkObserver_see) (defScope s_MarkObserver_see) .none kV65 dc65 pm65 an65 cd65 ct65), sl65⟩)
    (c65 : PySem.W.codeIn K cd65 "MarkObserver.see" = true)
    (k65 : PySem.W.keepIn K (.ref f_MarkObserver_see) = true) :
    Facts K mg ⟨f__wall, f_is_between, f_check_seat, f_check_amount, f_check_seats, f_check_seat_count, f_check_bills, f_check_mark, f_check_times, f_no_shares, f_seats_behind, f_split_bill, f_twice, f_repeated, f_lowest_terms, f_long_run, f_marks_after, f_known_after, f_evening_of_few, f_reset, f_telling, f_share_for_bill, f_paid_from_each_mark, f_widest_gap, f_best_mark, f_longer_ways, f_spread_of, f_fairest_order, f__law_start, f__law_drawn, f__law_all_there, f__law_two_and_all, f_law, c_CentError, c_InvalidBill, c_InvalidEvening, c_InvalidMark, c_UnknownSeat, c_OtherTable, c_InvalidNumber, c_TooManyBills, c_Contradiction, c_Shares, f_Shares__init_, f_Shares_cents, p_Shares_cents, f_Shares_whole, p_Shares_whole, f_Shares__getitem_, f_Shares__iter_, f_Shares__len_, f_Shares__eq_, f_Shares__add_, f_Shares__sub_, f_Shares__mul_, f_Shares__neg_, f_Shares__abs_, c_Bill, f_Bill__init_, f_Bill_amount, p_Bill_amount, f_Bill_seats, p_Bill_seats, f_Bill_odd_cents, p_Bill_odd_cents, f_Bill__contains_, c_Evening, f_Evening__init_, f_Evening_together, p_Evening_together, f_Evening_seat_count, p_Evening_seat_count, f_Evening_bills, p_Evening_bills, f_Evening__call_, f_Evening__getitem_, f_Evening__iter_, f_Evening__len_, f_Evening__bool_, f_Evening__add_, f_Evening__mul_, c_MarkObserver, f_MarkObserver__init_, f_MarkObserver_possible_marks, p_MarkObserver_possible_marks, f_MarkObserver_records, p_MarkObserver_records, f_MarkObserver_see⟩ where
  z_TypeError := PySem.W.mg_none_of X G z_TypeError
  z_abs := PySem.W.mg_none_of X G z_abs
  z_bool := PySem.W.mg_none_of X G z_bool
  z_classmethod := PySem.W.mg_none_of X G z_classmethod
  z_divmod := PySem.W.mg_none_of X G z_divmod
  z_enumerate := PySem.W.mg_none_of X G z_enumerate
  z_int := PySem.W.mg_none_of X G z_int
  z_isinstance := PySem.W.mg_none_of X G z_isinstance
  z_len := PySem.W.mg_none_of X G z_len
  z_list := PySem.W.mg_none_of X G z_list
  z_max := PySem.W.mg_none_of X G z_max
  z_min := PySem.W.mg_none_of X G z_min
  z_property := PySem.W.mg_none_of X G z_property
  z_range := PySem.W.mg_none_of X G z_range
  z_sorted := PySem.W.mg_none_of X G z_sorted
  z_sum := PySem.W.mg_none_of X G z_sum
  z_super := PySem.W.mg_none_of X G z_super
  z_tuple := PySem.W.mg_none_of X G z_tuple
  z_zip := PySem.W.mg_none_of X G z_zip
  b_gcd := PySem.W.mg_of X G b_gcd
  i_MAX_AMOUNT := ⟨_, PySem.W.mg_of X G g_MAX_AMOUNT⟩
  i_MIN_SEAT_COUNT := ⟨_, PySem.W.mg_of X G g_MIN_SEAT_COUNT⟩
  i_MAX_TIMES := ⟨_, PySem.W.mg_of X G g_MAX_TIMES⟩
  i_MAX_LISTED_BILLS := ⟨_, PySem.W.mg_of X G g_MAX_LISTED_BILLS⟩
  i_MAX_BILL_NUMBER := ⟨_, PySem.W.mg_of X G g_MAX_BILL_NUMBER⟩
  i_MAX_ORDERED_BILLS := ⟨_, PySem.W.mg_of X G g_MAX_ORDERED_BILLS⟩
  u__wall := ⟨_, fun_mk (st := s__wall) l1 c1 k1⟩
  g__wall := PySem.W.mg_of X G g__wall
  u_is_between := ⟨_, fun_mk (st := s_is_between) l2 c2 k2⟩
  g_is_between := PySem.W.mg_of X G g_is_between
  u_check_seat := ⟨_, fun_mk (st := s_check_seat) l3 c3 k3⟩
  g_check_seat := PySem.W.mg_of X G g_check_seat
  u_check_amount := ⟨_, fun_mk (st := s_check_amount) l4 c4 k4⟩
  g_check_amount := PySem.W.mg_of X G g_check_amount
  u_check_seats := ⟨_, fun_mk (st := s_check_seats) l5 c5 k5⟩
  g_check_seats := PySem.W.mg_of X G g_check_seats
  u_check_seat_count := ⟨_, fun_mk (st := s_check_seat_count) l6 c6 k6⟩
  g_check_seat_count := PySem.W.mg_of X G g_check_seat_count
  u_check_bills := ⟨_, fun_mk (st := s_check_bills) l7 c7 k7⟩
  g_check_bills := PySem.W.mg_of X G g_check_bills
  u_check_mark := ⟨_, fun_mk (st := s_check_mark) l8 c8 k8⟩
  g_check_mark := PySem.W.mg_of X G g_check_mark
  u_check_times := ⟨_, fun_mk (st := s_check_times) l9 c9 k9⟩
  g_check_times := PySem.W.mg_of X G g_check_times
  u_no_shares := ⟨_, fun_mk (st := s_no_shares) l10 c10 k10⟩
  g_no_shares := PySem.W.mg_of X G g_no_shares
  u_seats_behind := ⟨_, fun_mk (st := s_seats_behind) l11 c11 k11⟩
  g_seats_behind := PySem.W.mg_of X G g_seats_behind
  u_split_bill := ⟨_, fun_mk (st := s_split_bill) l12 c12 k12⟩
  g_split_bill := PySem.W.mg_of X G g_split_bill
  u_twice := ⟨_, fun_mk (st := s_twice) l13 c13 k13⟩
  g_twice := PySem.W.mg_of X G g_twice
  u_repeated := ⟨_, fun_mk (st := s_repeated) l14 c14 k14⟩
  g_repeated := PySem.W.mg_of X G g_repeated
  u_lowest_terms := ⟨_, fun_mk (st := s_lowest_terms) l15 c15 k15⟩
  g_lowest_terms := PySem.W.mg_of X G g_lowest_terms
  u_long_run := ⟨_, fun_mk (st := s_long_run) l16 c16 k16⟩
  g_long_run := PySem.W.mg_of X G g_long_run
  u_marks_after := ⟨_, fun_mk (st := s_marks_after) l17 c17 k17⟩
  g_marks_after := PySem.W.mg_of X G g_marks_after
  u_known_after := ⟨_, fun_mk (st := s_known_after) l18 c18 k18⟩
  g_known_after := PySem.W.mg_of X G g_known_after
  u_evening_of_few := ⟨_, fun_mk (st := s_evening_of_few) l19 c19 k19⟩
  g_evening_of_few := PySem.W.mg_of X G g_evening_of_few
  u_reset := ⟨_, fun_mk (st := s_reset) l20 c20 k20⟩
  g_reset := PySem.W.mg_of X G g_reset
  u_telling := ⟨_, fun_mk (st := s_telling) l21 c21 k21⟩
  g_telling := PySem.W.mg_of X G g_telling
  u_share_for_bill := ⟨_, fun_mk (st := s_share_for_bill) l22 c22 k22⟩
  g_share_for_bill := PySem.W.mg_of X G g_share_for_bill
  u_paid_from_each_mark := ⟨_, fun_mk (st := s_paid_from_each_mark) l23 c23 k23⟩
  g_paid_from_each_mark := PySem.W.mg_of X G g_paid_from_each_mark
  u_widest_gap := ⟨_, fun_mk (st := s_widest_gap) l24 c24 k24⟩
  g_widest_gap := PySem.W.mg_of X G g_widest_gap
  u_best_mark := ⟨_, fun_mk (st := s_best_mark) l25 c25 k25⟩
  g_best_mark := PySem.W.mg_of X G g_best_mark
  u_longer_ways := ⟨_, fun_mk (st := s_longer_ways) l26 c26 k26⟩
  g_longer_ways := PySem.W.mg_of X G g_longer_ways
  u_spread_of := ⟨_, fun_mk (st := s_spread_of) l27 c27 k27⟩
  g_spread_of := PySem.W.mg_of X G g_spread_of
  u_fairest_order := ⟨_, fun_mk (st := s_fairest_order) l28 c28 k28⟩
  g_fairest_order := PySem.W.mg_of X G g_fairest_order
  u__law_start := ⟨_, fun_mk (st := s__law_start) l29 c29 k29⟩
  g__law_start := PySem.W.mg_of X G g__law_start
  u__law_drawn := ⟨_, fun_mk (st := s__law_drawn) l30 c30 k30⟩
  g__law_drawn := PySem.W.mg_of X G g__law_drawn
  u__law_all_there := ⟨_, fun_mk (st := s__law_all_there) l31 c31 k31⟩
  g__law_all_there := PySem.W.mg_of X G g__law_all_there
  u__law_two_and_all := ⟨_, fun_mk (st := s__law_two_and_all) l32 c32 k32⟩
  g__law_two_and_all := PySem.W.mg_of X G g__law_two_and_all
  u_law := ⟨_, fun_mk (st := s_law) l33 c33 k33⟩
  g_law := PySem.W.mg_of X G g_law
  x_CentError := ⟨PySem.W.mg_of X G g_CentError, x_CentError, xk_CentError, xs_CentError, xt_CentError⟩
  x_InvalidMark := ⟨PySem.W.mg_of X G g_InvalidMark, x_InvalidMark, xk_InvalidMark, xs_InvalidMark, xt_InvalidMark⟩
  x_UnknownSeat := ⟨PySem.W.mg_of X G g_UnknownSeat, x_UnknownSeat, xk_UnknownSeat, xs_UnknownSeat, xt_UnknownSeat⟩
  x_OtherTable := ⟨PySem.W.mg_of X G g_OtherTable, x_OtherTable, xk_OtherTable, xs_OtherTable, xt_OtherTable⟩
  x_InvalidNumber := ⟨PySem.W.mg_of X G g_InvalidNumber, x_InvalidNumber, xk_InvalidNumber, xs_InvalidNumber, xt_InvalidNumber⟩
  x_TooManyBills := ⟨PySem.W.mg_of X G g_TooManyBills, x_TooManyBills, xk_TooManyBills, xs_TooManyBills, xt_TooManyBills⟩
  x_Contradiction := ⟨PySem.W.mg_of X G g_Contradiction, x_Contradiction, xk_Contradiction, xs_Contradiction, xt_Contradiction⟩
  g_Shares := PySem.W.mg_of X G g_Shares
  cl_Shares := ⟨pg_Shares, hd_Shares, po_Shares, sa_Shares⟩
  si_Shares := ⟨ia_Shares, ib_Shares, ic_Shares, id_Shares⟩
  ob_Shares := ob_Shares
  sf_Shares := sf_Shares
  kit_Shares_tuple := kit_own hd_Shares tyc_Shares kit_Shares_tuple
  kit_Shares_list := kit_own hd_Shares tyc_Shares kit_Shares_list
  kit_Shares_int := kit_own hd_Shares tyc_Shares kit_Shares_int
  na_Shares_cents := na_Shares_cents
  u_Shares__init_ := ⟨_, fun_mk (st := s_Shares__init_) l34 c34 k34⟩
  m_Shares__init_ := ⟨ma_Shares__init_, mb_Shares__init_, k34⟩
  mk_Shares := ⟨mk_Shares, ma_Shares__init_, mb_Shares__init_, kc_Shares⟩
  u_Shares_cents := ⟨_, fun_mk (st := s_Shares_cents) l35 c35 k35⟩
  pr_Shares_cents := ⟨pa_Shares_cents, pb_Shares_cents, pc_Shares_cents, ⟨_, pd_Shares_cents⟩⟩
  u_Shares_whole := ⟨_, fun_mk (st := s_Shares_whole) l36 c36 k36⟩
  pr_Shares_whole := ⟨pa_Shares_whole, pb_Shares_whole, pc_Shares_whole, ⟨_, pd_Shares_whole⟩⟩
  u_Shares__getitem_ := ⟨_, fun_mk (st := s_Shares__getitem_) l37 c37 k37⟩
  m_Shares__getitem_ := ⟨ma_Shares__getitem_, mb_Shares__getitem_, k37⟩
  u_Shares__iter_ := ⟨_, fun_mk (st := s_Shares__iter_) l38 c38 k38⟩
  m_Shares__iter_ := ⟨ma_Shares__iter_, mb_Shares__iter_, k38⟩
  u_Shares__len_ := ⟨_, fun_mk (st := s_Shares__len_) l39 c39 k39⟩
  m_Shares__len_ := ⟨ma_Shares__len_, mb_Shares__len_, k39⟩
  u_Shares__eq_ := ⟨_, fun_mk (st := s_Shares__eq_) l40 c40 k40⟩
  m_Shares__eq_ := ⟨ma_Shares__eq_, mb_Shares__eq_, k40⟩
  ne_Shares__eq_ := ⟨na_Shares__eq_, nf_Shares__eq_, nt_Shares__eq_⟩
  u_Shares__add_ := ⟨_, fun_mk (st := s_Shares__add_) l41 c41 k41⟩
  m_Shares__add_ := ⟨ma_Shares__add_, mb_Shares__add_, k41⟩
  u_Shares__sub_ := ⟨_, fun_mk (st := s_Shares__sub_) l42 c42 k42⟩
  m_Shares__sub_ := ⟨ma_Shares__sub_, mb_Shares__sub_, k42⟩
  u_Shares__mul_ := ⟨_, fun_mk (st := s_Shares__mul_) l43 c43 k43⟩
  m_Shares__mul_ := ⟨ma_Shares__mul_, mb_Shares__mul_, k43⟩
  oi_Shares__mul_ := ⟨oa_Shares__mul_, ⟨_, ob_Shares__mul_⟩, ⟨_, oc_Shares__mul_⟩, od_Shares__mul_⟩
  u_Shares__neg_ := ⟨_, fun_mk (st := s_Shares__neg_) l44 c44 k44⟩
  m_Shares__neg_ := ⟨ma_Shares__neg_, mb_Shares__neg_, k44⟩
  u_Shares__abs_ := ⟨_, fun_mk (st := s_Shares__abs_) l45 c45 k45⟩
  m_Shares__abs_ := ⟨ma_Shares__abs_, mb_Shares__abs_, k45⟩
  g_Bill := PySem.W.mg_of X G g_Bill
  cl_Bill := ⟨pg_Bill, hd_Bill, po_Bill, sa_Bill⟩
  si_Bill := ⟨ia_Bill, ib_Bill, ic_Bill, id_Bill⟩
  ob_Bill := ob_Bill
  sf_Bill := sf_Bill
  kit_Bill_tuple := kit_own hd_Bill tyc_Bill kit_Bill_tuple
  kit_Bill_list := kit_own hd_Bill tyc_Bill kit_Bill_list
  kit_Bill_int := kit_own hd_Bill tyc_Bill kit_Bill_int
  na_Bill_amount := na_Bill_amount
  na_Bill_seats := na_Bill_seats
  cr_Bill := ⟨cra_Bill, crb_Bill⟩
  cv_Bill_MAX_SEATS := ⟨_, cva_Bill_MAX_SEATS, ⟨_, rfl⟩⟩
  u_Bill__init_ := ⟨_, fun_mk (st := s_Bill__init_) l46 c46 k46⟩
  m_Bill__init_ := ⟨ma_Bill__init_, mb_Bill__init_, k46⟩
  mk_Bill := ⟨mk_Bill, ma_Bill__init_, mb_Bill__init_, kc_Bill⟩
  u_Bill_amount := ⟨_, fun_mk (st := s_Bill_amount) l47 c47 k47⟩
  pr_Bill_amount := ⟨pa_Bill_amount, pb_Bill_amount, pc_Bill_amount, ⟨_, pd_Bill_amount⟩⟩
  u_Bill_seats := ⟨_, fun_mk (st := s_Bill_seats) l48 c48 k48⟩
  pr_Bill_seats := ⟨pa_Bill_seats, pb_Bill_seats, pc_Bill_seats, ⟨_, pd_Bill_seats⟩⟩
  u_Bill_odd_cents := ⟨_, fun_mk (st := s_Bill_odd_cents) l49 c49 k49⟩
  pr_Bill_odd_cents := ⟨pa_Bill_odd_cents, pb_Bill_odd_cents, pc_Bill_odd_cents, ⟨_, pd_Bill_odd_cents⟩⟩
  u_Bill__contains_ := ⟨_, fun_mk (st := s_Bill__contains_) l50 c50 k50⟩
  m_Bill__contains_ := ⟨ma_Bill__contains_, mb_Bill__contains_, k50⟩
  g_Evening := PySem.W.mg_of X G g_Evening
  cl_Evening := ⟨pg_Evening, hd_Evening, po_Evening, sa_Evening⟩
  si_Evening := ⟨ia_Evening, ib_Evening, ic_Evening, id_Evening⟩
  ob_Evening := ob_Evening
  sf_Evening := sf_Evening
  kit_Evening_tuple := kit_own hd_Evening tyc_Evening kit_Evening_tuple
  kit_Evening_list := kit_own hd_Evening tyc_Evening kit_Evening_list
  kit_Evening_int := kit_own hd_Evening tyc_Evening kit_Evening_int
  na_Evening_seat_count := na_Evening_seat_count
  na_Evening_bills := na_Evening_bills
  cr_Evening := ⟨cra_Evening, crb_Evening⟩
  cv_Evening_MAX_BILLS := ⟨_, cva_Evening_MAX_BILLS, ⟨_, rfl⟩⟩
  u_Evening__init_ := ⟨_, fun_mk (st := s_Evening__init_) l51 c51 k51⟩
  m_Evening__init_ := ⟨ma_Evening__init_, mb_Evening__init_, k51⟩
  mk_Evening := ⟨mk_Evening, ma_Evening__init_, mb_Evening__init_, kc_Evening⟩
  u_Evening_together := ⟨_, fun_mk (st := s_Evening_together) l52 c52 k52⟩
  cm_Evening_together := ⟨cma_Evening_together, ⟨_, cmb_Evening_together⟩, cmc_Evening_together⟩
  u_Evening_seat_count := ⟨_, fun_mk (st := s_Evening_seat_count) l53 c53 k53⟩
  pr_Evening_seat_count := ⟨pa_Evening_seat_count, pb_Evening_seat_count, pc_Evening_seat_count, ⟨_, pd_Evening_seat_count⟩⟩
  u_Evening_bills := ⟨_, fun_mk (st := s_Evening_bills) l54 c54 k54⟩
  pr_Evening_bills := ⟨pa_Evening_bills, pb_Evening_bills, pc_Evening_bills, ⟨_, pd_Evening_bills⟩⟩
  u_Evening__call_ := ⟨_, fun_mk (st := s_Evening__call_) l55 c55 k55⟩
  m_Evening__call_ := ⟨ma_Evening__call_, mb_Evening__call_, k55⟩
  co_Evening := ⟨ma_Evening__call_, mb_Evening__call_, coc_Evening__call_⟩
  u_Evening__getitem_ := ⟨_, fun_mk (st := s_Evening__getitem_) l56 c56 k56⟩
  m_Evening__getitem_ := ⟨ma_Evening__getitem_, mb_Evening__getitem_, k56⟩
  u_Evening__iter_ := ⟨_, fun_mk (st := s_Evening__iter_) l57 c57 k57⟩
  m_Evening__iter_ := ⟨ma_Evening__iter_, mb_Evening__iter_, k57⟩
  u_Evening__len_ := ⟨_, fun_mk (st := s_Evening__len_) l58 c58 k58⟩
  m_Evening__len_ := ⟨ma_Evening__len_, mb_Evening__len_, k58⟩
  u_Evening__bool_ := ⟨_, fun_mk (st := s_Evening__bool_) l59 c59 k59⟩
  m_Evening__bool_ := ⟨ma_Evening__bool_, mb_Evening__bool_, k59⟩
  u_Evening__add_ := ⟨_, fun_mk (st := s_Evening__add_) l60 c60 k60⟩
  m_Evening__add_ := ⟨ma_Evening__add_, mb_Evening__add_, k60⟩
  u_Evening__mul_ := ⟨_, fun_mk (st := s_Evening__mul_) l61 c61 k61⟩
  m_Evening__mul_ := ⟨ma_Evening__mul_, mb_Evening__mul_, k61⟩
  oi_Evening__mul_ := ⟨oa_Evening__mul_, ⟨_, ob_Evening__mul_⟩, ⟨_, oc_Evening__mul_⟩, od_Evening__mul_⟩
  g_MarkObserver := PySem.W.mg_of X G g_MarkObserver
  cl_MarkObserver := ⟨pg_MarkObserver, hd_MarkObserver, po_MarkObserver, sa_MarkObserver⟩
  si_MarkObserver := ⟨ia_MarkObserver, ib_MarkObserver, ic_MarkObserver, id_MarkObserver⟩
  ob_MarkObserver := ob_MarkObserver
  sf_MarkObserver := sf_MarkObserver
  kit_MarkObserver_tuple := kit_own hd_MarkObserver tyc_MarkObserver kit_MarkObserver_tuple
  kit_MarkObserver_list := kit_own hd_MarkObserver tyc_MarkObserver kit_MarkObserver_list
  kit_MarkObserver_int := kit_own hd_MarkObserver tyc_MarkObserver kit_MarkObserver_int
  na_MarkObserver_evening := na_MarkObserver_evening
  na_MarkObserver_possible := na_MarkObserver_possible
  na_MarkObserver_accepted := na_MarkObserver_accepted
  u_MarkObserver__init_ := ⟨_, fun_mk (st := s_MarkObserver__init_) l62 c62 k62⟩
  m_MarkObserver__init_ := ⟨ma_MarkObserver__init_, mb_MarkObserver__init_, k62⟩
  mk_MarkObserver := ⟨mk_MarkObserver, ma_MarkObserver__init_, mb_MarkObserver__init_, kc_MarkObserver⟩
  u_MarkObserver_possible_marks := ⟨_, fun_mk (st := s_MarkObserver_possible_marks) l63 c63 k63⟩
  pr_MarkObserver_possible_marks := ⟨pa_MarkObserver_possible_marks, pb_MarkObserver_possible_marks, pc_MarkObserver_possible_marks, ⟨_, pd_MarkObserver_possible_marks⟩⟩
  u_MarkObserver_records := ⟨_, fun_mk (st := s_MarkObserver_records) l64 c64 k64⟩
  pr_MarkObserver_records := ⟨pa_MarkObserver_records, pb_MarkObserver_records, pc_MarkObserver_records, ⟨_, pd_MarkObserver_records⟩⟩
  u_MarkObserver_see := ⟨_, fun_mk (st := s_MarkObserver_see) l65 c65 k65⟩
  m_MarkObserver_see := ⟨ma_MarkObserver_see, mb_MarkObserver_see, k65⟩
/-! tactics of this text: st one step, go as many as go -/
local macro_rules | `(tactic| walk_at "ar") => `(tactic| first | assumption | omega | (show (_ : Int) < _; omega) | decide)
local macro_rules | `(tactic| walk_at "st") => `(tactic| first
  | with_reducible refine' w_seq ?_
  | with_reducible refine' w_asg ?_
  | with_reducible refine' w_name ?_
  | with_reducible refine' w_c ?_
  | with_reducible refine' w_op ?_
  | with_reducible refine' w_ix ?_
  | with_reducible refine' w_at ?_
  | with_reducible refine' w_cons ?_
  | with_reducible refine' w_nil ?_
  | with_reducible refine' w_ret ?_
  | with_reducible refine' w_if ?_
  | with_reducible refine' w_test ?_
  | with_reducible refine' w_tr ?_
  | with_reducible refine' w_un ?_
  | with_reducible refine' w_andV ?_
  | with_reducible refine' w_orV ?_
  | with_reducible refine' w_notA ?_
  | with_reducible refine' w_ch ?_
  | with_reducible refine' w_and ?_
  | with_reducible refine' w_or ?_
  | with_reducible refine' w_not ?_
  | with_reducible refine' w_ifx ?_
  | with_reducible refine' w_tup ?_
  | with_reducible refine' w_lst ?_
  | with_reducible refine' w_next ?_
  | with_reducible refine' w_drop ?_
  | with_reducible refine' w_retN ?_
  | ((with_reducible refine' w_var ?h ?_); (case h => exact rfl))
  | ((with_reducible refine' w_bi ?h ?_); (case h => walk_at "mg"))
  | ((with_reducible refine' w_bv ?h ?_); (case h => walk_at "mg"))
  | ((with_reducible refine' w_gv ?h ?_); (case h => walk_at "mg"))
  | ((with_reducible refine' w_gl ?h ?k ?_); (case h => walk_at "mg"); (case k => walk_at "kp"))
  | ((with_reducible refine' w_glS ?h ?k ?_); (case h => walk_at "mg"); (case k => walk_at "kp"))
  | with_reducible refine' bl_ex ?_
  | with_reducible refine' iteT ?_
  | with_reducible refine' iteF ?_
  | with_reducible refine' ite_nf ?_
  | with_reducible refine' ite_nt ?_
  | with_reducible refine' s_add ?_
  | with_reducible refine' s_sub ?_
  | with_reducible refine' s_lt ?_
  | with_reducible refine' s_le ?_
  | with_reducible refine' s_gt ?_
  | with_reducible refine' s_ge ?_
  | with_reducible refine' s_eqI ?_
  | with_reducible refine' s_neI ?_
  | with_reducible refine' s_eqB ?_
  | with_reducible refine' s_neB ?_
  | with_reducible refine' s_truB ?_
  | with_reducible refine' s_truI ?_
  | with_reducible refine' s_neg ?_
  | ((with_reducible refine' s_mod ?h ?_); (case h => walk_at "ar")))
local macro_rules | `(tactic| walk_at "go") => `(tactic| repeat walk_at "st")

local macro_rules | `(tactic| walk_at "mg") => `(tactic| first | assumption | exact Facts.z_len (by assumption) | exact Facts.z_isinstance (by assumption) | exact Facts.z_int (by assumption) | exact Facts.z_bool (by assumption) | exact Facts.g_Shares (by assumption) | exact Facts.g_is_between (by assumption))
/-! ### the program: is_between, Shares -/
section
variable {P : Program} {w : World} {K : PySem.W.Frag} {mg : Str → Option Value} {base : Heap} {a : Ad}
/-- shares of cs stand at p -/
def ShAt (C : Addr) (H : Hp) (p : Addr) (cs : List Int) : Prop := ∃ dx t, H p = some (.ins C dx [("_cents", .ref t)]) ∧ H t = some (.tup (cs.map V.int))
theorem ShAt.same {C : Addr} {H H' : Hp} {p : Addr} {cs : List Int} (h : ShAt C H p cs) (s : Same H H') : ShAt C H' p cs := by
  obtain ⟨dx, t, h1, h2⟩ := h
  exact ⟨dx, t, s _ _ h1, s _ _ h2⟩
theorem look_cents {t : Addr} : List.lookup ("_cents" : Str) [(("_cents" : Str), V.ref t)] = some (.ref t) := by simp [List.lookup]

def spBetween : Sp := fun vs H Q _ => ∃ i lo hi : Int, vs = [.int i, .int lo, .int hi] ∧ Q (.bl (decide (lo ≤ i) && decide (i ≤ hi))) H
theorem ok_between (T : Facts K mg a) : FnR P w K mg base (L2.CX P w) 1 a.f_is_between spBetween := by
  obtain ⟨fd, F⟩ := T.u_is_between
  refine fnr_ok F sc_is_between (F.binds fun _ _ _ _ _ _ us hl => match us, hl with | [_, _, _], _ => rfl) (fun vs H Q E h => ?_) (fun cdv A outer s H vs Q E hr h => ?_)
  · obtain ⟨i, lo, hi, rfl, _⟩ := h
    rfl
  · obtain ⟨i, lo, hi, rfl, q⟩ := h
    refine ⟨_, (pss_one (ps_ret (pe_and (pe_biA (id := "isinstance") Like.refl pas_main (by rfl) (by decide +kernel) (pa_cons (pv 0) (pa_cons (pe_bvA (v := .ty "int") Like.refl (by rfl) (by decide +kernel) rfl) pa_nil))) (pe_and (pe_notA Like.refl pas_main (pe_biA (id := "isinstance") Like.refl pas_main (by rfl) (by decide +kernel) (pa_cons (pv 0) (pa_cons (pe_bvA (v := .ty "bool") Like.refl (by rfl) (by decide +kernel) rfl) pa_nil)))) (pe_one (pe_chA Like.refl pas_main (pv 1) (pv 0) (pv 2))))))), ?_⟩
    walk_at "go"
    refine s_isiI (b := true) (by decide +kernel) ?_
    walk_at "go"
    refine s_isiI (b := false) (by decide +kernel) ?_
    walk_at "go"
    refine ite_d (fun h1 => ?_) (fun h1 => ?_)
    · rw [decide_eq_true h1] at q
      walk_at "go"
      exact q
    · rw [decide_eq_false h1] at q
      exact q

def spShInit (C : Addr) : Sp := fun vs H Q _ => ∃ x t dx, vs = [.ref x, .ref t] ∧ H x = some (.ins C dx []) ∧ Q .non (upd H x (.ins C dx [("_cents", .ref t)]))
theorem ok_sh_init (T : Facts K mg a) : FnR P w K mg base (L2.CX P w) 1 a.f_Shares__init_ (fun vs H Q E => ∃ ws rest, vs = ws ++ rest ∧ ws.length = ["self"].length ∧ rest.length ≤ sizeLine ∧ ∀ p, H p = Option.none → spShInit a.c_Shares (ws ++ [V.ref p]) (upd H p (.tup rest)) Q E) := by
  obtain ⟨fd, F⟩ := T.u_Shares__init_
  refine fnr_star1 (p1 := "self") (pv := "cents") F sc_Shares__init_ (fun _ _ _ _ _ _ _ => rfl) (fun _ _ _ _ _ _ _ _ _ => rfl) (fun cdv A outer s H vs Q E hr h => ?_)
  obtain ⟨x, t, dx, rfl, hx, q⟩ := h
  refine ⟨_, (pss_one (ps_fld (pv 0) (pv 1) rfl)), ?_⟩
  refine w_fld ?_
  walk_at "go"
  exact ⟨x, a.c_Shares, dx, [], rfl, hx, T.cl_Shares, T.na_Shares_cents, by decide, q⟩
/-- Shares(*cs) -/
theorem s_shares {X0 : Cx} {E : XK} {H : Hp} {Q : VK} {cs : List Int} (T : Facts X0.K X0.mg a) (F : Fn X0 1 a.f_Shares__init_ (fun vs H Q E => ∃ ws rest, vs = ws ++ rest ∧ ws.length = ["self"].length ∧ rest.length ≤ sizeLine ∧ ∀ p, H p = Option.none → spShInit a.c_Shares (ws ++ [V.ref p]) (upd H p (.tup rest)) Q E)) (hr : Room 2 X0.A) (hl : cs.length ≤ 100000)
    (q : ∀ p H', H p = none → Same H H' → ShAt a.c_Shares H' p cs → Q (.ref p) H') : ∃ r, CaD X0 E (.ref a.c_Shares) r ∧ r (cs.map V.int) H Q := by
  refine s_mk T.mk_Shares F hr fun x dx hx hdx hne => ⟨[.ref x], cs.map V.int, rfl, rfl, by rw [List.length_map]; exact sz5 hl, fun t ht => ⟨x, t, dx, rfl, ?_, ?_⟩⟩
  · rw [upd_ne (fun z => by subst z; rw [upd_same] at ht; cases ht), upd_same]
  · have n1 : t ≠ x := fun z => by subst z; rw [upd_same] at ht; cases ht
    have n2 : t ≠ dx := fun z => by subst z; rw [upd_ne hne, upd_same] at ht; cases ht
    rw [upd_ne n1, upd_ne n2] at ht
    refine ⟨rfl, q x _ hx (fun b o e => ?_) ⟨dx, t, upd_same, ?_⟩⟩
    · rw [upd_ne (ne_of_none e hx), upd_ne (ne_of_none e ht), upd_ne (ne_of_none e hx), upd_ne (ne_of_none e hdx)]
      exact e
    · rw [upd_ne n1, upd_same]

def spShCents (C : Addr) : Sp := fun vs H Q _ => ∃ p dx t, vs = [.ref p] ∧ H p = some (.ins C dx [("_cents", .ref t)]) ∧ Q (.ref t) H
theorem ok_sh_cents (T : Facts K mg a) : FnR P w K mg base (L2.CX P w) 1 a.f_Shares_cents (spShCents a.c_Shares) := by
  obtain ⟨fd, F⟩ := T.u_Shares_cents
  refine fnr_ok F sc_Shares_cents (F.binds fun _ _ _ _ _ _ us hl => match us, hl with | [_], _ => rfl) (fun vs H Q E h => ?_) (fun cdv A outer s H vs Q E hr h => ?_)
  · obtain ⟨p, dx, t, rfl, _⟩ := h
    rfl
  · obtain ⟨p, dx, t, rfl, hp, q⟩ := h
    refine ⟨_, (pss_one (ps_ret (pe_atA Like.refl pas_main (pv 0)))), ?_⟩
    walk_at "go"
    exact s_fld hp T.cl_Shares T.na_Shares_cents look_cents q
def spShWhole (C : Addr) : Sp := fun vs H Q _ => ∃ p cs, vs = [.ref p] ∧ ShAt C H p cs ∧ Q (.int cs.sum) H
theorem ok_sh_whole (T : Facts K mg a) : FnR P w K mg base (L2.CX P w) 1 a.f_Shares_whole (spShWhole a.c_Shares) := by
  obtain ⟨fd, F⟩ := T.u_Shares_whole
  refine fnr_ok F sc_Shares_whole (F.binds fun _ _ _ _ _ _ us hl => match us, hl with | [_], _ => rfl) (fun vs H Q E h => ?_) (fun cdv A outer s H vs Q E hr h => ?_)
  · obtain ⟨p, cs, rfl, _⟩ := h
    rfl
  · obtain ⟨p, cs, rfl, ⟨dx, t, hp, ht⟩, q⟩ := h
    refine ⟨_, (pss_one (ps_ret (pe_biA (id := "sum") Like.refl pas_main (by rfl) (by decide +kernel) (pa_cons (pe_atA Like.refl pas_main (pv 0)) pa_nil)))), ?_⟩
    refine w_ret (w_bi T.z_sum ?_)
    walk_at "go"
    refine s_fld hp T.cl_Shares T.na_Shares_cents look_cents ?_
    walk_at "go"
    exact s_sumT rfl (SqT.of ht) q
def spShLen (C : Addr) : Sp := fun vs H Q _ => ∃ p cs, vs = [.ref p] ∧ ShAt C H p cs ∧ Q (.int (cs.length : Nat)) H
theorem ok_sh_len (T : Facts K mg a) : FnR P w K mg base (L2.CX P w) 1 a.f_Shares__len_ (spShLen a.c_Shares) := by
  obtain ⟨fd, F⟩ := T.u_Shares__len_
  refine fnr_ok F sc_Shares__len_ (F.binds fun _ _ _ _ _ _ us hl => match us, hl with | [_], _ => rfl) (fun vs H Q E h => ?_) (fun cdv A outer s H vs Q E hr h => ?_)
  · obtain ⟨p, cs, rfl, _⟩ := h
    rfl
  · obtain ⟨p, cs, rfl, ⟨dx, t, hp, ht⟩, q⟩ := h
    refine ⟨_, (pss_one (ps_ret (pe_biA (id := "len") Like.refl pas_main (by rfl) (by decide +kernel) (pa_cons (pe_atA Like.refl pas_main (pv 0)) pa_nil)))), ?_⟩
    walk_at "go"
    refine s_fld hp T.cl_Shares T.na_Shares_cents look_cents ?_
    walk_at "go"
    refine s_lenT (SqT.of ht) ?_
    rw [List.length_map]
    exact q
def spShGet (C U : Addr) : Sp := fun vs H Q E => ∃ p cs i, vs = [.ref p, .int i] ∧ ShAt C H p cs ∧ (∀ c, 0 ≤ i → cs[i.toNat]? = some c → Q (.int c) H) ∧ (¬ (0 ≤ i ∧ i < (cs.length : Nat)) → E (.ref U) none H)
theorem ok_sh_get (T : Facts K mg a) : FnR P w K mg base (L2.CX P w) 2 a.f_Shares__getitem_ (spShGet a.c_Shares a.c_UnknownSeat) := by
  obtain ⟨fd, F⟩ := T.u_Shares__getitem_
  have GB : FnR P w K mg base (L2.CX P w) 1 a.f_is_between spBetween := ok_between T
  refine fnr_ok F sc_Shares__getitem_ (F.binds fun _ _ _ _ _ _ us hl => match us, hl with | [_, _], _ => rfl) (fun vs H Q E h => ?_) (fun cdv A outer s H vs Q E hr h => ?_)
  · obtain ⟨p, cs, i, rfl, _⟩ := h
    rfl
  · obtain ⟨p, cs, i, rfl, ⟨dx, t, hp, ht⟩, q, e⟩ := h
    refine ⟨_, (pss_cons (ps_if (pt_not (pt_trA Like.refl pas_main (pe_glA Like.refl pas_main (by rfl) (pa_cons (pv 1) (pa_cons (pe_int) (pa_cons (pe_opA Like.refl pas_main (pe_biA (id := "len") Like.refl pas_main (by rfl) (by decide +kernel) (pa_cons (pe_atA Like.refl pas_main (pv 0)) pa_nil)) (pe_int)) pa_nil)))))) (pss_one (ps_raA rfl tk_main (by rfl))) pss_nil)
    (pss_one (ps_ret (pe_ixA Like.refl pas_main (pe_atA Like.refl pas_main (pv 0)) (pv 1))))), ?_⟩
    refine w_seq (w_if (w_not (w_tr (w_gl T.g_is_between (Fun.kp T.u_is_between.choose_spec) ?_))))
    walk_at "go"
    refine s_fld hp T.cl_Shares T.na_Shares_cents look_cents ?_
    walk_at "go"
    refine s_lenT (SqT.of ht) ?_
    walk_at "go"
    refine s_fn GB hr ⟨i, 0, _, rfl, ?_⟩
    walk_at "go"
    rw [List.length_map]
    by_cases h0 : 0 ≤ i
    · by_cases h1 : i < (cs.length : Nat)
      · rw [decide_eq_true h0, decide_eq_true (show i ≤ (cs.length : Int) - 1 by omega)]
        refine iteF ?_
        walk_at "go"
        refine s_fld hp T.cl_Shares T.na_Shares_cents look_cents ?_
        walk_at "go"
        have hn : i.toNat < cs.length := by omega
        refine s_ixT (SqT.of ht) (at_of (j := i.toNat) (by omega) (by rw [List.getElem?_map, List.getElem?_eq_getElem hn] <;> rfl)) (q _ h0 (List.getElem?_eq_getElem hn))
      · rw [decide_eq_false (show ¬ i ≤ (cs.length : Int) - 1 by omega), Bool.and_false]
        exact iteT ⟨_, T.x_UnknownSeat, e fun z => h1 z.2⟩
    · rw [decide_eq_false h0]
      exact iteT ⟨_, T.x_UnknownSeat, e fun z => h0 z.1⟩
def spShEq (K : PySem.W.Frag) (C : Addr) : Sp := fun vs H Q _ => ∃ p cs y, vs = [.ref p, y] ∧ ShAt C H p cs ∧
  ((∃ q ds, y = .ref q ∧ ShAt C H q ds ∧ Q (.bl (decide (cs = ds))) H) ∨ (∃ t, TyX K H y (.type t) ∧ PySem.W.kitOne K (.type t) (.ref C) = some false ∧ Q (.bl false) H))
theorem ok_sh_eq (T : Facts K mg a) : FnR P w K mg base (L2.CX P w) 1 a.f_Shares__eq_ (spShEq K a.c_Shares) := by
  obtain ⟨fd, F⟩ := T.u_Shares__eq_
  refine fnr_ok F sc_Shares__eq_ (F.binds fun _ _ _ _ _ _ us hl => match us, hl with | [_, _], _ => rfl) (fun vs H Q E h => ?_) (fun cdv A outer s H vs Q E hr h => ?_)
  · obtain ⟨p, cs, y, rfl, _⟩ := h
    rfl
  · obtain ⟨p, cs, y, rfl, ⟨dx, t, hp, ht⟩, h⟩ := h
    have hr' := hr.units
    refine ⟨_, (pss_one (ps_ret (pe_and (pe_biA (id := "isinstance") Like.refl pas_main (by rfl) (by decide +kernel) (pa_cons (pv 1) (pa_cons (pe_gvA Like.refl (by rfl)) pa_nil))) (pe_one (pe_cmpA Like.refl pas_main (pe_atA Like.refl pas_main (pv 0)) (pe_atA Like.refl pas_main (pv 1)) (nomark _)))))), ?_⟩
    walk_at "go"
    rcases h with ⟨q, ds, rfl, ⟨dy, u, hq, hu⟩, k⟩ | ⟨ty, hy, hk, k⟩
    · refine s_isiC (tyx_ins hq T.cl_Shares T.si_Shares) kit_self ?_
      walk_at "go"
      refine s_fld hp T.cl_Shares T.na_Shares_cents look_cents ?_
      walk_at "go"
      refine s_fld hq T.cl_Shares T.na_Shares_cents look_cents ?_
      exact s_eqTups hr' (SqT.of ht) (SqT.of hu) k
    · refine s_isiC hy hk ?_
      walk_at "go"
      exact k
/-- Shares by the class's new object -/
abbrev InitSp (C : Addr) : Sp := fun vs H Q E => ∃ ws rest, vs = ws ++ rest ∧ ws.length = ["self"].length ∧ rest.length ≤ sizeLine ∧ ∀ p, H p = Option.none → spShInit C (ws ++ [V.ref p]) (upd H p (.tup rest)) Q E
def spShMul (C : Addr) : Sp := fun vs H Q _ => ∃ p cs i, vs = [.ref p, .int i] ∧ ShAt C H p cs ∧ cs.length ≤ 1000 ∧ (∀ c ∈ cs, CMul c i) ∧ ∀ r H', H r = none → Same H H' → ShAt C H' r (cs.map (· * i)) → Q (.ref r) H'
theorem ok_sh_mul (T : Facts K mg a) : FnR P w K mg base (L2.CX P w) 3 a.f_Shares__mul_ (spShMul a.c_Shares) := by
  obtain ⟨fd, F⟩ := T.u_Shares__mul_
  have GI : FnR P w K mg base (L2.CX P w) 1 a.f_Shares__init_ (InitSp a.c_Shares) := ok_sh_init T
  refine fnr_ok F sc_Shares__mul_ (F.binds fun _ _ _ _ _ _ us hl => match us, hl with | [_, _], _ => rfl) (fun vs H Q E h => ?_) (fun cdv A outer s H vs Q E hr h => ?_)
  · obtain ⟨p, cs, i, rfl, _⟩ := h
    rfl
  · obtain ⟨p, cs, i, rfl, ⟨dx, t, hp, ht⟩, hl, hm, q⟩ := h
    refine ⟨_, (pss_cons (ps_setLc (i := 2) (own := [("cents", 3)]) (g := gName 3) (tt := tYes) rfl sc_Shares__mul_.nd rfl rfl (sw_true rfl rfl rfl (by decide +kernel)) (pi_seqA Like.refl (pe_atA Like.refl pas_main (pv 0))) (blkOk_by (own := [("cents", 3)]) (N := N_Shares__mul_) (sc := defScope s_Shares__mul_) (by decide +kernel)) (fun _ _ _ _ _ => (pg_name (i := 3) sc_Shares__mul_.nd rfl (by first | exact Or.inl rfl | exact Or.inr rfl))) (fun _ _ _ _ _ => pts_nil) (fun _ _ _ _ _ => (pe_opA ⟨rfl, rfl, rfl, rfl, rfl, rfl, rfl⟩ passL (pv 3) (pv 1))))
    (pss_one (ps_ret (pe_glS Like.refl pas_main (by rfl) (pv 2))))), ?_⟩
    refine w_seq (w_asg ?_)
    refine c_tup (a := t) (xs := cs.map V.int) (fun k => (cs.take k).map fun c => V.int (c * i)) rfl (fun k hk => ?_) (SqT.of ht) (fun _ => rfl) (fun k x H' hx s1 => ?_) (fun r H' hr0 s1 hL => ?_) (fun R k => ?_)
    · rw [List.length_map, List.length_take]
      omega
    · rw [List.getElem?_map] at hx
      cases e : cs[k]? with
      | none => rw [e] at hx; cases hx
      | some c =>
        rw [e] at hx
        cases hx
        have ek : (cs.take (k + 1)).map (fun c => V.int (c * i)) = (cs.take k).map (fun c => V.int (c * i)) ++ [V.int (c * i)] := by
          rw [List.take_add_one, e]
          simp
        show Turn1 _ _ _ _ _ ((cs.take (k + 1)).map fun c => V.int (c * i))
        rw [ek]
        refine turn1_map fun R kk => ?_
        walk_at "go"
        exact s_mul (hm c (List.mem_of_getElem? e)) (kk _ (Same.refl _))
    · rw [List.length_map] at hL
      rw [List.take_of_length_le (Nat.le_refl _)] at hL
      walk_at "go"
      refine w_glS T.g_Shares T.mk_Shares.kp ?_
      walk_at "go"
      refine ⟨r, (cs.map (· * i)).map V.int, rfl, .inr (SqL.of (by rw [hL, List.map_map] <;> rfl)), ?_⟩
      exact s_shares T GI hr (by rw [List.length_map]; omega) fun p' H2 hp' s2 sh => q p' H2 (s1.free hp') (s1.trans s2) sh
    · walk_at "go"
      exact s_fld hp T.cl_Shares T.na_Shares_cents look_cents k
def spShNeg (C : Addr) : Sp := fun vs H Q _ => ∃ p cs, vs = [.ref p] ∧ ShAt C H p cs ∧ cs.length ≤ 1000 ∧ ∀ r H', H r = none → Same H H' → ShAt C H' r (cs.map (· * (-1))) → Q (.ref r) H'
theorem ok_sh_neg (T : Facts K mg a) : FnR P w K mg base (L2.CX P w) 4 a.f_Shares__neg_ (spShNeg a.c_Shares) := by
  obtain ⟨fd, F⟩ := T.u_Shares__neg_
  have GM : FnR P w K mg base (L2.CX P w) 3 a.f_Shares__mul_ (spShMul a.c_Shares) := ok_sh_mul T
  refine fnr_ok F sc_Shares__neg_ (F.binds fun _ _ _ _ _ _ us hl => match us, hl with | [_], _ => rfl) (fun vs H Q E h => ?_) (fun cdv A outer s H vs Q E hr h => ?_)
  · obtain ⟨p, cs, rfl, _⟩ := h
    rfl
  · obtain ⟨p, cs, rfl, sh, hl, q⟩ := h
    obtain ⟨dx, t, hp, ht⟩ := id sh
    refine ⟨_, (pss_one (ps_ret (pe_opA Like.refl pas_main (pv 0) (pe_unA Like.refl pas_main (pe_int))))), ?_⟩
    walk_at "go"
    exact s_opInt T.sf_Shares T.m_Shares__mul_ T.oi_Shares__mul_ (by decide +kernel) (by decide +kernel) GM hr hp ⟨p, cs, -1, rfl, sh, hl, fun c _ => .inr ⟨by decide, by decide⟩, q⟩
def spShAdd (C O : Addr) : Sp := fun vs H Q E => ∃ p q cs ds, vs = [.ref p, .ref q] ∧ ShAt C H p cs ∧ ShAt C H q ds ∧ cs.length ≤ 1000 ∧
  (cs.length = ds.length → ∀ r H', H r = none → Same H H' → ShAt C H' r (List.zipWith (· + ·) cs ds) → Q (.ref r) H') ∧ (cs.length ≠ ds.length → E (.ref O) none H)
theorem ok_sh_add (T : Facts K mg a) : FnR P w K mg base (L2.CX P w) 3 a.f_Shares__add_ (spShAdd a.c_Shares a.c_OtherTable) := by
  obtain ⟨fd, F⟩ := T.u_Shares__add_
  have GI : FnR P w K mg base (L2.CX P w) 1 a.f_Shares__init_ (InitSp a.c_Shares) := ok_sh_init T
  refine fnr_ok F sc_Shares__add_ (F.binds fun _ _ _ _ _ _ us hl => match us, hl with | [_, _], _ => rfl) (fun vs H Q E h => ?_) (fun cdv A outer s H vs Q E hr h => ?_)
  · obtain ⟨p, q, cs, ds, rfl, _⟩ := h
    rfl
  · obtain ⟨p, q, cs, ds, rfl, ⟨dx, t, hp, ht⟩, ⟨dy, u, hq, hu⟩, hl, k, e⟩ := h
    refine ⟨_, (pss_cons (ps_if (pt_cmpA Like.refl pas_main (pe_biA (id := "len") Like.refl pas_main (by rfl) (by decide +kernel) (pa_cons (pe_atA Like.refl pas_main (pv 0)) pa_nil)) (pe_biA (id := "len") Like.refl pas_main (by rfl) (by decide +kernel) (pa_cons (pe_atA Like.refl pas_main (pv 1)) pa_nil)) (nomark _)) (pss_one (ps_raA rfl tk_main (by rfl))) pss_nil)
    (pss_cons (ps_setLc (i := 2) (own := [("mine", 3), ("its", 4)]) (g := gTup K 2 (gCons (gName 3) (gCons (gName 4) gNil))) (tt := tYes) rfl sc_Shares__add_.nd rfl rfl (sw_true rfl rfl rfl (by decide +kernel)) (RZ.pi_zipA (by rfl) T.z_zip (pa_cons (pe_atA Like.refl pas_main (pv 0)) (pa_cons (pe_atA Like.refl pas_main (pv 1)) pa_nil))) (blkOk_by (own := [("mine", 3), ("its", 4)]) (N := N_Shares__add_) (sc := defScope s_Shares__add_) (by decide +kernel)) (fun _ _ _ _ _ => (pg_tup rfl (pgs_cons (pg_name (i := 3) sc_Shares__add_.nd rfl (by first | exact Or.inl rfl | exact Or.inr rfl)) (pgs_cons (pg_name (i := 4) sc_Shares__add_.nd rfl (by first | exact Or.inl rfl | exact Or.inr rfl)) pgs_nil)))) (fun _ _ _ _ _ => pts_nil) (fun _ _ _ _ _ => (pe_opA ⟨rfl, rfl, rfl, rfl, rfl, rfl, rfl⟩ passL (pv 3) (pv 4))))
    (pss_one (ps_ret (pe_glS Like.refl pas_main (by rfl) (pv 2)))))), ?_⟩
    walk_at "go"
    refine s_fld hp T.cl_Shares T.na_Shares_cents look_cents ?_
    walk_at "go"
    refine s_lenT (SqT.of ht) ?_
    walk_at "go"
    refine s_fld hq T.cl_Shares T.na_Shares_cents look_cents ?_
    walk_at "go"
    refine s_lenT (SqT.of hu) ?_
    walk_at "go"
    rw [List.length_map, List.length_map]
    refine ite_n (fun h1 => ?_) (fun h1 => ?_)
    · exact ⟨_, T.x_OtherTable, e fun z => h1 (by rw [z])⟩
    · have hcd : cs.length = ds.length := by omega
      walk_at "go"
      refine c_zipT (a := t) (b := u) (xs := cs.map V.int) (ys := ds.map V.int) (fun k => ((List.zipWith (· + ·) cs ds).take k).map V.int) rfl (fun k hk => ?_) (SqT.of ht) (SqT.of hu) (fun _ _ => rfl) (fun j x y H' hx hy s1 => ?_) (fun r H' hr0 s1 hL => ?_) (fun R k => ?_)
      · rw [List.length_map, List.length_take, List.length_zipWith]
        omega
      · rw [List.getElem?_map] at hx hy
        cases ex : cs[j]? with
        | none => rw [ex] at hx; cases hx
        | some c =>
          cases ey : ds[j]? with
          | none => rw [ey] at hy; cases hy
          | some d =>
            rw [ex] at hx
            rw [ey] at hy
            cases hx
            cases hy
            have ek : ((List.zipWith (· + ·) cs ds).take (j + 1)).map V.int = ((List.zipWith (· + ·) cs ds).take j).map V.int ++ [V.int (c + d)] := by
              rw [List.take_add_one, List.getElem?_zipWith, ex, ey]
              simp
            show Turn1 _ _ _ _ _ (((List.zipWith (· + ·) cs ds).take (j + 1)).map V.int)
            rw [ek]
            refine turn1_map fun R kk => ?_
            walk_at "go"
            exact kk _ (Same.refl _)
      · have e1 : (List.zipWith (· + ·) cs ds).take (min (cs.map V.int).length (ds.map V.int).length) = List.zipWith (· + ·) cs ds := List.take_of_length_le (by rw [List.length_zipWith, List.length_map, List.length_map]; exact Nat.le_refl _)
        rw [e1] at hL
        walk_at "go"
        refine w_glS T.g_Shares T.mk_Shares.kp ?_
        walk_at "go"
        refine ⟨r, (List.zipWith (· + ·) cs ds).map V.int, rfl, .inr (SqL.of hL), ?_⟩
        exact s_shares T GI hr (by rw [List.length_zipWith]; omega) fun p' H2 hp' s2 sh => k hcd p' H2 (s1.free hp') (s1.trans s2) sh
      · walk_at "go"
        refine s_fld hp T.cl_Shares T.na_Shares_cents look_cents ?_
        walk_at "go"
        refine s_fld hq T.cl_Shares T.na_Shares_cents look_cents ?_
        walk_at "go"
        exact k
def spShSub (C O : Addr) : Sp := fun vs H Q E => ∃ p q cs ds, vs = [.ref p, .ref q] ∧ ShAt C H p cs ∧ ShAt C H q ds ∧ cs.length ≤ 1000 ∧ ds.length ≤ 1000 ∧
  (cs.length = ds.length → ∀ r H', H r = none → Same H H' → ShAt C H' r (List.zipWith (· - ·) cs ds) → Q (.ref r) H') ∧ (cs.length ≠ ds.length → ∀ H', Same H H' → E (.ref O) none H')
theorem zip_neg : ∀ cs ds : List Int, List.zipWith (· + ·) cs (ds.map (· * (-1))) = List.zipWith (· - ·) cs ds
  | [], _ => by simp
  | _ :: _, [] => by simp
  | c :: cs, d :: ds => by
    rw [List.map_cons, List.zipWith_cons_cons, List.zipWith_cons_cons, zip_neg cs ds]
    congr 1
    omega
theorem ok_sh_sub (T : Facts K mg a) : FnR P w K mg base (L2.CX P w) 5 a.f_Shares__sub_ (spShSub a.c_Shares a.c_OtherTable) := by
  obtain ⟨fd, F⟩ := T.u_Shares__sub_
  have GN : FnR P w K mg base (L2.CX P w) 4 a.f_Shares__neg_ (spShNeg a.c_Shares) := ok_sh_neg T
  have GA : FnR P w K mg base (L2.CX P w) 3 a.f_Shares__add_ (spShAdd a.c_Shares a.c_OtherTable) := ok_sh_add T
  refine fnr_ok F sc_Shares__sub_ (F.binds fun _ _ _ _ _ _ us hl => match us, hl with | [_, _], _ => rfl) (fun vs H Q E h => ?_) (fun cdv A outer s H vs Q E hr h => ?_)
  · obtain ⟨p, q, cs, ds, rfl, _⟩ := h
    rfl
  · obtain ⟨p, q, cs, ds, rfl, sp, sq, hl, hl2, k, e⟩ := h
    obtain ⟨dx, t, hp, ht⟩ := id sp
    obtain ⟨dy, u, hq, hu⟩ := id sq
    refine ⟨_, (pss_one (ps_ret (pe_opA Like.refl pas_main (pv 0) (pe_unA Like.refl pas_main (pv 1))))), ?_⟩
    walk_at "go"
    refine s_negI T.m_Shares__neg_ GN hr hq ⟨q, ds, rfl, sq, hl2, fun r H' hr0 s1 sr => ?_⟩
    obtain ⟨dz, v, hv, hw⟩ := id sr
    refine s_opSame T.sf_Shares T.m_Shares__add_ (by decide +kernel) GA (hr.mono (by decide)) (s1 _ _ hp) hv ⟨p, r, cs, _, rfl, sp.same s1, sr, hl, fun hh r' H2 hr' s2 sh => ?_, fun hh => ?_⟩
    · rw [List.length_map] at hh
      rw [zip_neg] at sh
      exact k hh r' H2 (s1.free hr') (s1.trans s2) sh
    · rw [List.length_map] at hh
      exact e hh H' s1
def spShAbs (C : Addr) : Sp := fun vs H Q _ => ∃ p cs, vs = [.ref p] ∧ ShAt C H p cs ∧ Q (.int (maxI cs - minI cs)) H
theorem ok_sh_abs (T : Facts K mg a) : FnR P w K mg base (L2.CX P w) 1 a.f_Shares__abs_ (spShAbs a.c_Shares) := by
  obtain ⟨fd, F⟩ := T.u_Shares__abs_
  refine fnr_ok F sc_Shares__abs_ (F.binds fun _ _ _ _ _ _ us hl => match us, hl with | [_], _ => rfl) (fun vs H Q E h => ?_) (fun cdv A outer s H vs Q E hr h => ?_)
  · obtain ⟨p, cs, rfl, _⟩ := h
    rfl
  · obtain ⟨p, cs, rfl, ⟨dx, t, hp, ht⟩, q⟩ := h
    refine ⟨_, (pss_one (ps_ret (pe_ifExp (pt_trA Like.refl pas_main (pe_atA Like.refl pas_main (pv 0))) (pe_opA Like.refl pas_main (pe_biA (id := "max") Like.refl pas_main (by rfl) (by decide +kernel) (pa_cons (pe_atA Like.refl pas_main (pv 0)) pa_nil)) (pe_biA (id := "min") Like.refl pas_main (by rfl) (by decide +kernel) (pa_cons (pe_atA Like.refl pas_main (pv 0)) pa_nil))) (pe_int)))), ?_⟩
    walk_at "go"
    refine s_fld hp T.cl_Shares T.na_Shares_cents look_cents ?_
    refine s_truT (SqT.of ht) ?_
    cases cs with
    | nil =>
      refine iteF ?_
      walk_at "go"
      exact q
    | cons c cs =>
      refine iteT ?_
      refine w_op (w_bi T.z_max ?_)
      walk_at "go"
      refine s_fld hp T.cl_Shares T.na_Shares_cents look_cents ?_
      walk_at "go"
      refine s_maxT rfl (SqT.of ht) (by simp) ?_
      refine w_bi T.z_min ?_
      walk_at "go"
      refine s_fld hp T.cl_Shares T.na_Shares_cents look_cents ?_
      walk_at "go"
      refine s_minT rfl (SqT.of ht) (by simp) ?_
      walk_at "go"
      exact q
end

end Odd

namespace Odd
open PySem PySem.Spec PyProof.Rows L2
/-! tactics of this text: st one step, go as many as go -/
local macro_rules | `(tactic| walk_at "ar") => `(tactic| first | assumption | omega | (show (_ : Int) < _; omega) | decide)
local macro_rules | `(tactic| walk_at "st") => `(tactic| first
  | with_reducible refine' w_seq ?_
  | with_reducible refine' w_asg ?_
  | with_reducible refine' w_name ?_
  | with_reducible refine' w_c ?_
  | with_reducible refine' w_op ?_
  | with_reducible refine' w_ix ?_
  | with_reducible refine' w_at ?_
  | with_reducible refine' w_cons ?_
  | with_reducible refine' w_nil ?_
  | with_reducible refine' w_ret ?_
  | with_reducible refine' w_if ?_
  | with_reducible refine' w_test ?_
  | with_reducible refine' w_tr ?_
  | with_reducible refine' w_un ?_
  | with_reducible refine' w_andV ?_
  | with_reducible refine' w_orV ?_
  | with_reducible refine' w_notA ?_
  | with_reducible refine' w_ch ?_
  | with_reducible refine' w_and ?_
  | with_reducible refine' w_or ?_
  | with_reducible refine' w_not ?_
  | with_reducible refine' w_ifx ?_
  | with_reducible refine' w_tup ?_
  | with_reducible refine' w_lst ?_
  | with_reducible refine' w_next ?_
  | with_reducible refine' w_drop ?_
  | with_reducible refine' w_retN ?_
  | ((with_reducible refine' w_var ?h ?_); (case h => exact rfl))
  | ((with_reducible refine' w_bi ?h ?_); (case h => walk_at "mg"))
  | ((with_reducible refine' w_bv ?h ?_); (case h => walk_at "mg"))
  | ((with_reducible refine' w_gv ?h ?_); (case h => walk_at "mg"))
  | ((with_reducible refine' w_gl ?h ?k ?_); (case h => walk_at "mg"); (case k => walk_at "kp"))
  | ((with_reducible refine' w_glS ?h ?k ?_); (case h => walk_at "mg"); (case k => walk_at "kp"))
  | with_reducible refine' bl_ex ?_
  | with_reducible refine' iteT ?_
  | with_reducible refine' iteF ?_
  | with_reducible refine' ite_nf ?_
  | with_reducible refine' ite_nt ?_
  | with_reducible refine' s_add ?_
  | with_reducible refine' s_sub ?_
  | with_reducible refine' s_lt ?_
  | with_reducible refine' s_le ?_
  | with_reducible refine' s_gt ?_
  | with_reducible refine' s_ge ?_
  | with_reducible refine' s_eqI ?_
  | with_reducible refine' s_neI ?_
  | with_reducible refine' s_eqB ?_
  | with_reducible refine' s_neB ?_
  | with_reducible refine' s_truB ?_
  | with_reducible refine' s_truI ?_
  | with_reducible refine' s_neg ?_
  | ((with_reducible refine' s_mod ?h ?_); (case h => walk_at "ar")))
local macro_rules | `(tactic| walk_at "go") => `(tactic| repeat walk_at "st")

local macro_rules | `(tactic| walk_at "mg") => `(tactic| first | assumption | exact Facts.z_len (by assumption) | exact Facts.z_isinstance (by assumption) | exact Facts.z_int (by assumption) | exact Facts.z_bool (by assumption) | exact Facts.z_tuple (by assumption) | exact Facts.z_list (by assumption) | exact Facts.z_range (by assumption) | exact Facts.z_sum (by assumption) | exact Facts.g_Shares (by assumption) | exact Facts.g_Bill (by assumption) | exact Facts.g_Evening (by assumption) | exact Facts.g_is_between (by assumption) | exact Facts.g_check_amount (by assumption) | exact Facts.g_check_seats (by assumption) | exact Facts.g_check_seat_count (by assumption) | exact Facts.g_check_bills (by assumption) | exact Facts.g_check_mark (by assumption) | exact Facts.g_no_shares (by assumption) | exact Facts.g_seats_behind (by assumption) | exact Facts.g_split_bill (by assumption))
local macro_rules | `(tactic| walk_at "kp") => `(tactic| first | assumption | exact Fun.kp (Facts.u_is_between (by assumption)).choose_spec | exact (Facts.mk_Shares (by assumption)).kp | exact (Facts.mk_Bill (by assumption)).kp | exact (Facts.mk_Evening (by assumption)).kp | exact Fun.kp (Facts.u_check_amount (by assumption)).choose_spec | exact Fun.kp (Facts.u_check_seats (by assumption)).choose_spec | exact Fun.kp (Facts.u_check_seat_count (by assumption)).choose_spec | exact Fun.kp (Facts.u_check_bills (by assumption)).choose_spec | exact Fun.kp (Facts.u_check_mark (by assumption)).choose_spec | exact Fun.kp (Facts.u_no_shares (by assumption)).choose_spec | exact Fun.kp (Facts.u_seats_behind (by assumption)).choose_spec | exact Fun.kp (Facts.u_split_bill (by assumption)).choose_spec)

/-! ### the program: bills, evenings -/
section
variable {P : Program} {w : World} {K : PySem.W.Frag} {mg : Str → Option Value} {base : Heap} {a : Ad}
/-- a bill of amt for the seats ss stands at p -/
def BiAt (C : Addr) (H : Hp) (p : Addr) (b : Int × List Int) : Prop := ∃ dx t, H p = some (.ins C dx [("_amount", .int b.1), ("_seats", .ref t)]) ∧ H t = some (.tup (b.2.map V.int))
theorem BiAt.same {C : Addr} {H H' : Hp} {p : Addr} {b : Int × List Int} (h : BiAt C H p b) (s : Same H H') : BiAt C H' p b := by
  obtain ⟨dx, t, h1, h2⟩ := h
  exact ⟨dx, t, s _ _ h1, s _ _ h2⟩
/-- bills stand at ps -/
def BisAt (C : Addr) (H : Hp) (ps : List Addr) (bs : List (Int × List Int)) : Prop := ps.length = bs.length ∧ ∀ (i : Nat) p b, ps[i]? = some p → bs[i]? = some b → BiAt C H p b
theorem BisAt.same {C : Addr} {H H' : Hp} {ps : List Addr} {bs : List (Int × List Int)} (h : BisAt C H ps bs) (s : Same H H') : BisAt C H' ps bs := ⟨h.1, fun i p b h1 h2 => (h.2 i p b h1 h2).same s⟩
/-- an evening of bs at a table of n seats stands at p -/
def EvAt (CE CB : Addr) (H : Hp) (p : Addr) (n : Int) (bs : List (Int × List Int)) : Prop := ∃ dx t ps, H p = some (.ins CE dx [("_seat_count", .int n), ("_bills", .ref t)]) ∧ H t = some (.tup (ps.map V.ref)) ∧ BisAt CB H ps bs
theorem EvAt.same {CE CB : Addr} {H H' : Hp} {p : Addr} {n : Int} {bs : List (Int × List Int)} (h : EvAt CE CB H p n bs) (s : Same H H') : EvAt CE CB H' p n bs := by
  obtain ⟨dx, t, ps, h1, h2, h3⟩ := h
  exact ⟨dx, t, ps, s _ _ h1, s _ _ h2, h3.same s⟩
/-- ascending seats, from lo to 7 -/
def asc : Int → List Int → Bool
  | _, [] => true
  | lo, s :: ss => decide (lo ≤ s) && decide (s ≤ 7) && asc (s + 1) ss
/-- a bill that is none of the wrong ones -/
def OkBill (b : Int × List Int) : Prop := 0 ≤ b.1 ∧ b.1 ≤ 10 ^ 12 ∧ asc 0 b.2 = true ∧ b.2 ≠ []
theorem s_btwT {X0 : Cx} {E : XK} {H : Hp} {Q : VK} {i lo hi : Int} (GB : Fn X0 1 a.f_is_between spBetween) (hr : Room 1 X0.A) (h1 : lo ≤ i) (h2 : i ≤ hi) (q : Q (.bl true) H) : ∃ r, CaD X0 E (.ref a.f_is_between) r ∧ r [.int i, .int lo, .int hi] H Q :=
  s_fn GB hr ⟨i, lo, hi, rfl, by rw [decide_eq_true h1, decide_eq_true h2]; exact q⟩
def spCkAmount : Sp := fun vs H Q _ => ∃ i : Int, vs = [.int i] ∧ 0 ≤ i ∧ i ≤ 10 ^ 12 ∧ Q .non H
theorem ok_check_amount (T : Facts K mg a) : FnR P w K mg base (L2.CX P w) 2 a.f_check_amount spCkAmount := by
  obtain ⟨fd, F⟩ := T.u_check_amount
  have GB : FnR P w K mg base (L2.CX P w) 1 a.f_is_between spBetween := ok_between T
  refine fnr_ok F sc_check_amount (F.binds fun _ _ _ _ _ _ us hl => match us, hl with | [_], _ => rfl) (fun vs H Q E h => ?_) (fun cdv A outer s H vs Q E hr h => ?_)
  · obtain ⟨i, rfl, _⟩ := h
    rfl
  · obtain ⟨i, rfl, h0, h1, q⟩ := h
    refine ⟨_, (pss_one (ps_if (pt_not (pt_trA Like.refl pas_main (pe_glA Like.refl pas_main (by rfl) (pa_cons (pv 0) (pa_cons (pe_int) (pa_cons (pe_gvI Like.refl (by rfl)) pa_nil)))))) (pss_one (ps_never)) pss_nil)), ?_⟩
    walk_at "go"
    refine w_gvI T.i_MAX_AMOUNT.choose_spec ?_
    walk_at "go"
    refine s_btwT GB hr h0 (by omega) ?_
    walk_at "go"
    exact q
def spCkSeats (K : PySem.W.Frag) : Sp := fun vs H Q _ => ∃ t ss, vs = [.ref t] ∧ SqT K H t (ss.map V.int) ∧ asc 0 ss = true ∧ ss ≠ [] ∧ ∀ H', Same H H' → Q .non H'
theorem ok_check_seats (T : Facts K mg a) : FnR P w K mg base (L2.CX P w) 2 a.f_check_seats (spCkSeats K) := by
  obtain ⟨fd, F⟩ := T.u_check_seats
  have GB : FnR P w K mg base (L2.CX P w) 1 a.f_is_between spBetween := ok_between T
  refine fnr_ok F sc_check_seats (F.binds fun _ _ _ _ _ _ us hl => match us, hl with | [_], _ => rfl) (fun vs H Q E h => ?_) (fun cdv A outer s H vs Q E hr h => ?_)
  · obtain ⟨t, ss, rfl, _⟩ := h
    rfl
  · obtain ⟨t, ss, rfl, ht, ha, hne, q⟩ := h
    refine ⟨_, (pss_cons (ps_set (i := 1) sc_check_seats.nd rfl (Or.inl rfl) (pe_int))
    (pss_cons (ps_for own_main rfl (pi_enumA (by rfl) T.z_enumerate (pa_cons (pv 0) pa_nil)) (pg_tup rfl (pgs_cons (pg_name (i := 2) sc_check_seats.nd rfl (Or.inl rfl)) (pgs_cons (pg_name (i := 3) sc_check_seats.nd rfl (Or.inl rfl)) pgs_nil))) (pss_cons (ps_if (pt_not (pt_trA Like.refl pas_main (pe_glA Like.refl pas_main (by rfl) (pa_cons (pv 3) (pa_cons (pv 1) (pa_cons (pe_opA Like.refl pas_main (pe_atA Like.refl pas_main (pe_gvA Like.refl (by rfl))) (pe_int)) pa_nil)))))) (pss_one (ps_never)) pss_nil)
    (pss_one (ps_set (i := 1) sc_check_seats.nd rfl (Or.inl rfl) (pe_opA Like.refl pas_main (pv 3) (pe_int))))))
    (pss_one (ps_if (pt_not (pt_trA Like.refl pas_main (pv 0))) (pss_one (ps_never)) pss_nil)))), ?_⟩
    walk_at "go"
    refine f_enumT (xs := ss.map V.int) (a := t) (fun k σ H' => Same H H' ∧ ∃ (lo : Int) (x y : Option V), σ = [some (.ref t), some (.int lo), x, y] ∧ asc lo (ss.drop k) = true) (fun R k => ?_) ⟨Same.refl _, 0, none, none, rfl, ha⟩ (fun k σ H' _ p => same_t p.1 ht) (fun k x σ H' T2 hx p hT => ?_) (fun σ H' p => ?_)
    · walk_at "go"
      exact k
    · obtain ⟨s1, lo, u, v, rfl, hlo⟩ := p
      rw [List.getElem?_map] at hx
      cases e : ss[k]? with
      | none => rw [e] at hx; cases hx
      | some z =>
        rw [e] at hx
        cases hx
        obtain ⟨hk, ez⟩ := List.getElem?_eq_some_iff.1 e
        rw [List.drop_eq_getElem_cons hk, ez] at hlo
        simp only [asc, Bool.and_eq_true, decide_eq_true_eq] at hlo
        walk_at "go"
        refine s_cval T.cr_Bill T.cv_Bill_MAX_SEATS.choose_spec ?_
        walk_at "go"
        refine s_btwT GB hr hlo.1.1 (by omega) ?_
        walk_at "go"
        exact ⟨s1.trans (same_new hT), _, _, _, rfl, hlo.2⟩
    · obtain ⟨s1, lo, u, v, rfl, _⟩ := p
      walk_at "go"
      refine s_truT (same_t s1 ht) ?_
      cases ss with
      | nil => exact absurd rfl hne
      | cons s ss =>
        walk_at "go"
        exact q _ s1
def spCkCount : Sp := fun vs H Q _ => ∃ i : Int, vs = [.int i] ∧ 2 ≤ i ∧ i ≤ 8 ∧ Q .non H
theorem ok_check_seat_count (T : Facts K mg a) : FnR P w K mg base (L2.CX P w) 2 a.f_check_seat_count spCkCount := by
  obtain ⟨fd, F⟩ := T.u_check_seat_count
  have GB : FnR P w K mg base (L2.CX P w) 1 a.f_is_between spBetween := ok_between T
  refine fnr_ok F sc_check_seat_count (F.binds fun _ _ _ _ _ _ us hl => match us, hl with | [_], _ => rfl) (fun vs H Q E h => ?_) (fun cdv A outer s H vs Q E hr h => ?_)
  · obtain ⟨i, rfl, _⟩ := h
    rfl
  · obtain ⟨i, rfl, h0, h1, q⟩ := h
    refine ⟨_, (pss_one (ps_if (pt_not (pt_trA Like.refl pas_main (pe_glA Like.refl pas_main (by rfl) (pa_cons (pv 0) (pa_cons (pe_gvI Like.refl (by rfl)) (pa_cons (pe_atA Like.refl pas_main (pe_gvA Like.refl (by rfl))) pa_nil)))))) (pss_one (ps_never)) pss_nil)), ?_⟩
    walk_at "go"
    refine w_gvI T.i_MIN_SEAT_COUNT.choose_spec ?_
    walk_at "go"
    refine s_cval T.cr_Bill T.cv_Bill_MAX_SEATS.choose_spec ?_
    walk_at "go"
    refine s_btwT GB hr h0 (by omega) ?_
    walk_at "go"
    exact q
def spCkMark : Sp := fun vs H Q _ => ∃ i n : Int, vs = [.int i, .int n] ∧ 0 ≤ i ∧ i < n ∧ Q .non H
theorem ok_check_mark (T : Facts K mg a) : FnR P w K mg base (L2.CX P w) 2 a.f_check_mark spCkMark := by
  obtain ⟨fd, F⟩ := T.u_check_mark
  have GB : FnR P w K mg base (L2.CX P w) 1 a.f_is_between spBetween := ok_between T
  refine fnr_ok F sc_check_mark (F.binds fun _ _ _ _ _ _ us hl => match us, hl with | [_, _], _ => rfl) (fun vs H Q E h => ?_) (fun cdv A outer s H vs Q E hr h => ?_)
  · obtain ⟨i, n, rfl, _⟩ := h
    rfl
  · obtain ⟨i, n, rfl, h0, h1, q⟩ := h
    refine ⟨_, (pss_one (ps_if (pt_not (pt_trA Like.refl pas_main (pe_glA Like.refl pas_main (by rfl) (pa_cons (pv 0) (pa_cons (pe_int) (pa_cons (pe_opA Like.refl pas_main (pv 1) (pe_int)) pa_nil)))))) (pss_one (ps_raA rfl tk_main (by rfl))) pss_nil)), ?_⟩
    walk_at "go"
    refine s_btwT GB hr h0 (by omega) ?_
    walk_at "go"
    exact q
/-! getters -/
theorem look2 {k k1 : Str} {v v1 : V} (h : (k == k1) = false) : List.lookup k [(k1, v1), (k, v)] = some v := by simp [List.lookup, h]
theorem look_amount {i : Int} {t : Addr} : List.lookup ("_amount" : Str) [(("_amount" : Str), V.int i), ("_seats", V.ref t)] = some (.int i) := by simp [List.lookup]
theorem look_seats {i : Int} {t : Addr} : List.lookup ("_seats" : Str) [(("_amount" : Str), V.int i), ("_seats", V.ref t)] = some (.ref t) := look2 (by decide)
theorem look_count {i : Int} {t : Addr} : List.lookup ("_seat_count" : Str) [(("_seat_count" : Str), V.int i), ("_bills", V.ref t)] = some (.int i) := by simp [List.lookup]
theorem look_bills {i : Int} {t : Addr} : List.lookup ("_bills" : Str) [(("_seat_count" : Str), V.int i), ("_bills", V.ref t)] = some (.ref t) := look2 (by decide)
def spBiAmount (C : Addr) : Sp := fun vs H Q _ => ∃ p dx t i, vs = [.ref p] ∧ H p = some (.ins C dx [("_amount", .int i), ("_seats", .ref t)]) ∧ Q (.int i) H
theorem ok_bi_amount (T : Facts K mg a) : FnR P w K mg base (L2.CX P w) 1 a.f_Bill_amount (spBiAmount a.c_Bill) := by
  obtain ⟨fd, F⟩ := T.u_Bill_amount
  refine fnr_ok F sc_Bill_amount (F.binds fun _ _ _ _ _ _ us hl => match us, hl with | [_], _ => rfl) (fun vs H Q E h => ?_) (fun cdv A outer s H vs Q E hr h => ?_)
  · obtain ⟨p, dx, t, i, rfl, _⟩ := h
    rfl
  · obtain ⟨p, dx, t, i, rfl, hp, q⟩ := h
    refine ⟨_, (pss_one (ps_ret (pe_atA Like.refl pas_main (pv 0)))), ?_⟩
    walk_at "go"
    exact s_fld hp T.cl_Bill T.na_Bill_amount look_amount q
def spBiSeats (C : Addr) : Sp := fun vs H Q _ => ∃ p dx t i, vs = [.ref p] ∧ H p = some (.ins C dx [("_amount", .int i), ("_seats", .ref t)]) ∧ Q (.ref t) H
theorem ok_bi_seats (T : Facts K mg a) : FnR P w K mg base (L2.CX P w) 1 a.f_Bill_seats (spBiSeats a.c_Bill) := by
  obtain ⟨fd, F⟩ := T.u_Bill_seats
  refine fnr_ok F sc_Bill_seats (F.binds fun _ _ _ _ _ _ us hl => match us, hl with | [_], _ => rfl) (fun vs H Q E h => ?_) (fun cdv A outer s H vs Q E hr h => ?_)
  · obtain ⟨p, dx, t, i, rfl, _⟩ := h
    rfl
  · obtain ⟨p, dx, t, i, rfl, hp, q⟩ := h
    refine ⟨_, (pss_one (ps_ret (pe_atA Like.refl pas_main (pv 0)))), ?_⟩
    walk_at "go"
    exact s_fld hp T.cl_Bill T.na_Bill_seats look_seats q
def spBiOdd (C : Addr) : Sp := fun vs H Q _ => ∃ p b, vs = [.ref p] ∧ BiAt C H p b ∧ b.2 ≠ [] ∧ Q (.int (b.1 % (b.2.length : Nat))) H
theorem ok_bi_odd (T : Facts K mg a) : FnR P w K mg base (L2.CX P w) 1 a.f_Bill_odd_cents (spBiOdd a.c_Bill) := by
  obtain ⟨fd, F⟩ := T.u_Bill_odd_cents
  refine fnr_ok F sc_Bill_odd_cents (F.binds fun _ _ _ _ _ _ us hl => match us, hl with | [_], _ => rfl) (fun vs H Q E h => ?_) (fun cdv A outer s H vs Q E hr h => ?_)
  · obtain ⟨p, b, rfl, _⟩ := h
    rfl
  · obtain ⟨p, b, rfl, ⟨dx, t, hp, ht⟩, hne, q⟩ := h
    refine ⟨_, (pss_one (ps_ret (pe_opA Like.refl pas_main (pe_atA Like.refl pas_main (pv 0)) (pe_biA (id := "len") Like.refl pas_main (by rfl) (by decide +kernel) (pa_cons (pe_atA Like.refl pas_main (pv 0)) pa_nil))))), ?_⟩
    walk_at "go"
    refine s_fld hp T.cl_Bill T.na_Bill_amount look_amount ?_
    walk_at "go"
    refine s_fld hp T.cl_Bill T.na_Bill_seats look_seats ?_
    walk_at "go"
    refine s_lenT (SqT.of ht) ?_
    rw [List.length_map]
    have := List.length_pos_iff.2 hne
    walk_at "go"
    exact q
def spEvCount (C : Addr) : Sp := fun vs H Q _ => ∃ p dx t i, vs = [.ref p] ∧ H p = some (.ins C dx [("_seat_count", .int i), ("_bills", .ref t)]) ∧ Q (.int i) H
theorem ok_ev_count (T : Facts K mg a) : FnR P w K mg base (L2.CX P w) 1 a.f_Evening_seat_count (spEvCount a.c_Evening) := by
  obtain ⟨fd, F⟩ := T.u_Evening_seat_count
  refine fnr_ok F sc_Evening_seat_count (F.binds fun _ _ _ _ _ _ us hl => match us, hl with | [_], _ => rfl) (fun vs H Q E h => ?_) (fun cdv A outer s H vs Q E hr h => ?_)
  · obtain ⟨p, dx, t, i, rfl, _⟩ := h
    rfl
  · obtain ⟨p, dx, t, i, rfl, hp, q⟩ := h
    refine ⟨_, (pss_one (ps_ret (pe_atA Like.refl pas_main (pv 0)))), ?_⟩
    walk_at "go"
    exact s_fld hp T.cl_Evening T.na_Evening_seat_count look_count q
def spEvBills (C : Addr) : Sp := fun vs H Q _ => ∃ p dx t i, vs = [.ref p] ∧ H p = some (.ins C dx [("_seat_count", .int i), ("_bills", .ref t)]) ∧ Q (.ref t) H
theorem ok_ev_bills (T : Facts K mg a) : FnR P w K mg base (L2.CX P w) 1 a.f_Evening_bills (spEvBills a.c_Evening) := by
  obtain ⟨fd, F⟩ := T.u_Evening_bills
  refine fnr_ok F sc_Evening_bills (F.binds fun _ _ _ _ _ _ us hl => match us, hl with | [_], _ => rfl) (fun vs H Q E h => ?_) (fun cdv A outer s H vs Q E hr h => ?_)
  · obtain ⟨p, dx, t, i, rfl, _⟩ := h
    rfl
  · obtain ⟨p, dx, t, i, rfl, hp, q⟩ := h
    refine ⟨_, (pss_one (ps_ret (pe_atA Like.refl pas_main (pv 0)))), ?_⟩
    walk_at "go"
    exact s_fld hp T.cl_Evening T.na_Evening_bills look_bills q
end

/-! ### making bills and evenings, splitting -/
section
variable {P : Program} {w : World} {K : PySem.W.Frag} {mg : Str → Option Value} {base : Heap} {a : Ad}
theorem put2 {k k1 : Str} {v v1 : V} (h : k1 ≠ k) : putF k v [(k1, v1)] = [(k1, v1), (k, v)] := by
  show (if k1 = k then _ else _) = _
  rw [if_neg h]
  rfl
def spBiInit (C : Addr) : Sp := fun vs H Q _ => ∃ x t dx i ss, vs = [.ref x, .int i, .ref t] ∧ H x = some (.ins C dx []) ∧ H t = some (.tup (ss.map V.int)) ∧ OkBill (i, ss) ∧
  ∀ H', Same H H' → Q .non (upd H' x (.ins C dx [("_amount", .int i), ("_seats", .ref t)]))
abbrev InitB (C : Addr) : Sp := fun vs H Q E => ∃ ws rest, vs = ws ++ rest ∧ ws.length = ["self", "amount"].length ∧ rest.length ≤ sizeLine ∧ ∀ p, H p = Option.none → spBiInit C (ws ++ [V.ref p]) (upd H p (.tup rest)) Q E
theorem ok_bi_init (T : Facts K mg a) : FnR P w K mg base (L2.CX P w) 3 a.f_Bill__init_ (InitB a.c_Bill) := by
  obtain ⟨fd, F⟩ := T.u_Bill__init_
  have GA : FnR P w K mg base (L2.CX P w) 2 a.f_check_amount spCkAmount := ok_check_amount T
  have GS : FnR P w K mg base (L2.CX P w) 2 a.f_check_seats (spCkSeats K) := ok_check_seats T
  refine fnr_star2 (p1 := "self") (p2 := "amount") (pv := "seats") F sc_Bill__init_ (fun _ _ _ _ _ _ _ _ => rfl) (fun _ _ _ _ _ _ _ _ _ _ => rfl) (fun cdv A outer s H vs Q E hr h => ?_)
  obtain ⟨x, t, dx, i, ss, rfl, hx, ht, ⟨o1, o2, o3, o4⟩, q⟩ := h
  refine ⟨_, (pss_cons (ps_expr (pe_glA Like.refl pas_main (by rfl) (pa_cons (pv 1) pa_nil)))
    (pss_cons (ps_expr (pe_glA Like.refl pas_main (by rfl) (pa_cons (pv 2) pa_nil)))
    (pss_cons (ps_fld (pv 0) (pv 1) rfl)
    (pss_one (ps_fld (pv 0) (pv 2) rfl))))), ?_⟩
  walk_at "go"
  refine s_fn GA hr ⟨i, rfl, o1, o2, ?_⟩
  walk_at "go"
  refine s_fn GS hr ⟨t, ss, rfl, SqT.of ht, o3, o4, fun H' s1 => ?_⟩
  walk_at "go"
  with_reducible refine' w_fld ?_
  walk_at "go"
  refine ⟨x, a.c_Bill, dx, [], rfl, s1 _ _ hx, T.cl_Bill, T.na_Bill_amount, by decide, ?_⟩
  with_reducible refine' w_fld ?_
  walk_at "go"
  refine ⟨x, a.c_Bill, dx, _, rfl, upd_same, T.cl_Bill, T.na_Bill_seats, by show 1 < 1000; decide, ?_⟩
  have e : putF "_seats" (V.ref t) [(("_amount" : Str), V.int i)] = [(("_amount" : Str), V.int i), ("_seats", V.ref t)] := put2 (by decide)
  show Q .non (upd (upd H' x (.ins a.c_Bill dx [("_amount", V.int i)])) x (.ins a.c_Bill dx (putF "_seats" (V.ref t) [(("_amount" : Str), V.int i)])))
  rw [e, upd_upd]
  exact q H' s1
/-- Bill(i, *ss) -/
theorem s_bill {X0 : Cx} {E : XK} {H : Hp} {Q : VK} {i : Int} {ss : List Int} (T : Facts X0.K X0.mg a) (F : Fn X0 3 a.f_Bill__init_ (InitB a.c_Bill)) (hr : Room 4 X0.A) (ok : OkBill (i, ss)) (hl : ss.length ≤ 100000)
    (q : ∀ p H', H p = none → Same H H' → BiAt a.c_Bill H' p (i, ss) → Q (.ref p) H') : ∃ r, CaD X0 E (.ref a.c_Bill) r ∧ r (.int i :: ss.map V.int) H Q := by
  refine s_mk T.mk_Bill F hr fun x dx hx hdx hne => ⟨[.ref x, .int i], ss.map V.int, rfl, rfl, by rw [List.length_map]; exact sz5 hl, fun t ht => ?_⟩
  have n1 : t ≠ x := fun z => by subst z; rw [upd_same] at ht; cases ht
  have n2 : t ≠ dx := fun z => by subst z; rw [upd_ne hne, upd_same] at ht; cases ht
  have ht0 := ht
  rw [upd_ne n1, upd_ne n2] at ht
  refine ⟨x, t, dx, i, ss, rfl, ?_, upd_same, ok, fun H' s1 => ⟨rfl, ?_⟩⟩
  · rw [upd_ne n1.symm, upd_same]
  · refine q x _ hx (fun b o e => ?_) ⟨dx, t, upd_same, ?_⟩
    · have nb : b ≠ x := ne_of_none e hx
      rw [upd_ne nb]
      exact s1 _ _ (by rw [upd_ne (ne_of_none e ht), upd_ne nb, upd_ne (ne_of_none e hdx)]; exact e)
    · rw [upd_ne n1]
      exact s1 _ _ upd_same
/-- an evening that is none of the wrong ones -/
def OkEv (n : Nat) (bs : List (Int × List Int)) : Prop := 2 ≤ n ∧ n ≤ 8 ∧ bs.length ≤ 30 ∧ ∀ b ∈ bs, OkBill b ∧ ∀ s ∈ b.2, s < (n : Int)
def spCkBills (K : PySem.W.Frag) (C : Addr) : Sp := fun vs H Q _ => ∃ (n : Nat) (t : Addr) (ps : List Addr) (bs : List (Int × List Int)), vs = [.int n, .ref t] ∧ SqT K H t (ps.map V.ref) ∧ BisAt C H ps bs ∧ OkEv n bs ∧ ∀ H', Same H H' → Q .non H'
theorem ok_check_bills (T : Facts K mg a) : FnR P w K mg base (L2.CX P w) 3 a.f_check_bills (spCkBills K a.c_Bill) := by
  obtain ⟨fd, F⟩ := T.u_check_bills
  have GS : FnR P w K mg base (L2.CX P w) 1 a.f_Bill_seats (spBiSeats a.c_Bill) := ok_bi_seats T
  refine fnr_ok F sc_check_bills (F.binds fun _ _ _ _ _ _ us hl => match us, hl with | [_, _], _ => rfl) (fun vs H Q E h => ?_) (fun cdv A outer s H vs Q E hr h => ?_)
  · obtain ⟨n, t, ps, bs, rfl, _⟩ := h
    rfl
  · obtain ⟨n, t, ps, bs, rfl, ht, hb, ⟨o1, o2, o3, o4⟩, q⟩ := h
    refine ⟨_, (pss_cons (ps_for own_main rfl (pi_enumA (by rfl) T.z_enumerate (pa_cons (pv 1) pa_nil)) (pg_tup rfl (pgs_cons (pg_name (i := 2) sc_check_bills.nd rfl (Or.inl rfl)) (pgs_cons (pg_name (i := 3) sc_check_bills.nd rfl (Or.inl rfl)) pgs_nil))) (pss_one (ps_if (pt_cmpA Like.refl pas_main (pe_ixA Like.refl pas_main (pe_atA Like.refl pas_main (pv 3)) (pe_unA Like.refl pas_main (pe_int))) (pv 0) (nomark _)) (pss_one (ps_never)) pss_nil)))
    (pss_one (ps_if (pt_cmpA Like.refl pas_main (pe_biA (id := "len") Like.refl pas_main (by rfl) (by decide +kernel) (pa_cons (pv 1) pa_nil)) (pe_atA Like.refl pas_main (pe_gvA Like.refl (by rfl))) (nomark _)) (pss_one (ps_never)) pss_nil))), ?_⟩
    walk_at "go"
    refine f_enumT (xs := ps.map V.ref) (a := t) (fun k σ H' => Same H H' ∧ ∃ (x y : Option V), σ = [some (.int n), some (.ref t), x, y]) (fun R k => ?_) ⟨Same.refl _, none, none, rfl⟩ (fun k σ H' _ p => same_t p.1 ht) (fun k x σ H' T2 hx p hT => ?_) (fun σ H' p => ?_)
    · walk_at "go"
      exact k
    · obtain ⟨s1, u, v, rfl⟩ := p
      rw [List.getElem?_map] at hx
      cases e : ps[k]? with
      | none => rw [e] at hx; cases hx
      | some z =>
        rw [e] at hx
        cases hx
        obtain ⟨hk, ez⟩ := List.getElem?_eq_some_iff.1 e
        have hk2 : k < bs.length := by rw [← hb.1]; exact hk
        obtain ⟨dx, t2, h1, h2⟩ := hb.2 k z _ e (List.getElem?_eq_getElem hk2)
        obtain ⟨⟨c1, c2, c3, c4⟩, c5⟩ := o4 _ (List.getElem_mem hk2)
        have s2 : Same H (upd H' T2 (.tup [.int (k : Nat), .ref z])) := s1.trans (same_new hT)
        have hne : (bs[k].2.map V.int) ≠ [] := fun z => c4 (List.map_eq_nil_iff.1 z)
        have hlast := c5 _ (List.getLast_mem c4)
        walk_at "go"
        refine s_prop T.cl_Bill T.pr_Bill_seats GS hr (s2 _ _ h1) ⟨z, dx, t2, _, rfl, s2 _ _ h1, ?_⟩
        walk_at "go"
        refine s_ixT (SqT.of (s2 _ _ h2)) (v := .int (bs[k].2.getLast c4)) (by rw [at_last _ hne, List.getLast_map]) ?_
        walk_at "go"
        rw [decide_eq_false (show ¬ (n : Int) ≤ bs[k].2.getLast c4 by omega)]
        walk_at "go"
        exact ⟨s2, _, _, rfl⟩
    · obtain ⟨s1, u, v, rfl⟩ := p
      walk_at "go"
      refine s_lenT (same_t s1 ht) ?_
      walk_at "go"
      refine s_cval T.cr_Evening T.cv_Evening_MAX_BILLS.choose_spec ?_
      rw [List.length_map]
      have := hb.1
      walk_at "go"
      rw [decide_eq_false (show ¬ (30 : Int) < (ps.length : Nat) by omega)]
      walk_at "go"
      exact q _ s1
def spEvInit (CE CB : Addr) : Sp := fun vs H Q _ => ∃ (x t dx : Addr) (n : Nat) (ps : List Addr) (bs : List (Int × List Int)), vs = [.ref x, .int n, .ref t] ∧ H x = some (.ins CE dx []) ∧ H t = some (.tup (ps.map V.ref)) ∧ BisAt CB H ps bs ∧ OkEv n bs ∧
  ∀ H', Same H H' → Q .non (upd H' x (.ins CE dx [("_seat_count", .int n), ("_bills", .ref t)]))
abbrev InitE (CE CB : Addr) : Sp := fun vs H Q E => ∃ ws rest, vs = ws ++ rest ∧ ws.length = ["self", "seat_count"].length ∧ rest.length ≤ sizeLine ∧ ∀ p, H p = Option.none → spEvInit CE CB (ws ++ [V.ref p]) (upd H p (.tup rest)) Q E
theorem ok_ev_init (T : Facts K mg a) : FnR P w K mg base (L2.CX P w) 4 a.f_Evening__init_ (InitE a.c_Evening a.c_Bill) := by
  obtain ⟨fd, F⟩ := T.u_Evening__init_
  have GA : FnR P w K mg base (L2.CX P w) 2 a.f_check_seat_count spCkCount := ok_check_seat_count T
  have GS : FnR P w K mg base (L2.CX P w) 3 a.f_check_bills (spCkBills K a.c_Bill) := ok_check_bills T
  refine fnr_star2 (p1 := "self") (p2 := "seat_count") (pv := "bills") F sc_Evening__init_ (fun _ _ _ _ _ _ _ _ => rfl) (fun _ _ _ _ _ _ _ _ _ _ => rfl) (fun cdv A outer s H vs Q E hr h => ?_)
  obtain ⟨x, t, dx, n, ps, bs, rfl, hx, ht, hb, ok, q⟩ := h
  refine ⟨_, (pss_cons (ps_expr (pe_glA Like.refl pas_main (by rfl) (pa_cons (pv 1) pa_nil)))
    (pss_cons (ps_expr (pe_glA Like.refl pas_main (by rfl) (pa_cons (pv 1) (pa_cons (pv 2) pa_nil))))
    (pss_cons (ps_fld (pv 0) (pv 1) rfl)
    (pss_one (ps_fld (pv 0) (pv 2) rfl))))), ?_⟩
  walk_at "go"
  refine s_fn GA (hr.mono (by decide)) ⟨n, rfl, by have := ok.1; omega, by have := ok.2.1; omega, ?_⟩
  walk_at "go"
  refine s_fn GS hr ⟨n, t, ps, bs, rfl, SqT.of ht, hb, ok, fun H' s1 => ?_⟩
  walk_at "go"
  with_reducible refine' w_fld ?_
  walk_at "go"
  refine ⟨x, a.c_Evening, dx, [], rfl, s1 _ _ hx, T.cl_Evening, T.na_Evening_seat_count, by decide, ?_⟩
  with_reducible refine' w_fld ?_
  walk_at "go"
  refine ⟨x, a.c_Evening, dx, _, rfl, upd_same, T.cl_Evening, T.na_Evening_bills, by show 1 < 1000; decide, ?_⟩
  have e : putF "_bills" (V.ref t) [(("_seat_count" : Str), V.int (n : Nat))] = [(("_seat_count" : Str), V.int (n : Nat)), ("_bills", V.ref t)] := put2 (by decide)
  show Q .non (upd (upd H' x (.ins a.c_Evening dx [("_seat_count", V.int (n : Nat))])) x (.ins a.c_Evening dx (putF "_bills" (V.ref t) [(("_seat_count" : Str), V.int (n : Nat))])))
  rw [e, upd_upd]
  exact q H' s1
/-- Evening(n, *bills) -/
theorem s_evening {X0 : Cx} {E : XK} {H : Hp} {Q : VK} {n : Nat} {ps : List Addr} {bs : List (Int × List Int)} (T : Facts X0.K X0.mg a) (F : Fn X0 4 a.f_Evening__init_ (InitE a.c_Evening a.c_Bill)) (hr : Room 5 X0.A) (hb : BisAt a.c_Bill H ps bs) (ok : OkEv n bs)
    (q : ∀ p H', H p = none → Same H H' → EvAt a.c_Evening a.c_Bill H' p n bs → Q (.ref p) H') : ∃ r, CaD X0 E (.ref a.c_Evening) r ∧ r (.int (n : Nat) :: ps.map V.ref) H Q := by
  have hps : ps.length ≤ 100000 := by have := ok.2.2.1; rw [hb.1]; omega
  refine s_mk T.mk_Evening F hr fun x dx hx hdx hne => ⟨[.ref x, .int n], ps.map V.ref, rfl, rfl, by rw [List.length_map]; exact sz5 hps, fun t ht => ?_⟩
  have n1 : t ≠ x := fun z => by subst z; rw [upd_same] at ht; cases ht
  have n2 : t ≠ dx := fun z => by subst z; rw [upd_ne hne, upd_same] at ht; cases ht
  rw [upd_ne n1, upd_ne n2] at ht
  have s0 : Same H (upd (upd (upd H dx (.own x)) x (.ins a.c_Evening dx [])) t (.tup (ps.map V.ref))) := fun b o e => by
    rw [upd_ne (ne_of_none e ht), upd_ne (ne_of_none e hx), upd_ne (ne_of_none e hdx)]
    exact e
  refine ⟨x, t, dx, n, ps, bs, rfl, ?_, upd_same, hb.same s0, ok, fun H' s1 => ⟨rfl, ?_⟩⟩
  · rw [upd_ne n1.symm, upd_same]
  · have s2 : Same H (upd H' x (.ins a.c_Evening dx [("_seat_count", .int n), ("_bills", .ref t)])) := fun b o e => by
      rw [upd_ne (ne_of_none e hx)]
      exact s1 _ _ (s0 _ _ e)
    exact q x _ hx s2 ⟨dx, t, ps, upd_same, by rw [upd_ne n1]; exact s1 _ _ upd_same, hb.same s2⟩
/-! the seats behind a mark -/
def behind (m : Int) (ss : List Int) : List Int := ss.filter (fun s => decide (m < s)) ++ ss.filter (fun s => decide (s ≤ m))
def spBehind (K : PySem.W.Frag) : Sp := fun vs H Q _ => ∃ m t ss, vs = [.int m, .ref t] ∧ SqT K H t (ss.map V.int) ∧ ss.length ≤ 1000 ∧ ∀ r H', H r = none → Same H H' → H' r = some (.lst ((behind m ss).map V.int)) → Q (.ref r) H'
theorem filt_step {f : Int → Bool} {ss : List Int} {k : Nat} {z : Int} (e : ss[k]? = some z) : ((ss.take (k + 1)).filter f).map V.int = if f z = true then ((ss.take k).filter f).map V.int ++ [V.int z] else ((ss.take k).filter f).map V.int := by
  rw [List.take_add_one, e, List.filter_append, List.map_append]
  simp only [Option.toList, List.filter_cons, List.filter_nil]
  split <;> simp
theorem ok_seats_behind (T : Facts K mg a) : FnR P w K mg base (L2.CX P w) 1 a.f_seats_behind (spBehind K) := by
  obtain ⟨fd, F⟩ := T.u_seats_behind
  refine fnr_ok F sc_seats_behind (F.binds fun _ _ _ _ _ _ us hl => match us, hl with | [_, _], _ => rfl) (fun vs H Q E h => ?_) (fun cdv A outer s H vs Q E hr h => ?_)
  · obtain ⟨m, t, ss, rfl, _⟩ := h
    rfl
  · obtain ⟨m, t, ss, rfl, ht, hl, q⟩ := h
    have hz : ∀ (f : Int → Bool) k, (((ss.take k).filter f).map V.int).length < 100000 := fun f k => by
      rw [List.length_map]
      have h1 := List.length_filter_le f (ss.take k)
      rw [List.length_take] at h1
      omega
    refine ⟨_, (pss_one (ps_ret (pe_opA Like.refl pas_main (pe_lc (own := [("seat", 2)]) (g := gName 2) (tt := _) rfl sc_seats_behind.nd (pi_seqA Like.refl (pv 1)) (blkOk_by (own := [("seat", 2)]) (N := N_seats_behind) (sc := defScope s_seats_behind) (by decide +kernel)) (fun _ _ _ _ _ => (pg_name (i := 2) sc_seats_behind.nd rfl (by first | exact Or.inl rfl | exact Or.inr rfl))) (fun _ _ _ _ _ => pts_one (pt_cmpA ⟨rfl, rfl, rfl, rfl, rfl, rfl, rfl⟩ passL (pv 2) (pv 0) (nomark _))) (fun _ _ _ _ _ => (pv 2))) (pe_lc (own := [("seat", 2)]) (g := gName 2) (tt := _) rfl sc_seats_behind.nd (pi_seqA Like.refl (pv 1)) (blkOk_by (own := [("seat", 2)]) (N := N_seats_behind) (sc := defScope s_seats_behind) (by decide +kernel)) (fun _ _ _ _ _ => (pg_name (i := 2) sc_seats_behind.nd rfl (by first | exact Or.inl rfl | exact Or.inr rfl))) (fun _ _ _ _ _ => pts_one (pt_cmpA ⟨rfl, rfl, rfl, rfl, rfl, rfl, rfl⟩ passL (pv 2) (pv 0) (nomark _))) (fun _ _ _ _ _ => (pv 2)))))), ?_⟩
    refine w_ret (w_op ?_)
    refine c_tup (a := t) (xs := ss.map V.int) (fun k => ((ss.take k).filter fun s => decide (m < s)).map V.int) rfl (fun k _ => hz _ k) ht (fun _ => rfl) (fun k x H' hx s1 => ?_) (fun r H' hr0 s1 hL => ?_) (fun R k => ?_)
    · rw [List.getElem?_map] at hx
      cases e : ss[k]? with
      | none => rw [e] at hx; cases hx
      | some z =>
        rw [e] at hx
        cases hx
        show Turn1 _ _ _ _ (((ss.take k).filter fun s => decide (m < s)).map V.int) (((ss.take (k + 1)).filter fun s => decide (m < s)).map V.int)
        rw [filt_step e]
        refine turn1_filter (fun R hR => ?_) (fun _ H3 _ R hR => ?_)
        · walk_at "go"
          exact hR _ (Same.refl _)
        · walk_at "go"
          exact hR _ (Same.refl _)
    · rw [List.length_map, List.take_of_length_le (Nat.le_refl _)] at hL
      refine c_tup (a := t) (xs := ss.map V.int) (fun k => ((ss.take k).filter fun s => decide (s ≤ m)).map V.int) rfl (fun k _ => hz _ k) (same_t s1 ht) (fun _ => rfl) (fun k x H2 hx s2 => ?_) (fun r2 H2 hr2 s2 hL2 => ?_) (fun R k => ?_)
      · rw [List.getElem?_map] at hx
        cases e : ss[k]? with
        | none => rw [e] at hx; cases hx
        | some z =>
          rw [e] at hx
          cases hx
          show Turn1 _ _ _ _ (((ss.take k).filter fun s => decide (s ≤ m)).map V.int) (((ss.take (k + 1)).filter fun s => decide (s ≤ m)).map V.int)
          rw [filt_step e]
          refine turn1_filter (fun R hR => ?_) (fun _ H3 _ R hR => ?_)
          · walk_at "go"
            exact hR _ (Same.refl _)
          · walk_at "go"
            exact hR _ (Same.refl _)
      · rw [List.length_map, List.take_of_length_le (Nat.le_refl _)] at hL2
        have l1 := List.length_filter_le (fun s => decide (m < s)) ss
        have l2 := List.length_filter_le (fun s => decide (s ≤ m)) ss
        refine s_cat (s2 _ _ hL) hL2 (by rw [List.length_map, List.length_map]; exact sz5 (by omega)) fun p hp => ?_
        refine q p _ (s1.free (s2.free hp)) ((s1.trans s2).trans (same_new hp)) ?_
        rw [upd_same, ← List.map_append]
        rfl
      · walk_at "go"
        exact k
    · walk_at "go"
      exact k
def spNoShares (C : Addr) : Sp := fun vs H Q _ => ∃ n : Nat, vs = [.int n] ∧ n ≤ 1000 ∧ ∀ r H', H r = none → Same H H' → ShAt C H' r (List.replicate n 0) → Q (.ref r) H'
theorem ok_no_shares (T : Facts K mg a) : FnR P w K mg base (L2.CX P w) 3 a.f_no_shares (spNoShares a.c_Shares) := by
  obtain ⟨fd, F⟩ := T.u_no_shares
  have GI : FnR P w K mg base (L2.CX P w) 1 a.f_Shares__init_ (InitSp a.c_Shares) := ok_sh_init T
  refine fnr_ok F sc_no_shares (F.binds fun _ _ _ _ _ _ us hl => match us, hl with | [_], _ => rfl) (fun vs H Q E h => ?_) (fun cdv A outer s H vs Q E hr h => ?_)
  · obtain ⟨n, rfl, _⟩ := h
    rfl
  · obtain ⟨n, rfl, hn, q⟩ := h
    refine ⟨_, (pss_cons (ps_set (i := 1) sc_no_shares.nd rfl (Or.inl rfl) (pe_opA Like.refl pas_main (pe_lst (pa_cons (pe_int) pa_nil)) (pv 0)))
    (pss_one (ps_ret (pe_glS Like.refl pas_main (by rfl) (pv 1))))), ?_⟩
    walk_at "go"
    refine ⟨by show 1 ≤ sizeLine; decide, fun c hc => ?_⟩
    walk_at "go"
    refine s_rep upd_same (by omega) (by omega) (sz5 (by simp; omega)) fun d hd => ?_
    walk_at "go"
    refine ⟨d, (List.replicate n 0).map V.int, rfl, .inr (SqL.of (by rw [upd_same, flat1, List.map_replicate, Int.toNat_natCast])), ?_⟩
    have s1 := same_new (o := .lst [.int 0]) hc
    have s2 := same_new (o := .lst (List.replicate (n : Int).toNat [V.int 0]).flatten) hd
    exact s_shares T GI hr (by rw [List.length_replicate]; omega) fun p' H2 hp' s3 sh => q p' H2 (s1.free (s2.free hp')) ((s1.trans s2).trans s3) sh
end

/-! ### splitting a bill, an evening -/
section
variable {P : Program} {w : World} {K : PySem.W.Frag} {mg : Str → Option Value} {base : Heap} {a : Ad}
/-- q for each seat of ss, 0 for others -/
def baseC (n : Nat) (q : Int) (ss : List Int) : List Int := ss.foldl (fun c s => c.set s.toNat q) (List.replicate n 0)
/-- one more for each of ps -/
def bumps (c ps : List Int) : List Int := ps.foldl (fun c s => c.set s.toNat (c.getD s.toNat 0 + 1)) c
theorem foldl_len {α β : Type} {f : List α → β → List α} (h : ∀ c s, (f c s).length = c.length) : ∀ (l : List β) (c : List α), (l.foldl f c).length = c.length
  | [], _ => rfl
  | s :: l, c => by rw [List.foldl_cons, foldl_len h l, h]
theorem baseC_len (n : Nat) (q : Int) (ss : List Int) : (baseC n q ss).length = n := by
  unfold baseC
  rw [foldl_len (fun c s => List.length_set), List.length_replicate]
theorem bumps_len (c ps : List Int) : (bumps c ps).length = c.length := foldl_len (fun c s => List.length_set) ps c
theorem baseC_snoc (n : Nat) (q : Int) (l : List Int) (z : Int) : baseC n q (l ++ [z]) = (baseC n q l).set z.toNat q := by
  unfold baseC
  rw [List.foldl_append, List.foldl_cons, List.foldl_nil]
theorem bumps_snoc (c l : List Int) (z : Int) : bumps c (l ++ [z]) = (bumps c l).set z.toNat ((bumps c l).getD z.toNat 0 + 1) := by
  unfold bumps
  rw [List.foldl_append, List.foldl_cons, List.foldl_nil]
/-- who pays the odd cents -/
def payers (m : Int) (b : Int × List Int) : List Int := (behind m b.2).take (b.1 % (b.2.length : Nat)).toNat
def splitC (n : Nat) (m : Int) (b : Int × List Int) : List Int := bumps (baseC n (b.1 / (b.2.length : Nat)) b.2) (payers m b)
def splitM (m : Int) (b : Int × List Int) : Int := (payers m b).getLastD m
theorem splitC_len (n : Nat) (m : Int) (b : Int × List Int) : (splitC n m b).length = n := by
  unfold splitC
  rw [bumps_len, baseC_len]
theorem cutV_to (xs : List V) {i : Int} (h : 0 ≤ i) : cutV xs none (some i) = xs.take i.toNat := by
  have e : HT.sIx xs.length xs.length (some i) = min i.toNat xs.length := by
    show (if i < 0 then _ else _) = _
    rw [if_neg (by omega)]
  unfold cutV
  rw [e]
  show (xs.drop 0).take (min i.toNat xs.length - 0) = _
  rw [List.drop_zero, Nat.sub_zero, ← List.take_eq_take_min]
theorem s_iadd {X0 : Cx} {E : XK} {H : Hp} {Q : VK} {i j : Int} (q : Q (.int (i + j)) H) : ∃ r, OpD X0 E (inplaceOp .Add) r ∧ r (.int i) (.int j) H Q :=
  ⟨_, fun X _ _ pins s σ H x y v u Q I rx ry h => ip_add pins s σ H x y v u Q I rx ry h, i, j, rfl, rfl, q⟩
theorem w_slt {r : V → Option Int → Option Int → Hp → VK → Prop} {te tu : TE} {σ : L2.St} {H : Hp} {Q : VK} (h : te σ H fun x H1 => tu σ H1 fun y H2 => ∃ i, y = .int i ∧ r x none (some i) H2 Q) : tSl r te tNoPart (tPart tu) σ H Q := h
def spSplit (CB CS : Addr) : Sp := fun vs H Q _ => ∃ (p : Addr) (m : Int) (n : Nat) (b : Int × List Int), vs = [.ref p, .int m, .int n] ∧ BiAt CB H p b ∧ OkBill b ∧ n ≤ 8 ∧ (∀ s ∈ b.2, s < (n : Int)) ∧
  ∀ T r H', H T = none → Same H H' → H' T = some (.tup [.ref r, .int (splitM m b)]) → ShAt CS H' r (splitC n m b) → Q (.ref T) H'
theorem asc_ge : ∀ {ss : List Int} {lo : Int}, asc lo ss = true → ∀ s ∈ ss, lo ≤ s ∧ s ≤ 7
  | [], _, _, s, h => by simp at h
  | x :: ss, lo, h, s, hs => by
    simp only [asc, Bool.and_eq_true, decide_eq_true_eq] at h
    rcases List.mem_cons.1 hs with e | e
    · rw [e]; exact ⟨h.1.1, h.1.2⟩
    · have := asc_ge h.2 s e
      omega
theorem ixN_of {n : Nat} {i : Int} (h0 : 0 ≤ i) (h1 : i < (n : Int)) : ixN n i = some i.toNat := by
  unfold ixN
  rw [if_pos h0, if_pos h1]
theorem asc_len : ∀ {ss : List Int} {lo : Int}, asc lo ss = true → 0 ≤ lo → (ss.length : Int) ≤ 8 - lo ∨ ss = []
  | [], _, _, _ => .inr rfl
  | x :: ss, lo, h, h0 => by
    simp only [asc, Bool.and_eq_true, decide_eq_true_eq] at h
    refine .inl ?_
    rcases asc_len h.2 (by omega) with e | e
    · rw [List.length_cons]; omega
    · subst e; show (((0 : Nat) + 1 : Nat) : Int) ≤ _; omega
theorem ok_len {b : Int × List Int} (h : OkBill b) : b.2.length ≤ 8 := by
  rcases asc_len h.2.2.1 (Int.le_refl _) with e | e
  · omega
  · rw [e]; exact Nat.zero_le _
theorem ok_split (T : Facts K mg a) : FnR P w K mg base (L2.CX P w) 3 a.f_split_bill (spSplit a.c_Bill a.c_Shares) := by
  obtain ⟨fd, F⟩ := T.u_split_bill
  have GI : FnR P w K mg base (L2.CX P w) 1 a.f_Shares__init_ (InitSp a.c_Shares) := ok_sh_init T
  have GS : FnR P w K mg base (L2.CX P w) 1 a.f_Bill_seats (spBiSeats a.c_Bill) := ok_bi_seats T
  have GA : FnR P w K mg base (L2.CX P w) 1 a.f_Bill_amount (spBiAmount a.c_Bill) := ok_bi_amount T
  have GO : FnR P w K mg base (L2.CX P w) 1 a.f_Bill_odd_cents (spBiOdd a.c_Bill) := ok_bi_odd T
  have GB : FnR P w K mg base (L2.CX P w) 1 a.f_seats_behind (spBehind K) := ok_seats_behind T
  refine fnr_ok F sc_split_bill (F.binds fun _ _ _ _ _ _ us hl => match us, hl with | [_, _, _], _ => rfl) (fun vs H Q E h => ?_) (fun cdv A outer s H vs Q E hr h => ?_)
  · obtain ⟨p, m, n, b, rfl, _⟩ := h
    rfl
  · obtain ⟨p, m, n, b, rfl, hb, ok, hn, hs, q⟩ := h
    obtain ⟨dx, t, h1, h2⟩ := id hb
    have hl := ok_len ok
    have hpos := List.length_pos_iff.2 ok.2.2.2
    have hseat : ∀ s ∈ b.2, 0 ≤ s ∧ s < (n : Int) := fun s hm => ⟨(asc_ge ok.2.2.1 s hm).1, hs s hm⟩
    refine ⟨_, (pss_cons (ps_set (i := 3) sc_split_bill.nd rfl (Or.inl rfl) (pe_opA Like.refl pas_main (pe_lst (pa_cons (pe_int) pa_nil)) (pv 2)))
    (pss_cons (ps_for own_main rfl (pi_seqA Like.refl (pe_atA Like.refl pas_main (pv 0))) (pg_name (i := 4) sc_split_bill.nd rfl (Or.inl rfl)) (pss_one (ps_asg (pe_opA Like.refl pas_main (pe_atA Like.refl pas_main (pv 0)) (pe_biA (id := "len") Like.refl pas_main (by rfl) (by decide +kernel) (pa_cons (pe_atA Like.refl pas_main (pv 0)) pa_nil))) (pg_sub (pv 3) (pv 4) set_list))))
    (pss_cons (ps_for own_main rfl (pi_seqA Like.refl (pe_slice sl_list (pe_glA Like.refl pas_main (by rfl) (pa_cons (pv 1) (pa_cons (pe_atA Like.refl pas_main (pv 0)) pa_nil))) po_none (po_some (pe_atA Like.refl pas_main (pv 0))))) (pg_name (i := 4) sc_split_bill.nd rfl (Or.inl rfl)) (pss_cons (ps_agS Like.refl pas_main (pv 3) (pv 4) (pe_int))
    (pss_one (ps_set (i := 1) sc_split_bill.nd rfl (Or.inl rfl) (pv 4)))))
    (pss_one (ps_ret (pe_tup (pa_cons (pe_glS Like.refl pas_main (by rfl) (pv 3)) (pa_cons (pv 1) pa_nil)))))))), ?_⟩
    walk_at "go"
    refine ⟨by show 1 ≤ sizeLine; decide, fun c0 hc0 => ?_⟩
    walk_at "go"
    refine s_rep upd_same (by omega) (by omega) (sz5 (by simp; omega)) fun c hc => ?_
    rw [flat1, Int.toNat_natCast]
    have s1 := same_new (o := .lst [.int 0]) hc0
    have s2 := same_new (o := .lst (List.replicate n (V.int 0))) hc
    have hcH : H c = none := s1.free hc
    walk_at "go"
    refine f_tup (a := t) (xs := b.2.map V.int) (fun k σ H' => Same H H' ∧ H' c = some (.lst ((baseC n (b.1 / (b.2.length : Nat)) (b.2.take k)).map V.int)) ∧ ∃ x, σ = [some (.ref p), some (.int m), some (.int n), some (.ref c), x]) (fun R k => ?_)
      ⟨s1.trans s2, by rw [upd_same, List.take_zero]; show _ = some (HO.lst ((List.replicate n 0).map V.int)); rw [List.map_replicate], none, rfl⟩ (fun k σ H' _ p => same_t p.1 (SqT.of h2)) (fun k x σ H' hx pv => ?_) (fun σ H' pv => ?_)
    · walk_at "go"
      exact s_prop T.cl_Bill T.pr_Bill_seats GS (hr.mono (by decide)) ((s1.trans s2) _ _ h1) ⟨p, dx, t, _, rfl, (s1.trans s2) _ _ h1, k⟩
    · obtain ⟨s3, hcc, u, rfl⟩ := pv
      rw [List.getElem?_map] at hx
      cases e : b.2[k]? with
      | none => rw [e] at hx; cases hx
      | some z =>
        rw [e] at hx
        cases hx
        have hz := hseat z (List.mem_of_getElem? e)
        refine w_name ?_
        walk_at "go"
        refine s_prop T.cl_Bill T.pr_Bill_amount GA (hr.mono (by decide)) (s3 _ _ h1) ⟨p, dx, t, _, rfl, s3 _ _ h1, ?_⟩
        walk_at "go"
        refine s_prop T.cl_Bill T.pr_Bill_seats GS (hr.mono (by decide)) (s3 _ _ h1) ⟨p, dx, t, _, rfl, s3 _ _ h1, ?_⟩
        walk_at "go"
        refine s_lenT (SqT.of (s3 _ _ h2)) ?_
        rw [List.length_map]
        refine s_fdivW (wide_div (b := 40) (by omega) (by omega) (by decide) (by decide)) ?_
        refine w_gsub ?_
        walk_at "go"
        refine s_setL hcc (ixN_of hz.1 (by rw [List.length_map, baseC_len]; exact hz.2)) ?_
        walk_at "go"
        refine ⟨same_mut s3 hcH, ?_, _, rfl⟩
        rw [upd_same, List.take_add_one, e]
        show _ = some (HO.lst ((baseC n (b.1 / (b.2.length : Nat)) (b.2.take k ++ [z])).map V.int))
        rw [baseC_snoc, List.map_set]
    · obtain ⟨s3, hcc, u, rfl⟩ := pv
      rw [List.length_map, List.take_of_length_le (Nat.le_refl _)] at hcc
      walk_at "go"
      refine w_for (w_isq (w_slt ?_))
      walk_at "go"
      refine s_prop T.cl_Bill T.pr_Bill_seats GS (hr.mono (by decide)) (s3 _ _ h1) ⟨p, dx, t, _, rfl, s3 _ _ h1, ?_⟩
      walk_at "go"
      refine s_fn GB (hr.mono (by decide)) ⟨m, t, b.2, rfl, SqT.of (s3 _ _ h2), by omega, fun l H4 hl0 s4 hL => ?_⟩
      walk_at "go"
      refine s_prop T.cl_Bill T.pr_Bill_odd_cents GO (hr.mono (by decide)) ((s3.trans s4) _ _ h1) ⟨p, b, rfl, hb.same (s3.trans s4), ok.2.2.2, ?_⟩
      have hodd : 0 ≤ b.1 % (b.2.length : Nat) := Int.emod_nonneg _ (by omega)
      refine ⟨_, rfl, l, _, rfl, SqL.of hL, fun l2 hl2 => ?_⟩
      rw [cutV_to _ hodd, ← List.map_take]
      have s5 := same_new (o := .lst (((behind m b.2).take (b.1 % (b.2.length : Nat)).toNat).map V.int)) hl2
      have hl2c : l2 ≠ c := fun z => by
        rw [z, s4 _ _ hcc] at hl2
        cases hl2
      have hpay : ∀ s ∈ payers m b, 0 ≤ s ∧ s < (n : Int) := fun s hm => by
        have h3 := List.mem_of_mem_take hm
        rcases List.mem_append.1 h3 with h4 | h4
        · exact hseat s (List.mem_filter.1 h4).1
        · exact hseat s (List.mem_filter.1 h4).1
      refine ⟨l2, rfl, .inl ⟨⟨_, SqL.of upd_same⟩, for_list (xs := (payers m b).map V.int) (fun k σ H' => Same H H' ∧ H' l2 = some (.lst ((payers m b).map V.int)) ∧ H' c = some (.lst ((bumps (baseC n (b.1 / (b.2.length : Nat)) b.2) ((payers m b).take k)).map V.int)) ∧
        ∃ x, σ = [some (.ref p), some (.int (((payers m b).take k).getLastD m)), some (.int n), some (.ref c), x]) ⟨(s3.trans s4).trans s5, upd_same, by rw [upd_ne hl2c.symm]; exact s4 _ _ hcc, _, rfl⟩ (fun k σ H' _ pv => SqL.of pv.2.1) (fun k x σ H' hx pv => ?_) (fun σ H' pv => ?_)⟩⟩
      · obtain ⟨s6, hl6, hc6, v, rfl⟩ := pv
        rw [List.getElem?_map] at hx
        cases e : (payers m b)[k]? with
        | none => rw [e] at hx; cases hx
        | some z =>
          rw [e] at hx
          cases hx
          have hz := hpay z (List.mem_of_getElem? e)
          have hlen : (bumps (baseC n (b.1 / (b.2.length : Nat)) b.2) ((payers m b).take k)).length = n := by rw [bumps_len, baseC_len]
          have hz2 : z.toNat < (bumps (baseC n (b.1 / (b.2.length : Nat)) b.2) ((payers m b).take k)).length := by omega
          refine w_name ?_
          walk_at "go"
          refine w_agS (K := K) ?_
          walk_at "go"
          refine s_getL (SqL.of hc6) hz.1 (v := .int ((bumps (baseC n (b.1 / (b.2.length : Nat)) b.2) ((payers m b).take k)).getD z.toNat 0)) (by rw [List.getElem?_map, List.getD_eq_getElem?_getD, List.getElem?_eq_getElem hz2] <;> rfl) ?_
          walk_at "go"
          refine s_iadd ?_
          refine s_setL hc6 (ixN_of hz.1 (by rw [List.length_map, hlen]; exact hz.2)) ?_
          walk_at "go"
          refine ⟨same_mut s6 hcH, by rw [upd_ne hl2c]; exact hl6, ?_, some (.int z), ?_⟩
          · rw [upd_same, List.take_add_one, e]
            show _ = some (HO.lst ((bumps (baseC n (b.1 / (b.2.length : Nat)) b.2) ((payers m b).take k ++ [z])).map V.int))
            rw [bumps_snoc, List.map_set]
          · rw [List.take_add_one, e]
            show _ = [some (V.ref p), some (V.int (((payers m b).take k ++ [z]).getLastD m)), some (V.int (n : Nat)), some (V.ref c), some (V.int z)]
            rw [List.getLastD_concat]
            rfl
      · obtain ⟨s6, hl6, hc6, v, rfl⟩ := pv
        rw [List.length_map, List.take_of_length_le (Nat.le_refl _)] at hc6
        rw [List.length_map, List.take_of_length_le (Nat.le_refl _)]
        walk_at "go"
        refine ⟨c, (splitC n m b).map V.int, rfl, .inr (SqL.of hc6), ?_⟩
        refine s_shares T GI (hr.mono (by decide)) (by rw [splitC_len]; omega) fun r H7 hr7 s7 sh => ?_
        walk_at "go"
        refine ⟨by show 2 ≤ sizeLine; decide, fun T2 hT2 => ?_⟩
        exact q T2 r _ (s6.free (s7.free hT2)) ((s6.trans s7).trans (same_new hT2)) upd_same (sh.same (same_new hT2))
/-- an evening's cents and the mark afterwards -/
def evRun (n : Nat) (m : Int) (bs : List (Int × List Int)) : List Int × Int := bs.foldl (fun x b => (List.zipWith (· + ·) x.1 (splitC n x.2 b), splitM x.2 b)) (List.replicate n 0, m)
theorem evRun_snoc (n : Nat) (m : Int) (bs : List (Int × List Int)) (b : Int × List Int) : evRun n m (bs ++ [b]) = (List.zipWith (· + ·) (evRun n m bs).1 (splitC n (evRun n m bs).2 b), splitM (evRun n m bs).2 b) := by
  unfold evRun
  rw [List.foldl_append, List.foldl_cons, List.foldl_nil]
theorem evRun_len (n : Nat) (m : Int) (bs : List (Int × List Int)) : (evRun n m bs).1.length = n := by
  have h : ∀ (bs : List (Int × List Int)) (x : List Int × Int), x.1.length = n → (bs.foldl (fun x b => (List.zipWith (· + ·) x.1 (splitC n x.2 b), splitM x.2 b)) x).1.length = n := fun bs => by
    induction bs with
    | nil => exact fun x h => h
    | cons b bs ih => exact fun x h => ih _ (by rw [List.length_zipWith, splitC_len, h, Nat.min_self])
  exact h bs _ List.length_replicate
def spEvCall (CE CB CS : Addr) : Sp := fun vs H Q _ => ∃ (p : Addr) (m : Int) (n : Nat) (bs : List (Int × List Int)), vs = [.ref p, .int m] ∧ EvAt CE CB H p n bs ∧ OkEv n bs ∧ 0 ≤ m ∧ m < (n : Int) ∧
  ∀ T r H', H T = none → Same H H' → H' T = some (.tup [.ref r, .int (evRun n m bs).2]) → ShAt CS H' r (evRun n m bs).1 → Q (.ref T) H'
theorem ok_ev_call (T : Facts K mg a) : FnR P w K mg base (L2.CX P w) 4 a.f_Evening__call_ (spEvCall a.c_Evening a.c_Bill a.c_Shares) := by
  obtain ⟨fd, F⟩ := T.u_Evening__call_
  have GM : FnR P w K mg base (L2.CX P w) 2 a.f_check_mark spCkMark := ok_check_mark T
  have GN : FnR P w K mg base (L2.CX P w) 3 a.f_no_shares (spNoShares a.c_Shares) := ok_no_shares T
  have GS : FnR P w K mg base (L2.CX P w) 3 a.f_split_bill (spSplit a.c_Bill a.c_Shares) := ok_split T
  have GA : FnR P w K mg base (L2.CX P w) 3 a.f_Shares__add_ (spShAdd a.c_Shares a.c_OtherTable) := ok_sh_add T
  refine fnr_ok F sc_Evening__call_ (F.binds fun _ _ _ _ _ _ us hl => match us, hl with | [_, _], _ => rfl) (fun vs H Q E h => ?_) (fun cdv A outer s H vs Q E hr h => ?_)
  · obtain ⟨p, m, n, bs, rfl, _⟩ := h
    rfl
  · obtain ⟨p, m, n, bs, rfl, he, ok, h0, h1, q⟩ := h
    obtain ⟨dx, t, ps, e1, e2, e3⟩ := id he
    have hn : n ≤ 8 := ok.2.1
    refine ⟨_, (pss_cons (ps_expr (pe_glA Like.refl pas_main (by rfl) (pa_cons (pv 1) (pa_cons (pe_atA Like.refl pas_main (pv 0)) pa_nil))))
    (pss_cons (ps_set (i := 2) sc_Evening__call_.nd rfl (Or.inl rfl) (pe_glA Like.refl pas_main (by rfl) (pa_cons (pe_atA Like.refl pas_main (pv 0)) pa_nil)))
    (pss_cons (ps_for own_main rfl (pi_seqA Like.refl (pe_atA Like.refl pas_main (pv 0))) (pg_name (i := 3) sc_Evening__call_.nd rfl (Or.inl rfl)) (pss_cons (ps_asg (pe_glA Like.refl pas_main (by rfl) (pa_cons (pv 3) (pa_cons (pv 1) (pa_cons (pe_atA Like.refl pas_main (pv 0)) pa_nil)))) (pg_tup rfl (pgs_cons (pg_name (i := 4) sc_Evening__call_.nd rfl (Or.inl rfl)) (pgs_cons (pg_name (i := 1) sc_Evening__call_.nd rfl (Or.inl rfl)) pgs_nil))))
    (pss_one (ps_set (i := 2) sc_Evening__call_.nd rfl (Or.inl rfl) (pe_opA Like.refl pas_main (pv 2) (pv 4))))))
    (pss_one (ps_ret (pe_tup (pa_cons (pv 2) (pa_cons (pv 1) pa_nil)))))))), ?_⟩
    walk_at "go"
    refine s_fld e1 T.cl_Evening T.na_Evening_seat_count look_count ?_
    walk_at "go"
    refine s_fn GM (hr.mono (by decide)) ⟨m, n, rfl, h0, h1, ?_⟩
    walk_at "go"
    refine s_fld e1 T.cl_Evening T.na_Evening_seat_count look_count ?_
    walk_at "go"
    refine s_fn GN (hr.mono (by decide)) ⟨n, rfl, by omega, fun r H1 hr1 s1 sh1 => ?_⟩
    walk_at "go"
    refine f_tup (a := t) (xs := ps.map V.ref) (fun k σ H' => Same H H' ∧ ∃ r x y, ShAt a.c_Shares H' r (evRun n m (bs.take k)).1 ∧ σ = [some (.ref p), some (.int (evRun n m (bs.take k)).2), some (.ref r), x, y]) (fun R k => ?_)
      ⟨s1, r, none, none, by rw [List.take_zero]; exact sh1, by rw [List.take_zero] <;> rfl⟩ (fun k σ H' _ pv => same_t pv.1 (SqT.of e2)) (fun k x σ H' hx pv => ?_) (fun σ H' pv => ?_)
    · walk_at "go"
      exact s_fld (s1 _ _ e1) T.cl_Evening T.na_Evening_bills look_bills k
    · obtain ⟨s2, r2, x1, x2, sh2, rfl⟩ := pv
      rw [List.getElem?_map] at hx
      cases e : ps[k]? with
      | none => rw [e] at hx; cases hx
      | some z =>
        rw [e] at hx
        cases hx
        obtain ⟨hk, ez⟩ := List.getElem?_eq_some_iff.1 e
        have hk2 : k < bs.length := by rw [← e3.1]; exact hk
        have eb := List.getElem?_eq_getElem hk2
        obtain ⟨ob, os⟩ := ok.2.2.2 _ (List.getElem_mem hk2)
        refine w_name ?_
        walk_at "go"
        refine s_fld (s2 _ _ e1) T.cl_Evening T.na_Evening_seat_count look_count ?_
        walk_at "go"
        refine s_fn GS (hr.mono (by decide)) ⟨z, _, n, bs[k], rfl, (e3.2 k z _ e eb).same s2, ob, hn, os, fun T2 r3 H3 hT2 s3 hT3 sh3 => ?_⟩
        refine g_pair (SqT.of hT3) ?_
        walk_at "go"
        obtain ⟨d1, t1, i1, i2⟩ := id sh2
        obtain ⟨d2, t2, j1, j2⟩ := id sh3
        have hl1 : (evRun n m (bs.take k)).1.length = n := evRun_len ..
        refine s_opSame T.sf_Shares T.m_Shares__add_ (by decide +kernel) GA (hr.mono (by decide)) (s3 _ _ i1) j1 ⟨r2, r3, _, _, rfl, sh2.same s3, sh3, by rw [hl1]; omega, fun hh r4 H4 hr4 s4 sh4 => ?_, fun hh => ?_⟩
        · walk_at "go"
          refine ⟨(s2.trans s3).trans s4, r4, some (.ref z), some (.ref r3), ?_, ?_⟩
          · rw [List.take_add_one, eb]
            show ShAt _ _ _ (evRun n m (bs.take k ++ [bs[k]])).1
            rw [evRun_snoc]
            exact sh4
          · rw [List.take_add_one, eb]
            show _ = [some (V.ref p), some (V.int (evRun n m (bs.take k ++ [bs[k]])).2), _, _, _]
            rw [evRun_snoc]
            rfl
        · rw [splitC_len] at hh
          exact absurd hl1 hh
    · obtain ⟨s2, r2, x1, x2, sh2, rfl⟩ := pv
      rw [List.length_map, e3.1, List.take_of_length_le (Nat.le_refl _)] at sh2
      rw [List.length_map, e3.1, List.take_of_length_le (Nat.le_refl _)]
      walk_at "go"
      refine ⟨by show 2 ≤ sizeLine; decide, fun T2 hT2 => ?_⟩
      exact q T2 r2 _ (s2.free hT2) (s2.trans (same_new hT2)) upd_same (sh2.same (same_new hT2))
theorem BisAt.app {C : Addr} {H : Hp} {ps qs : List Addr} {bs cs : List (Int × List Int)} (h : BisAt C H ps bs) (h' : BisAt C H qs cs) : BisAt C H (ps ++ qs) (bs ++ cs) := by
  refine ⟨by rw [List.length_append, List.length_append, h.1, h'.1], fun i p b e1 e2 => ?_⟩
  by_cases hi : i < ps.length
  · rw [List.getElem?_append_left hi] at e1
    rw [List.getElem?_append_left (by rw [← h.1]; exact hi)] at e2
    exact h.2 i p b e1 e2
  · rw [List.getElem?_append_right (by omega)] at e1
    rw [List.getElem?_append_right (by rw [← h.1]; omega), ← h.1] at e2
    exact h'.2 _ p b e1 e2
def spEvAdd (CE CB : Addr) : Sp := fun vs H Q _ => ∃ (p q : Addr) (n : Nat) (bs cs : List (Int × List Int)), vs = [.ref p, .ref q] ∧ EvAt CE CB H p n bs ∧ EvAt CE CB H q n cs ∧ OkEv n (bs ++ cs) ∧
  ∀ r H', H r = none → Same H H' → EvAt CE CB H' r n (bs ++ cs) → Q (.ref r) H'
theorem ok_ev_add (T : Facts K mg a) : FnR P w K mg base (L2.CX P w) 6 a.f_Evening__add_ (spEvAdd a.c_Evening a.c_Bill) := by
  obtain ⟨fd, F⟩ := T.u_Evening__add_
  have GI : FnR P w K mg base (L2.CX P w) 4 a.f_Evening__init_ (InitE a.c_Evening a.c_Bill) := ok_ev_init T
  refine fnr_ok F sc_Evening__add_ (F.binds fun _ _ _ _ _ _ us hl => match us, hl with | [_, _], _ => rfl) (fun vs H Q E h => ?_) (fun cdv A outer s H vs Q E hr h => ?_)
  · obtain ⟨p, q, n, bs, cs, rfl, _⟩ := h
    rfl
  · obtain ⟨p, q, n, bs, cs, rfl, hp, hq, ok, k⟩ := h
    obtain ⟨dx, t, ps, e1, e2, e3⟩ := id hp
    obtain ⟨dy, u, qs, f1, f2, f3⟩ := id hq
    have hl := ok.2.2.1
    rw [List.length_append] at hl
    have l1 := e3.1
    have l2 := f3.1
    refine ⟨_, (pss_cons (ps_if (pt_cmpA Like.refl pas_main (pe_atA Like.refl pas_main (pv 0)) (pe_atA Like.refl pas_main (pv 1)) (nomark _)) (pss_one (ps_raA rfl tk_main (by rfl))) pss_nil)
    (pss_cons (ps_set (i := 2) sc_Evening__add_.nd rfl (Or.inl rfl) (pe_opA Like.refl pas_main (pe_atA Like.refl pas_main (pv 0)) (pe_atA Like.refl pas_main (pv 1))))
    (pss_one (ps_ret (pe_glS2 Like.refl pas_main (by rfl) (pa_cons (pe_atA Like.refl pas_main (pv 0)) (pa_starA Like.refl (pv 2) pa_nil))))))), ?_⟩
    walk_at "go"
    refine s_fld e1 T.cl_Evening T.na_Evening_seat_count look_count ?_
    walk_at "go"
    refine s_fld f1 T.cl_Evening T.na_Evening_seat_count look_count ?_
    walk_at "go"
    rw [decide_eq_true rfl]
    walk_at "go"
    refine s_fld e1 T.cl_Evening T.na_Evening_bills look_bills ?_
    walk_at "go"
    refine s_fld f1 T.cl_Evening T.na_Evening_bills look_bills ?_
    have fin : ∀ (b : Addr) (H1 : Hp), Same H H1 → SqT K H1 b ((ps ++ qs).map V.ref) → (tRet (tGlA (cxOf (L2.CX P w) P w K mg base N_Evening__add_ "Evening.__add__" (defScope s_Evening__add_) a.f_Evening__add_ cdv A outer s H E) E "Evening" (tCons (tAtA (cxOf (L2.CX P w) P w K mg base N_Evening__add_ "Evening.__add__" (defScope s_Evening__add_) a.f_Evening__add_ cdv A outer s H E) E "_seat_count" (tVar 0)) (StX.tStar K (tVar 2) tNil)))) { nx := fun _ H' => Q .non H', rt := Q } [some (.ref p), some (.ref q), some (.ref b)] H1 := fun b H1 s1 hb => by
      walk_at "go"
      refine s_fld (s1 _ _ e1) T.cl_Evening T.na_Evening_seat_count look_count ?_
      refine ⟨.ref b, rfl, b, _, rfl, .inl hb, ?_⟩
      walk_at "go"
      show ∃ r, CaD _ E (.ref a.c_Evening) r ∧ r (.int (n : Nat) :: ((ps ++ qs).map V.ref ++ [])) _ _
      rw [List.append_nil]
      exact s_evening T GI (hr.mono (by decide)) ((e3.same s1).app (f3.same s1)) ok fun r H2 hr2 s2 ev => k r H2 (s1.free hr2) (s1.trans s2) ev
    refine s_catT (SqT.of e2) (SqT.of f2) (by rw [List.length_map, List.length_map]; exact sz5 (by omega)) (fun z => ?_) (fun _ z => ?_) (fun _ _ r hr0 => ?_)
    · with_reducible refine' w_name ?_
      exact fin u H (Same.refl _) (by rw [List.map_append, z, List.nil_append]; exact SqT.of f2)
    · with_reducible refine' w_name ?_
      exact fin t H (Same.refl _) (by rw [List.map_append, z, List.append_nil]; exact SqT.of e2)
    · with_reducible refine' w_name ?_
      exact fin r _ (same_new hr0) (by rw [List.map_append]; exact SqT.of upd_same)
/-- the bills of all for amounts -/
def allB (n : Nat) (as : List Int) : List (Int × List Int) := as.map fun x => (x, (List.range n).map fun i : Nat => (i : Int))
def spEvTog (CE CB : Addr) : Sp := fun vs H Q _ => ∃ (n : Nat) (t : Addr) (as : List Int), vs = [.ref CE, .int n, .ref t] ∧ H t = some (.tup (as.map V.int)) ∧ OkEv n (allB n as) ∧
  ∀ r H', H r = none → Same H H' → EvAt CE CB H' r n (allB n as) → Q (.ref r) H'
theorem allB_len (n : Nat) (as : List Int) : (allB n as).length = as.length := List.length_map _
theorem rgV_nat (n : Nat) : rgV 0 (n : Int) = ((List.range n).map fun i : Nat => (i : Int)).map V.int := by
  unfold rgV
  rw [List.map_map, show ((n : Int) - 0).toNat = n by omega]
  refine List.map_congr_left fun i _ => ?_
  show V.int (0 + (i : Int)) = V.int (i : Int)
  rw [Int.zero_add]
abbrev InitT (CE CB : Addr) : Sp := fun vs H Q E => ∃ ws rest, vs = ws ++ rest ∧ ws.length = ["cls", "seat_count"].length ∧ rest.length ≤ sizeLine ∧ ∀ p, H p = Option.none → spEvTog CE CB (ws ++ [V.ref p]) (upd H p (.tup rest)) Q E
theorem ok_ev_tog (T : Facts K mg a) : FnR P w K mg base (L2.CX P w) 6 a.f_Evening_together (InitT a.c_Evening a.c_Bill) := by
  obtain ⟨fd, F⟩ := T.u_Evening_together
  have GC : FnR P w K mg base (L2.CX P w) 2 a.f_check_seat_count spCkCount := ok_check_seat_count T
  have GB : FnR P w K mg base (L2.CX P w) 3 a.f_Bill__init_ (InitB a.c_Bill) := ok_bi_init T
  have GI : FnR P w K mg base (L2.CX P w) 4 a.f_Evening__init_ (InitE a.c_Evening a.c_Bill) := ok_ev_init T
  refine fnr_star2 (p1 := "cls") (p2 := "seat_count") (pv := "amounts") F sc_Evening_together (fun _ _ _ _ _ _ _ _ => rfl) (fun _ _ _ _ _ _ _ _ _ _ => rfl) (fun cdv A outer s H vs Q E hr h => ?_)
  obtain ⟨n, t, as, rfl, ht, ok, q⟩ := h
  have hn2 : n ≤ 8 := ok.2.1
  have hn1 : 2 ≤ n := ok.1
  have hal : as.length ≤ 30 := by have := ok.2.2.1; rw [allB_len] at this; exact this
  refine ⟨_, (pss_cons (ps_expr (pe_glA Like.refl pas_main (by rfl) (pa_cons (pv 1) pa_nil)))
    (pss_cons (ps_set (i := 3) sc_Evening_together.nd rfl (Or.inr rfl) (pe_listRg rfl (by rfl) T.z_list (prg_1 (by rfl) T.z_range (pv 1))))
    (pss_cons (ps_setLc (i := 4) (own := [("amount", 5)]) (g := gName 5) (tt := tYes) rfl sc_Evening_together.nd rfl rfl (sw_true rfl rfl rfl (by decide +kernel)) (pi_seqA Like.refl (pv 2)) (blkOk_by (own := [("amount", 5)]) (N := N_Evening_together) (sc := defScope s_Evening_together) (by decide +kernel)) (fun _ _ _ _ _ => (pg_name (i := 5) sc_Evening_together.nd rfl (by first | exact Or.inl rfl | exact Or.inr rfl))) (fun _ _ _ _ _ => pts_nil) (fun _ _ _ _ _ => (pe_glS2 ⟨rfl, rfl, rfl, rfl, rfl, rfl, rfl⟩ passL (by rfl) (pa_cons (pv 5) (pa_starA ⟨rfl, rfl, rfl, rfl, rfl, rfl, rfl⟩ (pv 3) pa_nil)))))
    (pss_one (ps_ret (pe_loS2 (i := 0) Like.refl pas_main rfl (Or.inl rfl) (pa_cons (pv 1) (pa_starA Like.refl (pv 4) pa_nil)))))))), ?_⟩
  walk_at "go"
  refine s_fn GC (hr.mono (by decide)) ⟨n, rfl, by omega, by omega, ?_⟩
  walk_at "go"
  refine ⟨.int n, rfl, n, rfl, RgOk.of_le (by omega) (by omega) (by omega) (by omega), fun l hl => ?_⟩
  rw [rgV_nat]
  have s1 := same_new (o := .lst (((List.range n).map fun i : Nat => (i : Int)).map V.int)) hl
  have hseats : ∀ H', Same (upd H l (.lst (((List.range n).map fun i : Nat => (i : Int)).map V.int))) H' → SqL K H' l (((List.range n).map fun i : Nat => (i : Int)).map V.int) := fun H' s => SqL.of (s _ _ upd_same)
  walk_at "go"
  refine c_tupI (fun _ => False) (fun k o H' => ∃ ps : List Addr, o = ps.map V.ref ∧ BisAt a.c_Bill H' ps (allB n (as.take k))) (a := t) (xs := as.map V.int) (fun _ z => z.elim) (fun D hD => ⟨[], rfl, rfl, fun i p b z => by simp at z⟩) (fun k o H' hk p => ?_) (fun H' s2 => SqT.of (s2 _ _ id (s1 _ _ ht)))
    (fun k o H' D l1 l2 _ hd p => ?_) (fun _ => rfl) (fun k x H' o hx s2 p => ?_) (fun r o H' hr0 s2 p hL => ?_) (fun R k => ?_)
  · obtain ⟨ps, rfl, hb⟩ := p
    rw [List.length_map, hb.1, allB_len, List.length_take]
    omega
  · obtain ⟨ps, rfl, hb⟩ := p
    refine ⟨ps, rfl, hb.1, fun i p b e1 e2 => ?_⟩
    obtain ⟨dx, u, h1, h2⟩ := hb.2 i p b e1 e2
    exact ⟨dx, u, by rw [upd_ne (ne_of h1 hd (by simp))]; exact h1, by rw [upd_ne (ne_of h2 hd (by simp))]; exact h2⟩
  · rw [List.getElem?_map] at hx
    cases e : as[k]? with
    | none => rw [e] at hx; cases hx
    | some z =>
      rw [e] at hx
      cases hx
      have s2' : Same _ H' := fun b o h => s2 b o id h
      have hm : (z, (List.range n).map fun i : Nat => (i : Int)) ∈ allB n as := List.mem_map.2 ⟨z, List.mem_of_getElem? e, rfl⟩
      obtain ⟨ps, rfl, hb⟩ := p
      refine turnI_map fun R hR => ?_
      refine w_gl T.g_Bill T.mk_Bill.kp ?_
      walk_at "go"
      refine ⟨.ref l, rfl, l, _, rfl, .inr (hseats _ s2'), ?_⟩
      walk_at "go"
      show ∃ r, CaD _ E0 (.ref a.c_Bill) r ∧ r (.int z :: (((List.range n).map fun i : Nat => (i : Int)).map V.int ++ [])) _ _
      rw [List.append_nil]
      refine s_bill T GB (hr.mono (by decide)) (ok.2.2.2 _ hm).1 (by rw [List.length_map, List.length_range]; omega) fun p2 H2 hp2 s3 bi => ?_
      refine hR _ _ (Same.b s3) ⟨ps ++ [p2], by rw [List.map_append]; rfl, ?_⟩
      have e2 : allB n (as.take (k + 1)) = allB n (as.take k) ++ [(z, (List.range n).map fun i : Nat => (i : Int))] := by
        unfold allB
        rw [List.take_add_one, e, List.map_append]
        rfl
      rw [e2]
      exact (hb.same s3).app ⟨rfl, fun i p b e1 e2 => by
        cases i with
        | zero => cases e1; cases e2; exact bi
        | succ i => simp at e1⟩
  · obtain ⟨ps, rfl, hb⟩ := p
    rw [List.length_map, List.take_of_length_le (Nat.le_refl _)] at hb
    have s2' : Same _ H' := fun b o h => s2 b o id h
    walk_at "go"
    refine ⟨a.c_Evening, rfl, T.mk_Evening.kp, ?_⟩
    walk_at "go"
    refine ⟨.ref r, rfl, r, _, rfl, .inr (SqL.of hL), ?_⟩
    walk_at "go"
    show ∃ r, CaD _ E (.ref a.c_Evening) r ∧ r (.int (n : Nat) :: (ps.map V.ref ++ [])) _ _
    rw [List.append_nil]
    exact s_evening T GI (hr.mono (by decide)) hb ok fun p2 H2 hp2 s3 ev => q p2 H2 (s1.free (s2'.free hp2)) ((s1.trans s2').trans s3) ev
  · walk_at "go"
    exact k
end

end Odd

namespace Odd
open PySem PySem.Spec PyProof.Rows L2
/-! tactics of this text: st one step, go as many as go -/
local macro_rules | `(tactic| walk_at "ar") => `(tactic| first | assumption | omega | (show (_ : Int) < _; omega) | decide)
local macro_rules | `(tactic| walk_at "st") => `(tactic| first
  | with_reducible refine' w_seq ?_
  | with_reducible refine' w_asg ?_
  | with_reducible refine' w_name ?_
  | with_reducible refine' w_c ?_
  | with_reducible refine' w_op ?_
  | with_reducible refine' w_ix ?_
  | with_reducible refine' w_at ?_
  | with_reducible refine' w_cons ?_
  | with_reducible refine' w_nil ?_
  | with_reducible refine' w_ret ?_
  | with_reducible refine' w_if ?_
  | with_reducible refine' w_test ?_
  | with_reducible refine' w_tr ?_
  | with_reducible refine' w_un ?_
  | with_reducible refine' w_andV ?_
  | with_reducible refine' w_orV ?_
  | with_reducible refine' w_notA ?_
  | with_reducible refine' w_ch ?_
  | with_reducible refine' w_and ?_
  | with_reducible refine' w_or ?_
  | with_reducible refine' w_not ?_
  | with_reducible refine' w_ifx ?_
  | with_reducible refine' w_tup ?_
  | with_reducible refine' w_lst ?_
  | with_reducible refine' w_next ?_
  | with_reducible refine' w_drop ?_
  | with_reducible refine' w_retN ?_
  | ((with_reducible refine' w_var ?h ?_); (case h => exact rfl))
  | ((with_reducible refine' w_bi ?h ?_); (case h => walk_at "mg"))
  | ((with_reducible refine' w_bv ?h ?_); (case h => walk_at "mg"))
  | ((with_reducible refine' w_gv ?h ?_); (case h => walk_at "mg"))
  | ((with_reducible refine' w_gl ?h ?k ?_); (case h => walk_at "mg"); (case k => walk_at "kp"))
  | ((with_reducible refine' w_glS ?h ?k ?_); (case h => walk_at "mg"); (case k => walk_at "kp"))
  | with_reducible refine' bl_ex ?_
  | with_reducible refine' iteT ?_
  | with_reducible refine' iteF ?_
  | with_reducible refine' ite_nf ?_
  | with_reducible refine' ite_nt ?_
  | with_reducible refine' s_add ?_
  | with_reducible refine' s_sub ?_
  | with_reducible refine' s_lt ?_
  | with_reducible refine' s_le ?_
  | with_reducible refine' s_gt ?_
  | with_reducible refine' s_ge ?_
  | with_reducible refine' s_eqI ?_
  | with_reducible refine' s_neI ?_
  | with_reducible refine' s_eqB ?_
  | with_reducible refine' s_neB ?_
  | with_reducible refine' s_truB ?_
  | with_reducible refine' s_truI ?_
  | with_reducible refine' s_neg ?_
  | ((with_reducible refine' s_mod ?h ?_); (case h => walk_at "ar")))
local macro_rules | `(tactic| walk_at "go") => `(tactic| repeat walk_at "st")

local macro_rules | `(tactic| walk_at "mg") => `(tactic| first | assumption | exact Facts.z_TypeError (by assumption) | exact Facts.z_abs (by assumption) | exact Facts.z_bool (by assumption) | exact Facts.z_classmethod (by assumption) | exact Facts.z_divmod (by assumption) | exact Facts.z_enumerate (by assumption) | exact Facts.z_int (by assumption) | exact Facts.z_isinstance (by assumption) | exact Facts.z_len (by assumption) | exact Facts.z_list (by assumption) | exact Facts.z_max (by assumption) | exact Facts.z_min (by assumption) | exact Facts.z_property (by assumption) | exact Facts.z_range (by assumption) | exact Facts.z_sorted (by assumption) | exact Facts.z_sum (by assumption) | exact Facts.z_super (by assumption) | exact Facts.z_tuple (by assumption) | exact Facts.z_zip (by assumption) | exact Facts.g__wall (by assumption) | exact Facts.g_is_between (by assumption) | exact Facts.g_check_seat (by assumption) | exact Facts.g_check_amount (by assumption) | exact Facts.g_check_seats (by assumption) | exact Facts.g_check_seat_count (by assumption) | exact Facts.g_check_bills (by assumption) | exact Facts.g_check_mark (by assumption) | exact Facts.g_check_times (by assumption) | exact Facts.g_no_shares (by assumption) | exact Facts.g_seats_behind (by assumption) | exact Facts.g_split_bill (by assumption) | exact Facts.g_twice (by assumption) | exact Facts.g_repeated (by assumption) | exact Facts.g_lowest_terms (by assumption) | exact Facts.g_long_run (by assumption) | exact Facts.g_marks_after (by assumption) | exact Facts.g_known_after (by assumption) | exact Facts.g_evening_of_few (by assumption) | exact Facts.g_reset (by assumption) | exact Facts.g_telling (by assumption) | exact Facts.g_share_for_bill (by assumption) | exact Facts.g_paid_from_each_mark (by assumption) | exact Facts.g_widest_gap (by assumption) | exact Facts.g_best_mark (by assumption) | exact Facts.g_longer_ways (by assumption) | exact Facts.g_spread_of (by assumption) | exact Facts.g_fairest_order (by assumption) | exact Facts.g__law_start (by assumption) | exact Facts.g__law_drawn (by assumption) | exact Facts.g__law_all_there (by assumption) | exact Facts.g__law_two_and_all (by assumption) | exact Facts.g_law (by assumption) | exact Facts.g_Shares (by assumption) | exact Facts.g_Bill (by assumption) | exact Facts.g_Evening (by assumption) | exact Facts.g_MarkObserver (by assumption))
local macro_rules | `(tactic| walk_at "kp") => `(tactic| first | assumption | exact (Facts.mk_Shares (by assumption)).kp | exact (Facts.mk_Bill (by assumption)).kp | exact (Facts.mk_Evening (by assumption)).kp | exact (Facts.mk_MarkObserver (by assumption)).kp | exact Fun.kp (Facts.u__wall (by assumption)).choose_spec | exact Fun.kp (Facts.u_is_between (by assumption)).choose_spec | exact Fun.kp (Facts.u_check_seat (by assumption)).choose_spec | exact Fun.kp (Facts.u_check_amount (by assumption)).choose_spec | exact Fun.kp (Facts.u_check_seats (by assumption)).choose_spec | exact Fun.kp (Facts.u_check_seat_count (by assumption)).choose_spec | exact Fun.kp (Facts.u_check_bills (by assumption)).choose_spec | exact Fun.kp (Facts.u_check_mark (by assumption)).choose_spec | exact Fun.kp (Facts.u_check_times (by assumption)).choose_spec | exact Fun.kp (Facts.u_no_shares (by assumption)).choose_spec | exact Fun.kp (Facts.u_seats_behind (by assumption)).choose_spec | exact Fun.kp (Facts.u_split_bill (by assumption)).choose_spec | exact Fun.kp (Facts.u_twice (by assumption)).choose_spec | exact Fun.kp (Facts.u_repeated (by assumption)).choose_spec | exact Fun.kp (Facts.u_lowest_terms (by assumption)).choose_spec | exact Fun.kp (Facts.u_long_run (by assumption)).choose_spec | exact Fun.kp (Facts.u_marks_after (by assumption)).choose_spec | exact Fun.kp (Facts.u_known_after (by assumption)).choose_spec | exact Fun.kp (Facts.u_evening_of_few (by assumption)).choose_spec | exact Fun.kp (Facts.u_reset (by assumption)).choose_spec | exact Fun.kp (Facts.u_telling (by assumption)).choose_spec | exact Fun.kp (Facts.u_share_for_bill (by assumption)).choose_spec | exact Fun.kp (Facts.u_paid_from_each_mark (by assumption)).choose_spec | exact Fun.kp (Facts.u_widest_gap (by assumption)).choose_spec | exact Fun.kp (Facts.u_best_mark (by assumption)).choose_spec | exact Fun.kp (Facts.u_longer_ways (by assumption)).choose_spec | exact Fun.kp (Facts.u_spread_of (by assumption)).choose_spec | exact Fun.kp (Facts.u_fairest_order (by assumption)).choose_spec | exact Fun.kp (Facts.u__law_start (by assumption)).choose_spec | exact Fun.kp (Facts.u__law_drawn (by assumption)).choose_spec | exact Fun.kp (Facts.u__law_all_there (by assumption)).choose_spec | exact Fun.kp (Facts.u__law_two_and_all (by assumption)).choose_spec | exact Fun.kp (Facts.u_law (by assumption)).choose_spec)
/-! ### the law's own helpers: the draws, the comparison -/
section
variable {P : Program} {w : World} {K : PySem.W.Frag} {mg : Str → Option Value} {base : Heap} {a : Ad}
/-- a state of draws from the script at sc stands at st -/
def StC (sc : Addr) (H : Hp) (st : Addr) : Prop := ∃ (pos m r : Int), H st = some (.lst [.ref sc, .int pos, .int m, .int r]) ∧ 0 ≤ pos
def StOk (K : PySem.W.Frag) (sc : Addr) (ns : List Int) (H : Hp) (st : Addr) : Prop := StC sc H st ∧ SqL K H sc (ns.map V.int) ∧ ns.length ≤ 63
theorem sc_ne {K : PySem.W.Frag} {H : Hp} {st sc : Addr} {ns : List Int} {x : Addr} {l : List V} {o : HO} (h : H st = some (.lst (.ref x :: l))) (hs : SqL K H sc (ns.map V.int)) : SqL K (upd H st o) sc (ns.map V.int) := by
  have hne : ∀ (ms : List Int), (V.ref x :: l) ≠ ms.map V.int := fun ms e => by
    cases ms with
    | nil => cases e
    | cons m ms => cases e
  rcases hs with (hs | ⟨ob, hs⟩) | hs
  · by_cases e : sc = st
    · subst e
      rw [hs] at h
      exact absurd (HO.lst.inj (Option.some.inj h)).symm (hne ns)
    · exact .inl (.inl (by rw [upd_ne e]; exact hs))
  · by_cases e : sc = st
    · subst e
      rw [hs] at h
      cases h
    · exact .inl (.inr ⟨ob, by rw [upd_ne e]; exact hs⟩)
  · exact .inr hs
theorem sc_keep {K : PySem.W.Frag} {H H' : Hp} {st sc : Addr} {ns : List Int} {x : Addr} {l : List V} (h : H st = some (.lst (.ref x :: l))) (hs : SqL K H sc (ns.map V.int)) (s : SameB (· = st) H H') : SqL K H' sc (ns.map V.int) := by
  have hne : ∀ (ms : List Int), (V.ref x :: l) ≠ ms.map V.int := fun ms e => by
    cases ms with
    | nil => cases e
    | cons m ms => cases e
  rcases hs with (hs | ⟨ob, hs⟩) | hs
  · refine .inl (.inl (s _ _ (fun e => ?_) hs))
    subst e
    rw [hs] at h
    exact hne ns (HO.lst.inj (Option.some.inj h)).symm
  · refine .inl (.inr ⟨ob, s _ _ (fun e => ?_) hs⟩)
    subst e
    rw [hs] at h
    cases h
  · exact .inr hs
theorem StOk.to {K : PySem.W.Frag} {sc : Addr} {ns : List Int} {H H' : Hp} {st : Addr} (h : StOk K sc ns H st) (s : SameB (· = st) H H') (c : StC sc H' st) : StOk K sc ns H' st :=
  let ⟨⟨_, _, _, h1, _⟩, h2, h3⟩ := h
  ⟨c, sc_keep h1 h2 s, h3⟩
theorem StC.lst {sc : Addr} {H : Hp} {st : Addr} (h : StC sc H st) : ∃ l, H st = some (.lst l) := let ⟨_, _, _, h1, _⟩ := h; ⟨_, h1⟩
theorem StC.ne {sc : Addr} {H : Hp} {st p : Addr} (h : StC sc H st) (e : H p = none) : p ≠ st := fun z => by
  obtain ⟨l, h1⟩ := h.lst
  rw [z, h1] at e
  cases e
theorem StC.upd {sc : Addr} {H : Hp} {st p : Addr} {u : HO} (h : StC sc H st) (hp : p ≠ st) : StC sc (upd H p u) st := let ⟨a, b, c, h1, h2⟩ := h; ⟨a, b, c, by rw [upd_ne hp.symm]; exact h1, h2⟩
theorem StC.same {sc : Addr} {H H' : Hp} {st : Addr} (h : StC sc H st) (s : Same H H') : StC sc H' st := let ⟨a, b, c, h1, h2⟩ := h; ⟨a, b, c, s _ _ h1, h2⟩
theorem StOk.same {K : PySem.W.Frag} {sc : Addr} {ns : List Int} {H H' : Hp} {st : Addr} (h : StOk K sc ns H st) (s : Same H H') : StOk K sc ns H' st := ⟨h.1.same s, s.seq h.2.1, h.2.2⟩
def spStart (K : PySem.W.Frag) : Sp := fun vs H Q _ => ∃ (sc : Addr) (ns : List Int), vs = [.ref sc] ∧ SqL K H sc (ns.map V.int) ∧ ns.length ≤ 63 ∧ ∀ p H', H p = none → Same H H' → StOk K sc ns H' p → Q (.ref p) H'
theorem ok_start (T : Facts K mg a) : FnR P w K mg base (L2.CX P w) 1 a.f__law_start (spStart K) := by
  obtain ⟨fd, F⟩ := T.u__law_start
  refine fnr_ok F sc__law_start (F.binds fun _ _ _ _ _ _ us hl => match us, hl with | [_], _ => rfl) (fun vs H Q E h => ?_) (fun cdv A outer s H vs Q E hr h => ?_)
  · obtain ⟨sc, ns, rfl, _⟩ := h
    rfl
  · obtain ⟨sc, ns, rfl, hs, hl, q⟩ := h
    refine ⟨_, (pss_cons (ps_set (i := 1) sc__law_start.nd rfl (Or.inl rfl) (pe_int))
    (pss_cons (ps_for own_main rfl (pi_seqA Like.refl (pv 0)) (pg_name (i := 2) sc__law_start.nd rfl (Or.inl rfl)) (pss_one (ps_set (i := 1) sc__law_start.nd rfl (Or.inl rfl) (pe_opA Like.refl pas_main (pe_opA Like.refl pas_main (pe_opA Like.refl pas_main (pe_opA Like.refl pas_main (pv 1) (pe_int)) (pv 2)) (pe_int)) (pe_int)))))
    (pss_one (ps_ret (pe_lst (pa_cons (pv 0) (pa_cons (pe_int) (pa_cons (pv 1) (pa_cons (pe_int) pa_nil))))))))), ?_⟩
    walk_at "go"
    refine ⟨.ref sc, rfl, sc, rfl, .inl ⟨⟨_, hs⟩, for_list (K := K) (xs := ns.map V.int) (fun i σ H' => H' = H ∧ ∃ (m : Int) (v : Option V), σ = [some (.ref sc), some (.int m), v]) ⟨rfl, 1, none, rfl⟩ (fun i σ H' _ ⟨e, _⟩ => by rw [e]; exact hs) ?_ ?_⟩⟩
    · rintro i x σ H' hx ⟨rfl, m, v, rfl⟩
      rw [List.getElem?_map] at hx
      cases e : ns[i]? with
      | none => rw [e] at hx; cases hx
      | some c =>
        rw [e] at hx
        cases hx
        refine w_name ?_
        walk_at "go"
        refine s_mul (.inr ⟨by decide, by decide⟩) ?_
        walk_at "go"
        exact ⟨rfl, _, _, rfl⟩
    · rintro σ H' ⟨rfl, m, v, rfl⟩
      walk_at "go"
      exact ⟨(by show 4 ≤ sizeLine; decide), fun p hp => q p _ hp (same_new hp) ⟨⟨0, m, 0, upd_same, Int.le_refl _⟩, (same_new hp).seq hs, hl⟩⟩
def spDrawn (K : PySem.W.Frag) : Sp := fun vs H Q _ => ∃ (st : Addr) (n : Int) (sc : Addr) (ns : List Int), vs = [.ref st, .int n] ∧ StOk K sc ns H st ∧ 0 < n ∧ n < 2 ^ 80 ∧ ∀ (v : Int) H', 0 ≤ v → v < n → SameB (· = st) H H' → StC sc H' st → Q (.int v) H'
theorem ok_drawn (T : Facts K mg a) : FnR P w K mg base (L2.CX P w) 1 a.f__law_drawn (spDrawn K) := by
  obtain ⟨fd, F⟩ := T.u__law_drawn
  refine fnr_ok F sc__law_drawn (F.binds fun _ _ _ _ _ _ us hl => match us, hl with | [_, _], _ => rfl) (fun vs H Q E h => ?_) (fun cdv A outer s H vs Q E hr h => ?_)
  · obtain ⟨st, n, sc, ns, rfl, _⟩ := h
    rfl
  · obtain ⟨st, n, sc, ns, rfl, ⟨⟨pos, m, r, h1, h4⟩, h2, h3⟩, hn, hn2, q⟩ := h
    have hW : ∀ i : Int, CDivW i n := fun i => wide_div (b := 80) hn (by omega) (by decide) (by decide)
    have sb : ∀ o, SameB (· = st) H (upd H st o) := fun o b u nb e => by rw [upd_ne nb]; exact e
    refine ⟨_, (pss_cons (ps_if (pt_cmpA Like.refl pas_main (pe_ixA Like.refl pas_main (pv 0) (pe_int)) (pe_int) (nomark _)) (pss_cons (ps_set (i := 2) sc__law_drawn.nd rfl (Or.inl rfl) (pe_opA Like.refl pas_main (pe_ixA Like.refl pas_main (pv 0) (pe_int)) (pv 1)))
    (pss_cons (ps_asg (pe_opA Like.refl pas_main (pe_ixA Like.refl pas_main (pv 0) (pe_int)) (pv 1)) (pg_sub (pv 0) (pe_int) set_list))
    (pss_one (ps_ret (pv 2))))) pss_nil)
    (pss_cons (ps_asg (pe_opA Like.refl pas_main (pe_ixA Like.refl pas_main (pv 0) (pe_int)) (pe_int)) (pg_sub (pv 0) (pe_int) set_list))
    (pss_cons (ps_if (pt_cmpA Like.refl pas_main (pe_ixA Like.refl pas_main (pv 0) (pe_int)) (pe_biA (id := "len") Like.refl pas_main (by rfl) (by decide +kernel) (pa_cons (pe_ixA Like.refl pas_main (pv 0) (pe_int)) pa_nil)) (nomark _)) (pss_cons (ps_set (i := 3) sc__law_drawn.nd rfl (Or.inl rfl) (pe_ixA Like.refl pas_main (pe_ixA Like.refl pas_main (pv 0) (pe_int)) (pe_opA Like.refl pas_main (pe_ixA Like.refl pas_main (pv 0) (pe_int)) (pe_int))))
    (pss_cons (ps_asg (pe_ifExp (pt_cmpA Like.refl pas_main (pv 3) (pe_opA Like.refl pas_main (pe_int) (pe_int)) (nomark _)) (pe_opA Like.refl pas_main (pv 3) (pv 1)) (pe_int)) (pg_sub (pv 0) (pe_int) set_list))
    (pss_one (ps_ret (pe_opA Like.refl pas_main (pv 3) (pv 1)))))) pss_nil)
    (pss_cons (ps_asg (pe_opA Like.refl pas_main (pe_opA Like.refl pas_main (pe_opA Like.refl pas_main (pe_ixA Like.refl pas_main (pv 0) (pe_int)) (pe_int)) (pe_int)) (pe_int)) (pg_sub (pv 0) (pe_int) set_list))
    (pss_one (ps_ret (pe_opA Like.refl pas_main (pe_opA Like.refl pas_main (pe_ixA Like.refl pas_main (pv 0) (pe_int)) (pe_int)) (pv 1)))))))), ?_⟩
    walk_at "go"
    refine s_ixL (SqL.of h1) (v := .int r) rfl ?_
    walk_at "go"
    refine ite_d (fun hr0 => ?_) (fun hr0 => ?_)
    · walk_at "go"
      refine s_ixL (SqL.of h1) (v := .int r) rfl ?_
      walk_at "go"
      refine s_ixL (SqL.of h1) (v := .int r) rfl ?_
      walk_at "go"
      refine s_fdivW (hW _) ?_
      refine w_gsub ?_
      walk_at "go"
      refine s_setL h1 (j := 3) rfl ?_
      walk_at "go"
      exact q _ _ (Int.emod_nonneg _ (by omega)) (Int.emod_lt_of_pos _ hn) (sb _) ⟨pos, m, _, upd_same, h4⟩
    · walk_at "go"
      refine s_ixL (SqL.of h1) (v := .int pos) rfl ?_
      walk_at "go"
      refine w_gsub ?_
      walk_at "go"
      refine s_setL h1 (j := 1) rfl ?_
      have g1 : (upd H st (.lst [.ref sc, .int (pos + 1), .int m, .int r])) st = some (.lst [.ref sc, .int (pos + 1), .int m, .int r]) := upd_same
      have g2 : SqL K (upd H st (.lst [.ref sc, .int (pos + 1), .int m, .int r])) sc (ns.map V.int) := sc_ne h1 h2
      walk_at "go"
      refine s_ixL (SqL.of g1) (v := .int (pos + 1)) rfl ?_
      walk_at "go"
      refine s_ixL (SqL.of g1) (v := .ref sc) rfl ?_
      walk_at "go"
      refine s_lenL g2 ?_
      rw [List.length_map]
      walk_at "go"
      refine ite_d (fun hp => ?_) (fun hp => ?_)
      · obtain ⟨c, hc⟩ : ∃ c, ns[pos.toNat]? = some c := ⟨_, List.getElem?_eq_getElem (by omega)⟩
        walk_at "go"
        refine s_ixL (SqL.of g1) (v := .ref sc) rfl ?_
        walk_at "go"
        refine s_ixL (SqL.of g1) (v := .int (pos + 1)) rfl ?_
        walk_at "go"
        refine s_ixL g2 (v := .int c) (at_of (j := pos.toNat) (by omega) (by rw [List.getElem?_map, hc] <;> rfl)) ?_
        walk_at "go"
        refine s_pow ⟨by decide, by decide, by decide⟩ ?_
        walk_at "go"
        refine ite_d (fun _ => ?_) (fun _ => ?_)
        all_goals
          walk_at "go"
          first | (refine s_fdivW (hW _) ?_) | skip
          refine w_gsub ?_
          walk_at "go"
          refine s_setL g1 (j := 3) rfl ?_
          walk_at "go"
          exact q _ _ (Int.emod_nonneg _ (by omega)) (Int.emod_lt_of_pos _ hn) (fun b u nb e => by rw [upd_ne nb]; exact sb _ _ _ nb e) ⟨pos + 1, m, _, upd_same, by omega⟩
      · walk_at "go"
        refine s_ixL (SqL.of g1) (v := .int m) rfl ?_
        walk_at "go"
        refine s_mul (.inr ⟨by decide, by decide⟩) ?_
        walk_at "go"
        refine w_gsub ?_
        walk_at "go"
        refine s_setL g1 (j := 2) rfl ?_
        walk_at "go"
        refine s_ixL (SqL.of upd_same) (v := .int ((m * 48271 + 11) % 2147483647)) rfl ?_
        walk_at "go"
        refine s_fdiv ⟨by decide, by decide⟩ ?_
        walk_at "go"
        exact q _ _ (Int.emod_nonneg _ (by omega)) (Int.emod_lt_of_pos _ hn) (fun b u nb e => by rw [upd_ne nb]; exact sb _ _ _ nb e) ⟨pos + 1, _, r, upd_same, by omega⟩
end

/-! ### the law's rows -/
section
variable {P : Program} {w : World} {K : PySem.W.Frag} {mg : Str → Option Value} {base : Heap} {a : Ad}
theorem w_forR {ta : TA} {g : TG} {tb : TS} {D : Ends} {σ : L2.St} {H : Hp} (h : ta σ H fun vs H1 => tFor (iRng1 fun _ H R => R vs H) g tb D σ H1) : tFor (iRng1 ta) g tb D σ H := h
theorem w_forQ {K : PySem.W.Frag} {tl : TE} {g : TG} {tb : TS} {D : Ends} {σ : L2.St} {H : Hp} (h : tl σ H fun x H1 => tFor (iSeq K fun _ H R => R x H) g tb D σ H1) : tFor (iSeq K tl) g tb D σ H := h
theorem w_bm {K : PySem.W.Frag} {T : String} {r : V → List V → Hp → VK → Prop} {to : TE} {t : TA} {σ : L2.St} {H : Hp} {Q : VK} (h : to σ H fun x H1 => tyV K T x H1 ∧ t σ H1 fun xs H2 => r x xs H2 Q) : tBM K T r to t σ H Q := h
/-- a row (amount, seats) stands at r -/
def RowAt (H : Hp) (r : Addr) (b : Int × List Int) : Prop := ∃ t, H r = some (.tup [.int b.1, .ref t]) ∧ H t = some (.tup (b.2.map V.int))
def RowsAt (H : Hp) (rs : List Addr) (bs : List (Int × List Int)) : Prop := rs.length = bs.length ∧ ∀ (i : Nat) r b, rs[i]? = some r → bs[i]? = some b → RowAt H r b
/-- what stays while lists change -/
theorem RowAt.keep {H H' : Hp} {r : Addr} {b : Int × List Int} (h : RowAt H r b) (k : ∀ p xs, H p = some (.tup xs) → H' p = some (.tup xs)) : RowAt H' r b := by
  obtain ⟨t, h1, h2⟩ := h
  exact ⟨t, k _ _ h1, k _ _ h2⟩
theorem RowsAt.keep {H H' : Hp} {rs : List Addr} {bs : List (Int × List Int)} (h : RowsAt H rs bs) (k : ∀ p xs, H p = some (.tup xs) → H' p = some (.tup xs)) : RowsAt H' rs bs := ⟨h.1, fun i r b h1 h2 => (h.2 i r b h1 h2).keep k⟩
theorem RowsAt.snoc {H : Hp} {rs : List Addr} {bs : List (Int × List Int)} {r : Addr} {b : Int × List Int} (h : RowsAt H rs bs) (h' : RowAt H r b) : RowsAt H (rs ++ [r]) (bs ++ [b]) := by
  refine ⟨by simp [h.1], fun i p c e1 e2 => ?_⟩
  by_cases hi : i < rs.length
  · rw [List.getElem?_append_left hi] at e1
    rw [List.getElem?_append_left (by rw [← h.1]; exact hi)] at e2
    exact h.2 i p c e1 e2
  · rw [List.getElem?_append_right (by omega)] at e1
    rw [List.getElem?_append_right (by rw [← h.1]; omega), ← h.1] at e2
    cases z : i - rs.length with
    | zero => rw [z] at e1 e2; cases e1; cases e2; exact h'
    | succ j => rw [z] at e1; simp at e1
theorem asc_snoc : ∀ {ss : List Int} {lo i : Int}, asc lo ss = true → (∀ s ∈ ss, s < i) → lo ≤ i → i ≤ 7 → asc lo (ss ++ [i]) = true
  | [], lo, i, _, _, h1, h2 => by simp [asc, h1, h2]
  | s :: ss, lo, i, h, hs, h1, h2 => by
    simp only [asc, Bool.and_eq_true, decide_eq_true_eq] at h
    have := hs s (List.mem_cons_self ..)
    show (decide (lo ≤ s) && decide (s ≤ 7) && asc (s + 1) (ss ++ [i])) = true
    rw [asc_snoc h.2 (fun x hx => hs x (List.mem_cons_of_mem _ hx)) (by omega) h2]
    simp [h.1.1, h.1.2]
end

/-! ### the payers, by places round the table -/
section
theorem asc_up : ∀ {ss : List Int} {lo lo' : Int}, asc lo ss = true → (∀ s ∈ ss, lo' ≤ s) → asc lo' ss = true
  | [], _, _, _, _ => rfl
  | s :: ss, lo, lo', h, k => by
    simp only [asc, Bool.and_eq_true, decide_eq_true_eq] at h ⊢
    exact ⟨⟨k s (List.mem_cons_self ..), h.1.2⟩, h.2⟩
theorem asc_filter {f : Int → Bool} : ∀ {ss : List Int} {lo : Int}, asc lo ss = true → asc lo (ss.filter f) = true
  | [], _, _ => rfl
  | s :: ss, lo, h => by
    simp only [asc, Bool.and_eq_true, decide_eq_true_eq] at h
    rw [List.filter_cons]
    split
    · simp only [asc, Bool.and_eq_true, decide_eq_true_eq]
      exact ⟨h.1, asc_filter h.2⟩
    · exact asc_filter (asc_up h.2 fun x hx => by have := (asc_ge h.2 x hx).1; omega)
theorem up_pick : ∀ {k : Nat} {lo : Int} {ss : List Int}, asc lo ss = true → (∀ s ∈ ss, s < lo + (k : Int)) → ((up lo k).filter fun p => decide (p ∈ ss)) = ss
  | 0, lo, ss, h, hk => by
    cases ss with
    | nil => rfl
    | cons s ss =>
      have a := (asc_ge h s (List.mem_cons_self ..)).1
      have b := hk s (List.mem_cons_self ..)
      omega
  | k + 1, lo, ss, h, hk => by
    show ((lo :: up (lo + 1) k).filter _) = ss
    cases ss with
    | nil => exact List.filter_eq_nil_iff.2 fun x _ => by simp
    | cons s ss =>
      have hh := h
      simp only [asc, Bool.and_eq_true, decide_eq_true_eq] at hh
      by_cases e : s = lo
      · subst e
        rw [List.filter_cons, if_pos (by simp)]
        congr 1
        have ih := up_pick (k := k) (lo := s + 1) (ss := ss) hh.2 fun x hx => by have := hk x (List.mem_cons_of_mem _ hx); omega
        refine (List.filter_congr fun x hx => ?_).trans ih
        have := (up_mem hx).1
        have ne : x ≠ s := by omega
        by_cases hm : x ∈ ss
        · rw [decide_eq_true hm, decide_eq_true (List.mem_cons_of_mem _ hm)]
        · rw [decide_eq_false hm, decide_eq_false (fun z => (List.mem_cons.1 z).elim ne hm)]
      · have hlo : ∀ x ∈ s :: ss, lo + 1 ≤ x := fun x hx => by
          rcases List.mem_cons.1 hx with z | z
          · omega
          · have := (asc_ge hh.2 x z).1
            omega
        rw [List.filter_cons, if_neg (by
          rw [decide_eq_true_eq]
          exact fun z => by have := hlo lo z; omega)]
        exact up_pick (asc_up h hlo) fun x hx => by have := hk x hx; omega
theorem up_pickF {k : Nat} {lo : Int} {ss : List Int} {f : Int → Bool} (h : asc 0 ss = true) (hlo : ∀ s ∈ ss, f s = true → lo ≤ s ∧ s < lo + (k : Int)) (hf : ∀ s, lo ≤ s → s < lo + (k : Int) → f s = true) :
    ((up lo k).filter fun p => decide (p ∈ ss)) = ss.filter f := by
  have e := up_pick (k := k) (lo := lo) (ss := ss.filter f) (asc_up (asc_filter h) fun s hs => (hlo s (List.mem_filter.1 hs).1 (List.mem_filter.1 hs).2).1) fun s hs => (hlo s (List.mem_filter.1 hs).1 (List.mem_filter.1 hs).2).2
  refine (List.filter_congr fun x hx => ?_).trans e
  have hx' := up_mem hx
  have fx := hf x hx'.1 hx'.2
  by_cases hm : x ∈ ss
  · rw [decide_eq_true hm, decide_eq_true (List.mem_filter.2 ⟨hm, fx⟩)]
  · rw [decide_eq_false hm, decide_eq_false (fun z => hm (List.mem_filter.1 z).1)]
theorem hits_all {n : Nat} {m : Int} {ss : List Int} (h0 : 0 ≤ m) (h1 : m < (n : Int)) (h : asc 0 ss = true) (hn : ∀ s ∈ ss, s < (n : Int)) : hits n m ss n = behind m ss := by
  unfold hits behind
  rw [pls_all h0 h1, List.filter_append]
  congr 1
  · refine up_pickF h (fun s hs hf => ?_) fun s a b => ?_
    · have := hn s hs
      rw [decide_eq_true_eq] at hf
      omega
    · rw [decide_eq_true_eq]; omega
  · refine up_pickF h (fun s hs hf => ?_) fun s a b => ?_
    · have := (asc_ge h s hs).1
      rw [decide_eq_true_eq] at hf
      omega
    · rw [decide_eq_true_eq]; omega
theorem filt_len (m : Int) : ∀ ss : List Int, (behind m ss).length = ss.length := fun ss => by
  unfold behind
  rw [List.length_append]
  induction ss with
  | nil => rfl
  | cons s ss ih =>
    rw [List.filter_cons, List.filter_cons]
    by_cases a : m < s
    · rw [decide_eq_true a, decide_eq_false (show ¬ s ≤ m by omega)]
      simp only [if_true, Bool.false_eq_true, if_false, List.length_cons]
      omega
    · rw [decide_eq_false a, decide_eq_true (show s ≤ m by omega)]
      simp only [if_true, Bool.false_eq_true, if_false, List.length_cons]
      omega
/-- the hits are the first of those behind -/
theorem hits_take {n : Nat} {m : Int} {ss : List Int} (h0 : 0 ≤ m) (h1 : m < (n : Int)) (h : asc 0 ss = true) (hn : ∀ s ∈ ss, s < (n : Int)) {j : Nat} (hj : j ≤ n) : hits n m ss j = (behind m ss).take (hits n m ss j).length ∧ (hits n m ss j).length ≤ ss.length := by
  obtain ⟨r, hr⟩ := hits_pre n m ss j (n - j)
  rw [show j + (n - j) = n by omega, hits_all h0 h1 h hn] at hr
  refine ⟨by rw [hr, List.take_left], ?_⟩
  rw [← filt_len m ss, hr, List.length_append]
  omega
end

section
variable {P : Program} {w : World} {K : PySem.W.Frag} {mg : Str → Option Value} {base : Heap} {a : Ad}
/-- a table: lists of cents -/
def TabAt (H : Hp) (ts : List Addr) (tab : List (List Int)) : Prop := ts.length = tab.length ∧ ∀ (i : Nat) t c, ts[i]? = some t → tab[i]? = some c → H t = some (.lst (c.map V.int))
theorem TabAt.keep {H H' : Hp} {ts : List Addr} {tab : List (List Int)} (h : TabAt H ts tab) (k : ∀ t ∈ ts, ∀ o, H t = some o → H' t = some o) : TabAt H' ts tab := ⟨h.1, fun i t c h1 h2 => k _ (List.mem_of_getElem? h1) _ (h.2 i t c h1 h2)⟩
theorem TabAt.snoc {H : Hp} {ts : List Addr} {tab : List (List Int)} {t : Addr} {c : List Int} (h : TabAt H ts tab) (h' : H t = some (.lst (c.map V.int))) : TabAt H (ts ++ [t]) (tab ++ [c]) := by
  refine ⟨by simp [h.1], fun i p b e1 e2 => ?_⟩
  by_cases hi : i < ts.length
  · rw [List.getElem?_append_left hi] at e1
    rw [List.getElem?_append_left (by rw [← h.1]; exact hi)] at e2
    exact h.2 i p b e1 e2
  · rw [List.getElem?_append_right (by omega)] at e1
    rw [List.getElem?_append_right (by rw [← h.1]; omega), ← h.1] at e2
    cases z : i - ts.length with
    | zero => rw [z] at e1 e2; cases e1; cases e2; exact h'
    | succ j => rw [z] at e1; simp at e1
def paidRun (n : Nat) (m : Int) (rows : List (Int × List Int)) : List (List Int) × Int := rows.foldl (fun x b => (x.1 ++ [splitC n x.2 b], splitM x.2 b)) ([], m)
theorem paidRun_snoc (n : Nat) (m : Int) (rows : List (Int × List Int)) (b : Int × List Int) : paidRun n m (rows ++ [b]) = ((paidRun n m rows).1 ++ [splitC n (paidRun n m rows).2 b], splitM (paidRun n m rows).2 b) := by
  unfold paidRun
  rw [List.foldl_append, List.foldl_cons, List.foldl_nil]
theorem lastD_mem : ∀ (l : List Int) (m : Int), l.getLastD m ∈ m :: l
  | [], m => List.mem_cons_self ..
  | x :: l, m => by
    rw [List.getLastD_cons]
    exact List.mem_cons_of_mem _ (lastD_mem l x)
theorem splitM_range {n : Nat} {m : Int} {b : Int × List Int} (ok : OkBill b) (hs : ∀ s ∈ b.2, s < (n : Int)) (h0 : 0 ≤ m) (h1 : m < (n : Int)) : 0 ≤ splitM m b ∧ splitM m b < (n : Int) := by
  unfold splitM
  have hp : ∀ s ∈ payers m b, 0 ≤ s ∧ s < (n : Int) := fun s hm => by
    have h3 := List.mem_of_mem_take hm
    rcases List.mem_append.1 h3 with h4 | h4
    · exact ⟨(asc_ge ok.2.2.1 s (List.mem_filter.1 h4).1).1, hs s (List.mem_filter.1 h4).1⟩
    · exact ⟨(asc_ge ok.2.2.1 s (List.mem_filter.1 h4).1).1, hs s (List.mem_filter.1 h4).1⟩
  rcases List.mem_cons.1 (lastD_mem (payers m b) m) with e | e
  · rw [e]; exact ⟨h0, h1⟩
  · exact hp _ e
end

section
theorem sum_zip : ∀ (xs ys : List Int), xs.length = ys.length → (List.zipWith (· + ·) xs ys).sum = xs.sum + ys.sum
  | [], [], _ => rfl
  | x :: xs, y :: ys, h => by
    rw [List.zipWith_cons_cons, List.sum_cons, List.sum_cons, List.sum_cons, sum_zip xs ys (by simpa using h)]
    omega
  | [], _ :: _, h => by cases h
  | _ :: _, [], h => by cases h
theorem sum_set : ∀ (xs : List Int) (i : Nat) (v : Int), i < xs.length → (xs.set i v).sum = xs.sum + v - xs.getD i 0
  | [], i, v, h => by cases h
  | x :: xs, 0, v, _ => by
    show (v :: xs).sum = (x :: xs).sum + v - x
    rw [List.sum_cons, List.sum_cons]
    omega
  | x :: xs, i + 1, v, h => by
    show (x :: xs.set i v).sum = (x :: xs).sum + v - xs.getD i 0
    rw [List.sum_cons, List.sum_cons, sum_set xs i v (by simpa using h)]
    omega
theorem sum_bumps (c : List Int) : ∀ (k : Nat) (ps : List Int), ps.length = k → (∀ s ∈ ps, 0 ≤ s ∧ s < (c.length : Int)) → (bumps c ps).sum = c.sum + (k : Int)
  | 0, ps, h, _ => by rw [List.length_eq_zero_iff.1 h]; show c.sum = _; omega
  | k + 1, ps, h, hs => by
    obtain ⟨l, b, rfl⟩ : ∃ l b, ps = l ++ [b] := ⟨ps.dropLast, ps.getLast (by intro z; rw [z] at h; cases h), (List.dropLast_concat_getLast _).symm⟩
    rw [List.length_append, List.length_singleton] at h
    have ih := sum_bumps c k l (by omega) fun s hm => hs s (List.mem_append_left _ hm)
    have hb := hs b (List.mem_append_right _ (List.mem_singleton_self _))
    rw [bumps_snoc, sum_set _ _ _ (by rw [bumps_len]; omega), ih]
    omega
theorem base_get {n : Nat} {q : Int} {i : Nat} : ∀ (k : Nat) (ss : List Int), ss.length = k → (∀ s ∈ ss, 0 ≤ s ∧ s ≠ (i : Int)) → (baseC n q ss).getD i 0 = 0
  | 0, ss, h, _ => by
    rw [List.length_eq_zero_iff.1 h]
    show (List.replicate n (0 : Int)).getD i 0 = 0
    rw [List.getD_eq_getElem?_getD]
    by_cases hi : i < n
    · rw [List.getElem?_replicate, if_pos hi]; rfl
    · rw [List.getElem?_replicate, if_neg hi]; rfl
  | k + 1, ss, h, hs => by
    obtain ⟨l, b, rfl⟩ : ∃ l b, ss = l ++ [b] := ⟨ss.dropLast, ss.getLast (by intro z; rw [z] at h; cases h), (List.dropLast_concat_getLast _).symm⟩
    rw [List.length_append, List.length_singleton] at h
    have ih := base_get (n := n) (q := q) (i := i) k l (by omega) fun s hm => hs s (List.mem_append_left _ hm)
    have hb := hs b (List.mem_append_right _ (List.mem_singleton_self _))
    rw [baseC_snoc, List.getD_eq_getElem?_getD, List.getElem?_set_ne (by omega), ← List.getD_eq_getElem?_getD]
    exact ih
theorem asc_last : ∀ {l : List Int} {lo b : Int}, asc lo (l ++ [b]) = true → asc lo l = true ∧ ∀ s ∈ l, s < b
  | [], _, _, _ => ⟨rfl, fun s h => by simp at h⟩
  | x :: l, lo, b, h => by
    rw [List.cons_append] at h
    simp only [asc, Bool.and_eq_true, decide_eq_true_eq] at h ⊢
    obtain ⟨h1, h2⟩ := asc_last h.2
    refine ⟨⟨h.1, h1⟩, fun s hs => ?_⟩
    rcases List.mem_cons.1 hs with e | e
    · have := (asc_ge h.2 b (List.mem_append_right _ (List.mem_singleton_self _))).1
      omega
    · exact h2 s e
theorem sum_base {n : Nat} {q : Int} : ∀ (k : Nat) (ss : List Int), ss.length = k → asc 0 ss = true → (∀ s ∈ ss, s < (n : Int)) → (baseC n q ss).sum = q * (k : Int)
  | 0, ss, h, _, _ => by
    rw [List.length_eq_zero_iff.1 h]
    show (List.replicate n (0 : Int)).sum = _
    rw [List.sum_replicate_int]
    simp
  | k + 1, ss, h, ha, hs => by
    obtain ⟨l, b, rfl⟩ : ∃ l b, ss = l ++ [b] := ⟨ss.dropLast, ss.getLast (by intro z; rw [z] at h; cases h), (List.dropLast_concat_getLast _).symm⟩
    rw [List.length_append, List.length_singleton] at h
    obtain ⟨ha1, ha2⟩ := asc_last ha
    have ih := sum_base (n := n) (q := q) k l (by omega) ha1 fun s hm => hs s (List.mem_append_left _ hm)
    have hb := hs b (List.mem_append_right _ (List.mem_singleton_self _))
    have hb0 := (asc_ge ha b (List.mem_append_right _ (List.mem_singleton_self _))).1
    rw [baseC_snoc, sum_set _ _ _ (by rw [baseC_len]; omega), ih, base_get l.length l rfl fun s hm => ⟨(asc_ge ha1 s hm).1, by have := ha2 s hm; omega⟩]
    rw [show ((k + 1 : Nat) : Int) = (k : Int) + 1 by omega, Int.mul_add]
    omega
/-- a bill's shares come to its amount -/
theorem sum_split {n : Nat} {m : Int} {b : Int × List Int} (ok : OkBill b) (hs : ∀ s ∈ b.2, s < (n : Int)) : (splitC n m b).sum = b.1 := by
  have hpos := List.length_pos_iff.2 ok.2.2.2
  have h0 : 0 ≤ b.1 % (b.2.length : Nat) := Int.emod_nonneg _ (by omega)
  have h1 : b.1 % (b.2.length : Nat) < (b.2.length : Nat) := Int.emod_lt_of_pos _ (by omega)
  have hp : (payers m b).length = (b.1 % (b.2.length : Nat)).toNat := by
    unfold payers
    rw [List.length_take, filt_len]
    omega
  have hr : ∀ s ∈ payers m b, 0 ≤ s ∧ s < ((baseC n (b.1 / (b.2.length : Nat)) b.2).length : Int) := fun s hm => by
    rw [baseC_len]
    have h3 := List.mem_of_mem_take hm
    rcases List.mem_append.1 h3 with h4 | h4
    · exact ⟨(asc_ge ok.2.2.1 s (List.mem_filter.1 h4).1).1, hs s (List.mem_filter.1 h4).1⟩
    · exact ⟨(asc_ge ok.2.2.1 s (List.mem_filter.1 h4).1).1, hs s (List.mem_filter.1 h4).1⟩
  unfold splitC
  rw [sum_bumps _ _ _ hp hr, sum_base b.2.length b.2 rfl ok.2.2.1 hs]
  have := Int.mul_ediv_add_emod b.1 (b.2.length : Nat)
  rw [Int.mul_comm] at this
  omega
theorem sum_run (n : Nat) (m : Int) : ∀ (k : Nat) (rows : List (Int × List Int)), rows.length = k → (∀ b ∈ rows, OkBill b ∧ ∀ s ∈ b.2, s < (n : Int)) → (evRun n m rows).1.sum = (rows.map Prod.fst).sum
  | 0, rows, h, _ => by
    rw [List.length_eq_zero_iff.1 h]
    show (List.replicate n (0 : Int)).sum = 0
    rw [List.sum_replicate_int]
    simp
  | k + 1, rows, h, hs => by
    obtain ⟨l, b, rfl⟩ : ∃ l b, rows = l ++ [b] := ⟨rows.dropLast, rows.getLast (by intro z; rw [z] at h; cases h), (List.dropLast_concat_getLast _).symm⟩
    rw [List.length_append, List.length_singleton] at h
    have ih := sum_run n m k l (by omega) fun c hc => hs c (List.mem_append_left _ hc)
    obtain ⟨o1, o2⟩ := hs b (List.mem_append_right _ (List.mem_singleton_self _))
    rw [evRun_snoc, sum_zip _ _ (by rw [evRun_len, splitC_len]), ih, sum_split o1 o2, List.map_append, List.sum_append]
    simp
end

local macro_rules | `(tactic| walk_at "st") => `(tactic| ((with_reducible refine' w_name ?_); (try dsimp only [List.set])))

abbrev RowOk (n : Nat) (b : Int × List Int) : Prop := OkBill b ∧ ∀ s ∈ b.2, s < (n : Int)

end Odd

namespace Odd
open PySem PySem.Spec PyProof.Rows L2
/-! tactics of this text: st one step, go as many as go -/
local macro_rules | `(tactic| walk_at "ar") => `(tactic| first | assumption | omega | (show (_ : Int) < _; omega) | decide)
local macro_rules | `(tactic| walk_at "st") => `(tactic| first
  | with_reducible refine' w_seq ?_
  | with_reducible refine' w_asg ?_
  | with_reducible refine' w_name ?_
  | with_reducible refine' w_c ?_
  | with_reducible refine' w_op ?_
  | with_reducible refine' w_ix ?_
  | with_reducible refine' w_at ?_
  | with_reducible refine' w_cons ?_
  | with_reducible refine' w_nil ?_
  | with_reducible refine' w_ret ?_
  | with_reducible refine' w_if ?_
  | with_reducible refine' w_test ?_
  | with_reducible refine' w_tr ?_
  | with_reducible refine' w_un ?_
  | with_reducible refine' w_andV ?_
  | with_reducible refine' w_orV ?_
  | with_reducible refine' w_notA ?_
  | with_reducible refine' w_ch ?_
  | with_reducible refine' w_and ?_
  | with_reducible refine' w_or ?_
  | with_reducible refine' w_not ?_
  | with_reducible refine' w_ifx ?_
  | with_reducible refine' w_tup ?_
  | with_reducible refine' w_lst ?_
  | with_reducible refine' w_next ?_
  | with_reducible refine' w_drop ?_
  | with_reducible refine' w_retN ?_
  | ((with_reducible refine' w_var ?h ?_); (case h => exact rfl))
  | ((with_reducible refine' w_bi ?h ?_); (case h => walk_at "mg"))
  | ((with_reducible refine' w_bv ?h ?_); (case h => walk_at "mg"))
  | ((with_reducible refine' w_gv ?h ?_); (case h => walk_at "mg"))
  | ((with_reducible refine' w_gl ?h ?k ?_); (case h => walk_at "mg"); (case k => walk_at "kp"))
  | ((with_reducible refine' w_glS ?h ?k ?_); (case h => walk_at "mg"); (case k => walk_at "kp"))
  | with_reducible refine' bl_ex ?_
  | with_reducible refine' iteT ?_
  | with_reducible refine' iteF ?_
  | with_reducible refine' ite_nf ?_
  | with_reducible refine' ite_nt ?_
  | with_reducible refine' s_add ?_
  | with_reducible refine' s_sub ?_
  | with_reducible refine' s_lt ?_
  | with_reducible refine' s_le ?_
  | with_reducible refine' s_gt ?_
  | with_reducible refine' s_ge ?_
  | with_reducible refine' s_eqI ?_
  | with_reducible refine' s_neI ?_
  | with_reducible refine' s_eqB ?_
  | with_reducible refine' s_neB ?_
  | with_reducible refine' s_truB ?_
  | with_reducible refine' s_truI ?_
  | with_reducible refine' s_neg ?_
  | ((with_reducible refine' s_mod ?h ?_); (case h => walk_at "ar")))
local macro_rules | `(tactic| walk_at "go") => `(tactic| repeat walk_at "st")

local macro_rules | `(tactic| walk_at "mg") => `(tactic| first | assumption | exact Facts.z_TypeError (by assumption) | exact Facts.z_abs (by assumption) | exact Facts.z_bool (by assumption) | exact Facts.z_classmethod (by assumption) | exact Facts.z_divmod (by assumption) | exact Facts.z_enumerate (by assumption) | exact Facts.z_int (by assumption) | exact Facts.z_isinstance (by assumption) | exact Facts.z_len (by assumption) | exact Facts.z_list (by assumption) | exact Facts.z_max (by assumption) | exact Facts.z_min (by assumption) | exact Facts.z_property (by assumption) | exact Facts.z_range (by assumption) | exact Facts.z_sorted (by assumption) | exact Facts.z_sum (by assumption) | exact Facts.z_super (by assumption) | exact Facts.z_tuple (by assumption) | exact Facts.z_zip (by assumption) | exact Facts.g__wall (by assumption) | exact Facts.g_is_between (by assumption) | exact Facts.g_check_seat (by assumption) | exact Facts.g_check_amount (by assumption) | exact Facts.g_check_seats (by assumption) | exact Facts.g_check_seat_count (by assumption) | exact Facts.g_check_bills (by assumption) | exact Facts.g_check_mark (by assumption) | exact Facts.g_check_times (by assumption) | exact Facts.g_no_shares (by assumption) | exact Facts.g_seats_behind (by assumption) | exact Facts.g_split_bill (by assumption) | exact Facts.g_twice (by assumption) | exact Facts.g_repeated (by assumption) | exact Facts.g_lowest_terms (by assumption) | exact Facts.g_long_run (by assumption) | exact Facts.g_marks_after (by assumption) | exact Facts.g_known_after (by assumption) | exact Facts.g_evening_of_few (by assumption) | exact Facts.g_reset (by assumption) | exact Facts.g_telling (by assumption) | exact Facts.g_share_for_bill (by assumption) | exact Facts.g_paid_from_each_mark (by assumption) | exact Facts.g_widest_gap (by assumption) | exact Facts.g_best_mark (by assumption) | exact Facts.g_longer_ways (by assumption) | exact Facts.g_spread_of (by assumption) | exact Facts.g_fairest_order (by assumption) | exact Facts.g__law_start (by assumption) | exact Facts.g__law_drawn (by assumption) | exact Facts.g__law_all_there (by assumption) | exact Facts.g__law_two_and_all (by assumption) | exact Facts.g_law (by assumption) | exact Facts.g_Shares (by assumption) | exact Facts.g_Bill (by assumption) | exact Facts.g_Evening (by assumption) | exact Facts.g_MarkObserver (by assumption))
local macro_rules | `(tactic| walk_at "kp") => `(tactic| first | assumption | exact (Facts.mk_Shares (by assumption)).kp | exact (Facts.mk_Bill (by assumption)).kp | exact (Facts.mk_Evening (by assumption)).kp | exact (Facts.mk_MarkObserver (by assumption)).kp | exact Fun.kp (Facts.u__wall (by assumption)).choose_spec | exact Fun.kp (Facts.u_is_between (by assumption)).choose_spec | exact Fun.kp (Facts.u_check_seat (by assumption)).choose_spec | exact Fun.kp (Facts.u_check_amount (by assumption)).choose_spec | exact Fun.kp (Facts.u_check_seats (by assumption)).choose_spec | exact Fun.kp (Facts.u_check_seat_count (by assumption)).choose_spec | exact Fun.kp (Facts.u_check_bills (by assumption)).choose_spec | exact Fun.kp (Facts.u_check_mark (by assumption)).choose_spec | exact Fun.kp (Facts.u_check_times (by assumption)).choose_spec | exact Fun.kp (Facts.u_no_shares (by assumption)).choose_spec | exact Fun.kp (Facts.u_seats_behind (by assumption)).choose_spec | exact Fun.kp (Facts.u_split_bill (by assumption)).choose_spec | exact Fun.kp (Facts.u_twice (by assumption)).choose_spec | exact Fun.kp (Facts.u_repeated (by assumption)).choose_spec | exact Fun.kp (Facts.u_lowest_terms (by assumption)).choose_spec | exact Fun.kp (Facts.u_long_run (by assumption)).choose_spec | exact Fun.kp (Facts.u_marks_after (by assumption)).choose_spec | exact Fun.kp (Facts.u_known_after (by assumption)).choose_spec | exact Fun.kp (Facts.u_evening_of_few (by assumption)).choose_spec | exact Fun.kp (Facts.u_reset (by assumption)).choose_spec | exact Fun.kp (Facts.u_telling (by assumption)).choose_spec | exact Fun.kp (Facts.u_share_for_bill (by assumption)).choose_spec | exact Fun.kp (Facts.u_paid_from_each_mark (by assumption)).choose_spec | exact Fun.kp (Facts.u_widest_gap (by assumption)).choose_spec | exact Fun.kp (Facts.u_best_mark (by assumption)).choose_spec | exact Fun.kp (Facts.u_longer_ways (by assumption)).choose_spec | exact Fun.kp (Facts.u_spread_of (by assumption)).choose_spec | exact Fun.kp (Facts.u_fairest_order (by assumption)).choose_spec | exact Fun.kp (Facts.u__law_start (by assumption)).choose_spec | exact Fun.kp (Facts.u__law_drawn (by assumption)).choose_spec | exact Fun.kp (Facts.u__law_all_there (by assumption)).choose_spec | exact Fun.kp (Facts.u__law_two_and_all (by assumption)).choose_spec | exact Fun.kp (Facts.u_law (by assumption)).choose_spec)
/-! ### evenings that are repeated -/
section
variable {P : Program} {w : World} {K : PySem.W.Frag} {mg : Str → Option Value} {base : Heap} {a : Ad}
def zadd (x y : List Int) : List Int := List.zipWith (· + ·) x y
theorem zadd_len {x y : List Int} {n : Nat} (h : x.length = n) (h' : y.length = n) : (zadd x y).length = n := by
  unfold zadd
  rw [List.length_zipWith, h, h', Nat.min_self]
theorem zadd_assoc : ∀ (x y z : List Int), zadd (zadd x y) z = zadd x (zadd y z)
  | [], _, _ => by simp [zadd]
  | _ :: _, [], _ => by simp [zadd]
  | _ :: _, _ :: _, [] => by simp [zadd]
  | x :: xs, y :: ys, z :: zs => by
    have ih := zadd_assoc xs ys zs
    unfold zadd at ih ⊢
    rw [List.zipWith_cons_cons, List.zipWith_cons_cons, List.zipWith_cons_cons, List.zipWith_cons_cons, ih, Int.add_assoc]
theorem zadd_zero : ∀ (n : Nat) (y : List Int), y.length = n → zadd (List.replicate n 0) y = y
  | 0, [], _ => rfl
  | n + 1, y :: ys, h => by
    have ih := zadd_zero n ys (by simpa using h)
    unfold zadd at ih ⊢
    rw [List.replicate_succ, List.zipWith_cons_cons, ih, Int.zero_add]
theorem zadd_zero' : ∀ (n : Nat) (y : List Int), y.length = n → zadd y (List.replicate n 0) = y
  | 0, [], _ => rfl
  | n + 1, y :: ys, h => by
    have ih := zadd_zero' n ys (by simpa using h)
    unfold zadd at ih ⊢
    rw [List.replicate_succ, List.zipWith_cons_cons, ih, Int.add_zero]
/-- k evenings one after another, from m -/
def repRun (n : Nat) (bs : List (Int × List Int)) : Nat → Int → List Int × Int
  | 0, m => (List.replicate n 0, m)
  | k + 1, m => (zadd (repRun n bs k m).1 (evRun n (repRun n bs k m).2 bs).1, (evRun n (repRun n bs k m).2 bs).2)
theorem repRun_len (n : Nat) (bs : List (Int × List Int)) : ∀ (k : Nat) (m : Int), (repRun n bs k m).1.length = n
  | 0, _ => List.length_replicate
  | k + 1, m => zadd_len (repRun_len n bs k m) (evRun_len ..)
theorem repRun_one (n : Nat) (bs : List (Int × List Int)) (m : Int) : repRun n bs 1 m = evRun n m bs := by
  show (zadd (List.replicate n 0) (evRun n m bs).1, (evRun n m bs).2) = _
  rw [zadd_zero n _ (evRun_len ..)]
theorem repRun_add (n : Nat) (bs : List (Int × List Int)) (j : Nat) (m : Int) : ∀ k : Nat, repRun n bs (j + k) m = (zadd (repRun n bs j m).1 (repRun n bs k (repRun n bs j m).2).1, (repRun n bs k (repRun n bs j m).2).2)
  | 0 => by
    show repRun n bs j m = (zadd _ (List.replicate n 0), _)
    rw [zadd_zero' n _ (repRun_len ..)]
    rfl
  | k + 1 => by
    show (zadd (repRun n bs (j + k) m).1 (evRun n (repRun n bs (j + k) m).2 bs).1, (evRun n (repRun n bs (j + k) m).2 bs).2) = _
    rw [repRun_add n bs j m k, zadd_assoc]
    rfl
theorem evRun_range {n : Nat} {bs : List (Int × List Int)} (hb : ∀ b ∈ bs, OkBill b ∧ ∀ s ∈ b.2, s < (n : Int)) {m : Int} (h0 : 0 ≤ m) (h1 : m < (n : Int)) : ∀ k, 0 ≤ (evRun n m (bs.take k)).2 ∧ (evRun n m (bs.take k)).2 < (n : Int)
  | 0 => by rw [List.take_zero]; exact ⟨h0, h1⟩
  | k + 1 => by
    rw [List.take_add_one]
    cases e : bs[k]? with
    | none => rw [Option.toList, List.append_nil]; exact evRun_range hb h0 h1 k
    | some b =>
      obtain ⟨a0, a1⟩ := evRun_range hb h0 h1 k
      obtain ⟨o1, o2⟩ := hb b (List.mem_of_getElem? e)
      show 0 ≤ (evRun n m (bs.take k ++ [b])).2 ∧ (evRun n m (bs.take k ++ [b])).2 < (n : Int)
      rw [evRun_snoc]
      exact splitM_range o1 o2 a0 a1
theorem repRun_range {n : Nat} {bs : List (Int × List Int)} (hb : ∀ b ∈ bs, OkBill b ∧ ∀ s ∈ b.2, s < (n : Int)) {m : Int} (h0 : 0 ≤ m) (h1 : m < (n : Int)) : ∀ k, 0 ≤ (repRun n bs k m).2 ∧ (repRun n bs k m).2 < (n : Int)
  | 0 => ⟨h0, h1⟩
  | k + 1 => by
    obtain ⟨a0, a1⟩ := repRun_range hb h0 h1 k
    have h := evRun_range hb a0 a1 bs.length
    rw [List.take_of_length_le (Nat.le_refl _)] at h
    exact h
/-- a pair (shares, mark) stands at p -/
def PairAt (CS : Addr) (H : Hp) (p : Addr) (x : List Int × Int) : Prop := ∃ r, H p = some (.tup [.ref r, .int x.2]) ∧ ShAt CS H r x.1
theorem PairAt.keep {CS : Addr} {H H' : Hp} {p : Addr} {x : List Int × Int} (h : PairAt CS H p x) (k : ∀ b o, H b = some o → (∀ l, o ≠ .lst l) → H' b = some o) : PairAt CS H' p x := by
  obtain ⟨r, h1, dx, t, h2, h3⟩ := h
  exact ⟨r, k _ _ h1 (by simp), dx, t, k _ _ h2 (by simp), k _ _ h3 (by simp)⟩
/-- what a run does from each mark on -/
def RunAt (CS : Addr) (H : Hp) (rs : List Addr) (f : Nat → List Int × Int) : Prop := ∀ (i : Nat) p, rs[i]? = some p → PairAt CS H p (f i)
theorem RunAt.keep {CS : Addr} {H H' : Hp} {rs : List Addr} {f : Nat → List Int × Int} (h : RunAt CS H rs f) (k : ∀ b o, H b = some o → (∀ l, o ≠ .lst l) → H' b = some o) : RunAt CS H' rs f := fun i p e => (h i p e).keep k
theorem RunAt.snoc {CS : Addr} {H : Hp} {rs : List Addr} {f : Nat → List Int × Int} {p : Addr} (h : RunAt CS H rs f) (h' : PairAt CS H p (f rs.length)) : RunAt CS H (rs ++ [p]) f := fun i q e => by
  by_cases hi : i < rs.length
  · rw [List.getElem?_append_left hi] at e
    exact h i q e
  · rw [List.getElem?_append_right (by omega)] at e
    cases z : i - rs.length with
    | zero =>
      rw [z] at e
      cases e
      rw [show i = rs.length by omega]
      exact h'
    | succ j => rw [z] at e; simp at e
theorem keepL {H : Hp} {d : Addr} {l l' : List V} (h : H d = some (.lst l)) : ∀ b o, H b = some o → (∀ l, o ≠ .lst l) → (upd H d (.lst l')) b = some o := fun b o e n => by
  rw [upd_ne (fun z => by rw [z, h] at e; exact n l (Option.some.inj e).symm)]
  exact e
theorem keepS {H H' : Hp} (s : Same H H') : ∀ b o, H b = some o → (∀ l, o ≠ HO.lst l) → H' b = some o := fun b o e _ => s b o e
def spTwice (CS : Addr) : Sp := fun vs H Q _ => ∃ (l : Addr) (rs : List Addr) (n : Nat) (bs : List (Int × List Int)) (k : Nat), vs = [.ref l] ∧ H l = some (.lst (rs.map V.ref)) ∧ rs.length = n ∧ n ≤ 8 ∧ RunAt CS H rs (fun i => repRun n bs k (i : Nat)) ∧ (∀ b ∈ bs, OkBill b ∧ ∀ s ∈ b.2, s < (n : Int)) ∧
  ∀ l2 rs2 H', H l2 = none → Same H H' → H' l2 = some (.lst (rs2.map V.ref)) → rs2.length = n → RunAt CS H' rs2 (fun i => repRun n bs (k + k) (i : Nat)) → Q (.ref l2) H'
theorem ok_twice (T : Facts K mg a) : FnR P w K mg base (L2.CX P w) 4 a.f_twice (spTwice a.c_Shares) := by
  obtain ⟨fd, F⟩ := T.u_twice
  have GA : FnR P w K mg base (L2.CX P w) 3 a.f_Shares__add_ (spShAdd a.c_Shares a.c_OtherTable) := ok_sh_add T
  refine fnr_ok F sc_twice (F.binds fun _ _ _ _ _ _ us hl => match us, hl with | [_], _ => rfl) (fun vs H Q E h => ?_) (fun cdv A outer s H vs Q E hr h => ?_)
  · obtain ⟨l, rs, n, bs, k, rfl, _⟩ := h
    rfl
  · obtain ⟨l, rs, n, bs, k, rfl, hl, hlen, hn, hrun, hb, q⟩ := h
    refine ⟨_, (pss_cons (ps_set (i := 1) sc_twice.nd rfl (Or.inl rfl) (pe_lst pa_nil))
    (pss_cons (ps_for own_main rfl (pi_seqA Like.refl (pv 0)) (pg_tup rfl (pgs_cons (pg_name (i := 2) sc_twice.nd rfl (Or.inl rfl)) (pgs_cons (pg_name (i := 3) sc_twice.nd rfl (Or.inl rfl)) pgs_nil))) (pss_cons (ps_asg (pe_ixA Like.refl pas_main (pv 0) (pv 3)) (pg_tup rfl (pgs_cons (pg_name (i := 4) sc_twice.nd rfl (Or.inl rfl)) (pgs_cons (pg_name (i := 5) sc_twice.nd rfl (Or.inl rfl)) pgs_nil))))
    (pss_one (ps_expr (pe_bm PySem.F.plainAttrs_list PySem.F.slot_list_append PySem.F.type_list_append mt_append (pv 1) (pa_cons (pe_tup (pa_cons (pe_opA Like.refl pas_main (pv 2) (pv 4)) (pa_cons (pv 5) pa_nil))) pa_nil))))))
    (pss_one (ps_ret (pv 1))))), ?_⟩
    walk_at "go"
    refine ⟨by show 0 ≤ sizeLine; decide, fun d hd => ?_⟩
    walk_at "go"
    refine f_lst (a := l) (xs := rs.map V.ref) (fun i σ H' => Same H H' ∧ ∃ rs2 x2 x3 x4 x5, σ = [some (.ref l), some (.ref d), x2, x3, x4, x5] ∧ H' d = some (.lst (rs2.map V.ref)) ∧ rs2.length = i ∧ RunAt a.c_Shares H' rs2 (fun i => repRun n bs (k + k) (i : Nat))) (fun R k => ?_)
      ⟨same_new hd, [], none, none, none, none, rfl, upd_same, rfl, fun i p z => by simp at z⟩ (fun i σ H' _ pv => SqL.of (pv.1 _ _ hl)) (fun i x σ H' hx pv => ?_) (fun σ H' pv => ?_)
    · walk_at "go"
      exact k
    · obtain ⟨s1, rs2, x2, x3, x4, x5, rfl, hd1, hl2, hrun2⟩ := pv
      rw [List.getElem?_map] at hx
      cases e : rs[i]? with
      | none => rw [e] at hx; cases hx
      | some p =>
        rw [e] at hx
        cases hx
        obtain ⟨hi, _⟩ := List.getElem?_eq_some_iff.1 e
        obtain ⟨r, h1, sh⟩ := (hrun i p e).keep (keepS s1)
        obtain ⟨b0, b1⟩ := repRun_range hb (m := (i : Nat)) (by omega) (by omega) k
        generalize hmk : (repRun n bs k (i : Nat)).2 = mk at *
        have hmi : mk.toNat < rs.length := by omega
        have em := List.getElem?_eq_getElem hmi
        have z2 : PairAt a.c_Shares H' rs[mk.toNat] (repRun n bs k ((mk.toNat : Nat) : Int)) := (hrun mk.toNat _ em).keep (keepS s1)
        rw [show ((mk.toNat : Nat) : Int) = mk by omega] at z2
        obtain ⟨r2, g1, sh2⟩ := z2
        refine g_pair (SqT.of h1) ?_
        walk_at "go"
        refine s_ixL (SqL.of (s1 _ _ hl)) (v := .ref rs[mk.toNat]) (at_of (j := mk.toNat) (by omega) (by rw [List.getElem?_map, em] <;> rfl)) ?_
        refine g_pair (SqT.of g1) ?_
        walk_at "go"
        refine w_bm ?_
        walk_at "go"
        refine ⟨.inl ⟨rfl, _, SqL.of hd1⟩, ?_⟩
        walk_at "go"
        obtain ⟨dx, t, i1, i2⟩ := id sh
        obtain ⟨dy, u, j1, j2⟩ := id sh2
        have hl1 : (repRun n bs k (i : Nat)).1.length = n := repRun_len ..
        refine s_opSame T.sf_Shares T.m_Shares__add_ (by decide +kernel) GA hr i1 j1 ⟨r, r2, _, _, rfl, sh, sh2, by rw [hl1]; omega, fun hh r3 H3 hr3 s3 sh3 => ?_, fun hh => ?_⟩
        · walk_at "go"
          refine ⟨by show 2 ≤ sizeLine; decide, fun T2 hT2 => ?_⟩
          walk_at "go"
          have s4 := same_new (o := .tup [.ref r3, .int (repRun n bs k mk).2]) hT2
          have hd4 := s4 _ _ (s3 _ _ hd1)
          refine ⟨d, _, _, rfl, rfl, hd4, by rw [List.length_map, hl2]; exact Nat.lt_of_lt_of_le (show i < 100000 by omega) (by decide), ?_⟩
          walk_at "go"
          refine ⟨same_mut ((s1.trans s3).trans s4) hd, rs2 ++ [T2], _, _, _, _, rfl, by rw [upd_same, List.map_append]; rfl, by rw [List.length_append, hl2]; rfl, ?_⟩
          refine (hrun2.keep fun b o eb nb => keepL hd4 b o (s4 _ _ (s3 _ _ eb)) nb).snoc ?_
          rw [hl2, repRun_add, hmk]
          have sh4 := sh3.same s4
          exact PairAt.keep (H := upd H3 T2 (.tup [.ref r3, .int (repRun n bs k mk).2])) ⟨r3, upd_same, sh4⟩ (keepL hd4)
        · exact absurd (by rw [repRun_len, repRun_len]) hh
    · obtain ⟨s1, rs2, x2, x3, x4, x5, rfl, hd1, hl2, hrun2⟩ := pv
      rw [List.length_map, hlen] at hl2
      walk_at "go"
      exact q d rs2 H' hd s1 hd1 hl2 hrun2
end

section
variable {P : Program} {w : World} {K : PySem.W.Frag} {mg : Str → Option Value} {base : Heap} {a : Ad}
def spCkTimes : Sp := fun vs H Q _ => ∃ i : Int, vs = [.int i] ∧ 0 ≤ i ∧ i ≤ 10 ^ 18 ∧ Q .non H
theorem ok_check_times (T : Facts K mg a) : FnR P w K mg base (L2.CX P w) 2 a.f_check_times spCkTimes := by
  obtain ⟨fd, F⟩ := T.u_check_times
  have GB : FnR P w K mg base (L2.CX P w) 1 a.f_is_between spBetween := ok_between T
  refine fnr_ok F sc_check_times (F.binds fun _ _ _ _ _ _ us hl => match us, hl with | [_], _ => rfl) (fun vs H Q E h => ?_) (fun cdv A outer s H vs Q E hr h => ?_)
  · obtain ⟨i, rfl, _⟩ := h
    rfl
  · obtain ⟨i, rfl, h0, h1, q⟩ := h
    refine ⟨_, (pss_one (ps_if (pt_not (pt_trA Like.refl pas_main (pe_glA Like.refl pas_main (by rfl) (pa_cons (pv 0) (pa_cons (pe_int) (pa_cons (pe_gvI Like.refl (by rfl)) pa_nil)))))) (pss_one (ps_raA rfl tk_main (by rfl))) pss_nil)), ?_⟩
    walk_at "go"
    refine w_gvI T.i_MAX_TIMES.choose_spec ?_
    walk_at "go"
    refine s_btwT GB hr h0 (by omega) ?_
    walk_at "go"
    exact q
def spRep (CE CB CS : Addr) : Sp := fun vs H Q _ => ∃ (e : Addr) (m : Int) (t n : Nat) (bs : List (Int × List Int)), vs = [.ref e, .int m, .int t] ∧ EvAt CE CB H e n bs ∧ OkEv n bs ∧ 0 ≤ m ∧ m < (n : Int) ∧ t ≤ 10 ^ 18 ∧
  ∀ T H', Same H H' → PairAt CS H' T (repRun n bs t m) → Q (.ref T) H'
theorem ok_repeated (T : Facts K mg a) : FnR P w K mg base (L2.CX P w) 5 a.f_repeated (spRep a.c_Evening a.c_Bill a.c_Shares) := by
  obtain ⟨fd, F⟩ := T.u_repeated
  have GM : FnR P w K mg base (L2.CX P w) 2 a.f_check_mark spCkMark := ok_check_mark T
  have GT : FnR P w K mg base (L2.CX P w) 2 a.f_check_times spCkTimes := ok_check_times T
  have GN : FnR P w K mg base (L2.CX P w) 3 a.f_no_shares (spNoShares a.c_Shares) := ok_no_shares T
  have GC : FnR P w K mg base (L2.CX P w) 4 a.f_Evening__call_ (spEvCall a.c_Evening a.c_Bill a.c_Shares) := ok_ev_call T
  have GA : FnR P w K mg base (L2.CX P w) 3 a.f_Shares__add_ (spShAdd a.c_Shares a.c_OtherTable) := ok_sh_add T
  have GW : FnR P w K mg base (L2.CX P w) 4 a.f_twice (spTwice a.c_Shares) := ok_twice T
  have GE : FnR P w K mg base (L2.CX P w) 1 a.f_Evening_seat_count (spEvCount a.c_Evening) := ok_ev_count T
  refine fnr_ok F sc_repeated (F.binds fun _ _ _ _ _ _ us hl => match us, hl with | [_, _, _], _ => rfl) (fun vs H Q E h => ?_) (fun cdv A outer s H vs Q E hr h => ?_)
  · obtain ⟨e, m, t, n, bs, rfl, _⟩ := h
    rfl
  · obtain ⟨e, m, t, n, bs, rfl, hev, ok, h0, h1, ht, q⟩ := h
    obtain ⟨dx, tb, ps, e1, e2, e3⟩ := id hev
    have hn8 : n ≤ 8 := ok.2.1
    have hb := ok.2.2.2
    refine ⟨_, (pss_cons (ps_expr (pe_glA Like.refl pas_main (by rfl) (pa_cons (pv 1) (pa_cons (pe_atA Like.refl pas_main (pv 0)) pa_nil))))
    (pss_cons (ps_expr (pe_glA Like.refl pas_main (by rfl) (pa_cons (pv 2) pa_nil)))
    (pss_cons (ps_set (i := 3) sc_repeated.nd rfl (Or.inl rfl) (pe_glA Like.refl pas_main (by rfl) (pa_cons (pe_atA Like.refl pas_main (pv 0)) pa_nil)))
    (pss_cons (ps_setLc (i := 4) (own := [("start", 5)]) (g := gName 5) (tt := tYes) rfl sc_repeated.nd rfl rfl (sw_true rfl rfl rfl (by decide +kernel)) (pi_range1 (by rfl) T.z_range (pa_cons (pe_atA Like.refl pas_main (pv 0)) pa_nil)) (blkOk_by (own := [("start", 5)]) (N := N_repeated) (sc := defScope s_repeated) (by decide +kernel)) (fun _ _ _ _ _ => (pg_name (i := 5) sc_repeated.nd rfl (by first | exact Or.inl rfl | exact Or.inr rfl))) (fun _ _ _ _ _ => pts_nil) (fun _ _ _ _ _ => (pe_coA ⟨rfl, rfl, rfl, rfl, rfl, rfl, rfl⟩ passL (pv 0) (pa_cons (pv 5) pa_nil))))
    (pss_cons (ps_while own_main (pt_cmpA Like.refl pas_main (pv 2) (pe_int) (nomark _)) (pss_cons (ps_if (pt_cmpA Like.refl pas_main (pe_opA Like.refl pas_main (pv 2) (pe_int)) (pe_int) (nomark _)) (pss_cons (ps_asg (pe_ixA Like.refl pas_main (pv 4) (pv 1)) (pg_tup rfl (pgs_cons (pg_name (i := 6) sc_repeated.nd rfl (Or.inl rfl)) (pgs_cons (pg_name (i := 1) sc_repeated.nd rfl (Or.inl rfl)) pgs_nil))))
    (pss_one (ps_set (i := 3) sc_repeated.nd rfl (Or.inl rfl) (pe_opA Like.refl pas_main (pv 3) (pv 6))))) pss_nil)
    (pss_cons (ps_set (i := 4) sc_repeated.nd rfl (Or.inl rfl) (pe_glA Like.refl pas_main (by rfl) (pa_cons (pv 4) pa_nil)))
    (pss_one (ps_set (i := 2) sc_repeated.nd rfl (Or.inl rfl) (pe_opA Like.refl pas_main (pv 2) (pe_int)))))))
    (pss_one (ps_ret (pe_tup (pa_cons (pv 3) (pa_cons (pv 1) pa_nil)))))))))), ?_⟩
    walk_at "go"
    refine s_prop T.cl_Evening T.pr_Evening_seat_count GE (hr.mono (by decide)) e1 ⟨e, dx, tb, _, rfl, e1, ?_⟩
    walk_at "go"
    refine s_fn GM (hr.mono (by decide)) ⟨m, n, rfl, h0, h1, ?_⟩
    walk_at "go"
    refine s_fn GT (hr.mono (by decide)) ⟨t, rfl, by omega, by omega, ?_⟩
    walk_at "go"
    refine s_prop T.cl_Evening T.pr_Evening_seat_count GE (hr.mono (by decide)) e1 ⟨e, dx, tb, _, rfl, e1, ?_⟩
    walk_at "go"
    refine s_fn GN (hr.mono (by decide)) ⟨n, rfl, by omega, fun r0 H1 hr0 s1 sh1 => ?_⟩
    walk_at "go"
    refine c_rngI (n := n) (fun _ => False) (fun i o H2 => ∃ rs : List Addr, o = rs.map V.ref ∧ rs.length = i ∧ RunAt a.c_Shares H2 rs (fun i => repRun n bs 1 (i : Nat))) (by omega) (fun _ z => z.elim) (fun D hD => ⟨[], rfl, rfl, fun i p z => by simp at z⟩) (fun i o H2 hi pv => ?_)
      (fun i o H2 D l l' hD hd pv => ?_) (fun _ => rfl) (fun i H2 o hi s2 pv => ?_) (fun p2 o H2 hp2 s2 pv hL => ?_) (fun R k => ?_)
    · obtain ⟨rs, rfl, hl, _⟩ := pv
      rw [List.length_map]
      omega
    · obtain ⟨rs, rfl, hl, hrun⟩ := pv
      exact ⟨rs, rfl, hl, hrun.keep (keepL hd)⟩
    · obtain ⟨rs, rfl, hl, hrun⟩ := pv
      have s2' : Same H H2 := s1.trans fun b o e => s2 b o id e
      refine turnI_map fun R hR => ?_
      refine w_coA ?_
      walk_at "go"
      refine ⟨e, rfl, ?_⟩
      walk_at "go"
      refine ⟨⟨_, _, _, s2' _ _ e1⟩, s_callO (s2' _ _ e1) T.co_Evening GC (hr.mono (by decide)) ⟨e, i, n, bs, rfl, hev.same s2', ok, by omega, by omega, fun T9 r H9 hT9 s9 e9 sh9 => ?_⟩⟩
      refine hR _ _ (Same.b s9) ⟨rs ++ [T9], by rw [List.map_append]; rfl, by rw [List.length_append, hl]; rfl, (hrun.keep (keepS s9)).snoc ?_⟩
      rw [hl, repRun_one]
      exact ⟨r, e9, sh9⟩
    · obtain ⟨rs, rfl, hl, hrun⟩ := pv
      have s2' : Same H1 H2 := fun b o e => s2 b o id e
      walk_at "go"
      refine ⟨fun mm σ H3 => ∃ (t' j pw : Nat) (l : Addr) (rs : List Addr) (r : Addr) (x5 x6 : Option V), mm = t' ∧ j + pw * t' = t ∧ Same H H3 ∧ ShAt a.c_Shares H3 r (repRun n bs j m).1 ∧ H3 l = some (.lst (rs.map V.ref)) ∧ rs.length = n ∧ RunAt a.c_Shares H3 rs (fun i => repRun n bs pw (i : Nat)) ∧
        σ = [some (.ref e), some (.int (repRun n bs j m).2), some (.int t'), some (.ref r), some (.ref l), x5, x6], ⟨t, t, 0, 1, p2, rs, r0, none, none, rfl, by omega, s1.trans s2', sh1.same s2', hL, hl, hrun, rfl⟩, ?_⟩
      rintro mm σ H3 ⟨t', j, pw, l, rs, r, x5, x6, rfl, hj, s3, sh3, hl3, hlr, hrun3, rfl⟩
      walk_at "go"
      refine ite_d (fun hpos => ?_) (fun hz => ?_)
      · have hpos' : 0 < mm := by omega
        refine ⟨fun σ' H4 => ∃ m', m' < mm ∧ ∃ (t' j pw : Nat) (l : Addr) (rs : List Addr) (r : Addr) (x5 x6 : Option V), m' = t' ∧ j + pw * t' = t ∧ Same H H4 ∧ ShAt a.c_Shares H4 r (repRun n bs j m).1 ∧ H4 l = some (.lst (rs.map V.ref)) ∧ rs.length = n ∧ RunAt a.c_Shares H4 rs (fun i => repRun n bs pw (i : Nat)) ∧
          σ' = [some (.ref e), some (.int (repRun n bs j m).2), some (.int t'), some (.ref r), some (.ref l), x5, x6], fun _ _ h => h, ?_⟩
        walk_at "go"
        refine ite_d (fun hodd => ?_) (fun heven => ?_)
        · obtain ⟨q, hq⟩ : ∃ q, mm = 2 * q + 1 := ⟨mm / 2, by omega⟩
          obtain ⟨b0, b1⟩ := repRun_range hb h0 h1 j
          generalize hmk : (repRun n bs j m).2 = mk at *
          have hmi : mk.toNat < rs.length := by omega
          have em := List.getElem?_eq_getElem hmi
          have z2 : PairAt a.c_Shares H3 rs[mk.toNat] (repRun n bs pw ((mk.toNat : Nat) : Int)) := hrun3 mk.toNat _ em
          rw [show ((mk.toNat : Nat) : Int) = mk by omega] at z2
          obtain ⟨r2, g1, sh2⟩ := z2
          walk_at "go"
          refine s_ixL (SqL.of hl3) (v := .ref rs[mk.toNat]) (at_of (j := mk.toNat) (by omega) (by rw [List.getElem?_map, em] <;> rfl)) ?_
          refine g_pair (SqT.of g1) ?_
          walk_at "go"
          obtain ⟨dx1, t1, i1, i2⟩ := id sh3
          obtain ⟨dy1, u1, j1, j2⟩ := id sh2
          refine s_opSame T.sf_Shares T.m_Shares__add_ (by decide +kernel) GA (hr.mono (by decide)) i1 j1 ⟨r, r2, _, _, rfl, sh3, sh2, by rw [repRun_len]; omega, fun hh r3 H4 hr4 s4 sh4 => ?_, fun hh => ?_⟩
          · walk_at "go"
            refine s_fn GW hr ⟨l, rs, n, bs, pw, rfl, s4 _ _ hl3, hlr, hn8, hrun3.keep (keepS s4), hb, fun l2 rs2 H5 _ s5 hl5 hlr5 hrun5 => ?_⟩
            walk_at "go"
            refine s_fdiv ⟨by decide, by decide⟩ ?_
            walk_at "go"
            refine ⟨q, by omega, q, j + pw, pw + pw, l2, rs2, r3, x5, some (.ref r2), rfl, ?_, (s3.trans s4).trans s5, ?_, hl5, hlr5, hrun5, ?_⟩
            · have e2 : pw * (2 * q + 1) = (pw + pw) * q + pw := by rw [Nat.mul_add, Nat.mul_one, Nat.two_mul, Nat.mul_add, Nat.add_mul]
              rw [hq, e2] at hj
              omega
            · rw [repRun_add, hmk]
              exact sh4.same s5
            · rw [repRun_add, hmk, show (mm : Int) / 2 = ((q : Nat) : Int) by omega]
              rfl
          · exact absurd (by rw [repRun_len, repRun_len]) hh
        · obtain ⟨q, hq⟩ : ∃ q, mm = 2 * q := ⟨mm / 2, by omega⟩
          walk_at "go"
          refine s_fn GW hr ⟨l, rs, n, bs, pw, rfl, hl3, hlr, hn8, hrun3, hb, fun l2 rs2 H5 _ s5 hl5 hlr5 hrun5 => ?_⟩
          walk_at "go"
          refine s_fdiv ⟨by decide, by decide⟩ ?_
          walk_at "go"
          refine ⟨q, by omega, q, j, pw + pw, l2, rs2, r, x5, x6, rfl, ?_, s3.trans s5, sh3.same s5, hl5, hlr5, hrun5, ?_⟩
          · have e2 : pw * (2 * q) = (pw + pw) * q := by rw [Nat.two_mul, Nat.mul_add, Nat.add_mul]
            rw [hq, e2] at hj
            exact hj
          · rw [show (mm : Int) / 2 = ((q : Nat) : Int) by omega]
            rfl
      · walk_at "go"
        have ht0 : mm = 0 := by omega
        subst ht0
        rw [Nat.mul_zero, Nat.add_zero] at hj
        subst hj
        refine ⟨by show 2 ≤ sizeLine; decide, fun T2 hT2 => ?_⟩
        exact q T2 _ (s3.trans (same_new hT2)) ⟨r, upd_same, sh3.same (same_new hT2)⟩
    · walk_at "go"
      exact s_prop T.cl_Evening T.pr_Evening_seat_count GE (hr.mono (by decide)) (s1 _ _ e1) ⟨e, dx, tb, _, rfl, s1 _ _ e1, k⟩
end

end Odd

namespace Odd
open PySem PySem.Spec PyProof.Rows L2
/-! tactics of this text: st one step, go as many as go -/
local macro_rules | `(tactic| walk_at "ar") => `(tactic| first | assumption | omega | (show (_ : Int) < _; omega) | decide)
local macro_rules | `(tactic| walk_at "st") => `(tactic| first
  | with_reducible refine' w_seq ?_
  | with_reducible refine' w_asg ?_
  | with_reducible refine' w_name ?_
  | with_reducible refine' w_c ?_
  | with_reducible refine' w_op ?_
  | with_reducible refine' w_ix ?_
  | with_reducible refine' w_at ?_
  | with_reducible refine' w_cons ?_
  | with_reducible refine' w_nil ?_
  | with_reducible refine' w_ret ?_
  | with_reducible refine' w_if ?_
  | with_reducible refine' w_test ?_
  | with_reducible refine' w_tr ?_
  | with_reducible refine' w_un ?_
  | with_reducible refine' w_andV ?_
  | with_reducible refine' w_orV ?_
  | with_reducible refine' w_notA ?_
  | with_reducible refine' w_ch ?_
  | with_reducible refine' w_and ?_
  | with_reducible refine' w_or ?_
  | with_reducible refine' w_not ?_
  | with_reducible refine' w_ifx ?_
  | with_reducible refine' w_tup ?_
  | with_reducible refine' w_lst ?_
  | with_reducible refine' w_next ?_
  | with_reducible refine' w_drop ?_
  | with_reducible refine' w_retN ?_
  | ((with_reducible refine' w_var ?h ?_); (case h => exact rfl))
  | ((with_reducible refine' w_bi ?h ?_); (case h => walk_at "mg"))
  | ((with_reducible refine' w_bv ?h ?_); (case h => walk_at "mg"))
  | ((with_reducible refine' w_gv ?h ?_); (case h => walk_at "mg"))
  | ((with_reducible refine' w_gl ?h ?k ?_); (case h => walk_at "mg"); (case k => walk_at "kp"))
  | ((with_reducible refine' w_glS ?h ?k ?_); (case h => walk_at "mg"); (case k => walk_at "kp"))
  | with_reducible refine' bl_ex ?_
  | with_reducible refine' iteT ?_
  | with_reducible refine' iteF ?_
  | with_reducible refine' ite_nf ?_
  | with_reducible refine' ite_nt ?_
  | with_reducible refine' s_add ?_
  | with_reducible refine' s_sub ?_
  | with_reducible refine' s_lt ?_
  | with_reducible refine' s_le ?_
  | with_reducible refine' s_gt ?_
  | with_reducible refine' s_ge ?_
  | with_reducible refine' s_eqI ?_
  | with_reducible refine' s_neI ?_
  | with_reducible refine' s_eqB ?_
  | with_reducible refine' s_neB ?_
  | with_reducible refine' s_truB ?_
  | with_reducible refine' s_truI ?_
  | with_reducible refine' s_neg ?_
  | ((with_reducible refine' s_mod ?h ?_); (case h => walk_at "ar")))
local macro_rules | `(tactic| walk_at "go") => `(tactic| repeat walk_at "st")

local macro_rules | `(tactic| walk_at "mg") => `(tactic| first | assumption | exact Facts.z_TypeError (by assumption) | exact Facts.z_abs (by assumption) | exact Facts.z_bool (by assumption) | exact Facts.z_classmethod (by assumption) | exact Facts.z_divmod (by assumption) | exact Facts.z_enumerate (by assumption) | exact Facts.z_int (by assumption) | exact Facts.z_isinstance (by assumption) | exact Facts.z_len (by assumption) | exact Facts.z_list (by assumption) | exact Facts.z_max (by assumption) | exact Facts.z_min (by assumption) | exact Facts.z_property (by assumption) | exact Facts.z_range (by assumption) | exact Facts.z_sorted (by assumption) | exact Facts.z_sum (by assumption) | exact Facts.z_super (by assumption) | exact Facts.z_tuple (by assumption) | exact Facts.z_zip (by assumption) | exact Facts.g__wall (by assumption) | exact Facts.g_is_between (by assumption) | exact Facts.g_check_seat (by assumption) | exact Facts.g_check_amount (by assumption) | exact Facts.g_check_seats (by assumption) | exact Facts.g_check_seat_count (by assumption) | exact Facts.g_check_bills (by assumption) | exact Facts.g_check_mark (by assumption) | exact Facts.g_check_times (by assumption) | exact Facts.g_no_shares (by assumption) | exact Facts.g_seats_behind (by assumption) | exact Facts.g_split_bill (by assumption) | exact Facts.g_twice (by assumption) | exact Facts.g_repeated (by assumption) | exact Facts.g_lowest_terms (by assumption) | exact Facts.g_long_run (by assumption) | exact Facts.g_marks_after (by assumption) | exact Facts.g_known_after (by assumption) | exact Facts.g_evening_of_few (by assumption) | exact Facts.g_reset (by assumption) | exact Facts.g_telling (by assumption) | exact Facts.g_share_for_bill (by assumption) | exact Facts.g_paid_from_each_mark (by assumption) | exact Facts.g_widest_gap (by assumption) | exact Facts.g_best_mark (by assumption) | exact Facts.g_longer_ways (by assumption) | exact Facts.g_spread_of (by assumption) | exact Facts.g_fairest_order (by assumption) | exact Facts.g__law_start (by assumption) | exact Facts.g__law_drawn (by assumption) | exact Facts.g__law_all_there (by assumption) | exact Facts.g__law_two_and_all (by assumption) | exact Facts.g_law (by assumption) | exact Facts.g_Shares (by assumption) | exact Facts.g_Bill (by assumption) | exact Facts.g_Evening (by assumption) | exact Facts.g_MarkObserver (by assumption))
local macro_rules | `(tactic| walk_at "kp") => `(tactic| first | assumption | exact (Facts.mk_Shares (by assumption)).kp | exact (Facts.mk_Bill (by assumption)).kp | exact (Facts.mk_Evening (by assumption)).kp | exact (Facts.mk_MarkObserver (by assumption)).kp | exact Fun.kp (Facts.u__wall (by assumption)).choose_spec | exact Fun.kp (Facts.u_is_between (by assumption)).choose_spec | exact Fun.kp (Facts.u_check_seat (by assumption)).choose_spec | exact Fun.kp (Facts.u_check_amount (by assumption)).choose_spec | exact Fun.kp (Facts.u_check_seats (by assumption)).choose_spec | exact Fun.kp (Facts.u_check_seat_count (by assumption)).choose_spec | exact Fun.kp (Facts.u_check_bills (by assumption)).choose_spec | exact Fun.kp (Facts.u_check_mark (by assumption)).choose_spec | exact Fun.kp (Facts.u_check_times (by assumption)).choose_spec | exact Fun.kp (Facts.u_no_shares (by assumption)).choose_spec | exact Fun.kp (Facts.u_seats_behind (by assumption)).choose_spec | exact Fun.kp (Facts.u_split_bill (by assumption)).choose_spec | exact Fun.kp (Facts.u_twice (by assumption)).choose_spec | exact Fun.kp (Facts.u_repeated (by assumption)).choose_spec | exact Fun.kp (Facts.u_lowest_terms (by assumption)).choose_spec | exact Fun.kp (Facts.u_long_run (by assumption)).choose_spec | exact Fun.kp (Facts.u_marks_after (by assumption)).choose_spec | exact Fun.kp (Facts.u_known_after (by assumption)).choose_spec | exact Fun.kp (Facts.u_evening_of_few (by assumption)).choose_spec | exact Fun.kp (Facts.u_reset (by assumption)).choose_spec | exact Fun.kp (Facts.u_telling (by assumption)).choose_spec | exact Fun.kp (Facts.u_share_for_bill (by assumption)).choose_spec | exact Fun.kp (Facts.u_paid_from_each_mark (by assumption)).choose_spec | exact Fun.kp (Facts.u_widest_gap (by assumption)).choose_spec | exact Fun.kp (Facts.u_best_mark (by assumption)).choose_spec | exact Fun.kp (Facts.u_longer_ways (by assumption)).choose_spec | exact Fun.kp (Facts.u_spread_of (by assumption)).choose_spec | exact Fun.kp (Facts.u_fairest_order (by assumption)).choose_spec | exact Fun.kp (Facts.u__law_start (by assumption)).choose_spec | exact Fun.kp (Facts.u__law_drawn (by assumption)).choose_spec | exact Fun.kp (Facts.u__law_all_there (by assumption)).choose_spec | exact Fun.kp (Facts.u__law_two_and_all (by assumption)).choose_spec | exact Fun.kp (Facts.u_law (by assumption)).choose_spec)
/-! ### marks come back -/
section
theorem pigeon : ∀ (n : Nat) (g : Nat → Nat), (∀ i, i ≤ n → g i < n) → ∃ i j, i < j ∧ j ≤ n ∧ g i = g j
  | 0, g, h => absurd (h 0 (Nat.le_refl _)) (Nat.not_lt_zero _)
  | n + 1, g, h => by
    by_cases hx : ∃ i, i ≤ n ∧ g i = g (n + 1)
    · obtain ⟨i, h1, h2⟩ := hx
      exact ⟨i, n + 1, by omega, Nat.le_refl _, h2⟩
    · have hv := h (n + 1) (Nat.le_refl _)
      have hne : ∀ i, i ≤ n → g i ≠ g (n + 1) := fun i hi e => hx ⟨i, hi, e⟩
      obtain ⟨i, j, h1, h2, h3⟩ := pigeon n (fun i => if g i < g (n + 1) then g i else g i - 1) (fun i hi => by
        have a := h i (by omega)
        have b := hne i hi
        show (if g i < g (n + 1) then g i else g i - 1) < n
        split <;> omega)
      have b1 := hne i (by omega)
      have b2 := hne j h2
      refine ⟨i, j, h1, by omega, ?_⟩
      have h3' : (if g i < g (n + 1) then g i else g i - 1) = (if g j < g (n + 1) then g j else g j - 1) := h3
      split at h3' <;> split at h3' <;> omega
variable {n : Nat} {bs : List (Int × List Int)}
theorem rep2 (j k : Nat) (m : Int) : (repRun n bs (j + k) m).2 = (repRun n bs k (repRun n bs j m).2).2 := by rw [repRun_add]
/-- what seat i pays -/
def cst (n : Nat) (bs : List (Int × List Int)) (k : Nat) (m : Int) (i : Nat) : Int := (repRun n bs k m).1.getD i 0
theorem zadd_getD {x y : List Int} {i : Nat} (h : x.length = n) (h' : y.length = n) (hi : i < n) : (zadd x y).getD i 0 = x.getD i 0 + y.getD i 0 := by
  unfold zadd
  rw [List.getD_eq_getElem?_getD, List.getD_eq_getElem?_getD, List.getD_eq_getElem?_getD, List.getElem?_zipWith, List.getElem?_eq_getElem (by omega), List.getElem?_eq_getElem (by omega)]
  rfl
theorem cst_add {i : Nat} (hi : i < n) (j k : Nat) (m : Int) : cst n bs (j + k) m i = cst n bs j m i + cst n bs k (repRun n bs j m).2 i := by
  unfold cst
  rw [repRun_add]
  exact zadd_getD (repRun_len ..) (repRun_len ..) hi
theorem per_exists (hb : ∀ b ∈ bs, OkBill b ∧ ∀ s ∈ b.2, s < (n : Int)) {m : Int} (h0 : 0 ≤ m) (h1 : m < (n : Int)) : ∃ L, 1 ≤ L ∧ L ≤ n ∧ (repRun n bs L (repRun n bs n m).2).2 = (repRun n bs n m).2 := by
  obtain ⟨i, j, hij, hj, he⟩ := pigeon n (fun k => (repRun n bs k m).2.toNat) (fun k _ => by
    have := repRun_range hb h0 h1 k
    show (repRun n bs k m).2.toNat < n
    omega)
  have ri := repRun_range hb h0 h1 i
  have rj := repRun_range hb h0 h1 j
  have he' : (repRun n bs i m).2 = (repRun n bs j m).2 := by
    have : (repRun n bs i m).2.toNat = (repRun n bs j m).2.toNat := he
    omega
  refine ⟨j - i, by omega, by omega, ?_⟩
  have e1 : (repRun n bs n m).2 = (repRun n bs (n - i) (repRun n bs i m).2).2 := by rw [← rep2, show i + (n - i) = n by omega]
  have e2 : (repRun n bs (j - i) (repRun n bs i m).2).2 = (repRun n bs i m).2 := by rw [← rep2, show i + (j - i) = j by omega]; exact he'.symm
  rw [e1, ← rep2, Nat.add_comm, rep2, e2]
theorem per_shift {P : Nat} {y : Int} (h : (repRun n bs P y).2 = y) (s : Nat) : (repRun n bs P (repRun n bs s y).2).2 = (repRun n bs s y).2 := by rw [← rep2, Nat.add_comm, rep2, h]
theorem cst_shift {P : Nat} {y : Int} {i : Nat} (hi : i < n) (h : (repRun n bs P y).2 = y) (s : Nat) : cst n bs P (repRun n bs s y).2 i = cst n bs P y i := by
  have a := cst_add (bs := bs) hi s P y
  have b := cst_add (bs := bs) hi P s y
  rw [h] at b
  rw [Nat.add_comm] at b
  omega
theorem per_mul {L : Nat} {y : Int} (h : (repRun n bs L y).2 = y) : ∀ k : Nat, (repRun n bs (L * k) y).2 = y
  | 0 => rfl
  | k + 1 => by rw [Nat.mul_succ, rep2, per_mul h k, h]
theorem cst_mul {L : Nat} {y : Int} {i : Nat} (hi : i < n) (h : (repRun n bs L y).2 = y) : ∀ k : Nat, cst n bs (L * k) y i = (k : Int) * cst n bs L y i
  | 0 => by
    rw [Nat.mul_zero, show ((0 : Nat) : Int) = 0 from rfl, Int.zero_mul]
    show (List.replicate n (0 : Int)).getD i 0 = 0
    rw [List.getD_eq_getElem?_getD, List.getElem?_replicate, if_pos hi]
    rfl
  | k + 1 => by
    rw [Nat.mul_succ, cst_add hi, cst_mul hi h k, per_mul h k, show ((k + 1 : Nat) : Int) = (k : Int) + 1 by omega, Int.add_mul, Int.one_mul]
/-- in lowest terms, the denominator from 1 to 8 -/
def Low (a b : Int) : Prop := 1 ≤ b ∧ b ≤ 8 ∧ ∀ k : Int, 2 ≤ k → k ≤ b → ¬ (a % k = 0 ∧ b % k = 0)
theorem low_of (c : Int) {L : Nat} (h1 : 1 ≤ L) (h8 : L ≤ 8) : Low (c / ((Nat.gcd c.natAbs L : Nat) : Int)) ((L : Int) / ((Nat.gcd c.natAbs L : Nat) : Int)) ∧
    c = ((Nat.gcd c.natAbs L : Nat) : Int) * (c / ((Nat.gcd c.natAbs L : Nat) : Int)) ∧ (L : Int) = ((Nat.gcd c.natAbs L : Nat) : Int) * ((L : Int) / ((Nat.gcd c.natAbs L : Nat) : Int)) := by
  generalize hg : Nat.gcd c.natAbs L = g
  have g1 : 1 ≤ g := by rw [← hg]; exact Nat.gcd_pos_of_pos_right _ (by omega)
  have d1 : (g : Int) ∣ c := by rw [← hg]; exact Int.ofNat_dvd_left.2 (Nat.gcd_dvd_left ..)
  have d2 : (g : Int) ∣ (L : Int) := by rw [← hg]; exact Int.natCast_dvd_natCast.2 (Nat.gcd_dvd_right ..)
  have e1 := Int.mul_ediv_cancel' d1
  have e2 := Int.mul_ediv_cancel' d2
  generalize ha : c / (g : Int) = a at *
  generalize hb : (L : Int) / (g : Int) = b at *
  have b1 : 1 ≤ b := by
    rcases Int.lt_or_le b 1 with z | z
    · have : (g : Int) * b ≤ (g : Int) * 0 := Int.mul_le_mul_of_nonneg_left (by omega) (by omega)
      rw [Int.mul_zero] at this
      omega
    · exact z
  have b8 : b ≤ 8 := by
    have : 1 * b ≤ (g : Int) * b := Int.mul_le_mul_of_nonneg_right (by omega) (by omega)
    rw [Int.one_mul] at this
    omega
  refine ⟨⟨b1, b8, fun k hk _ ⟨z1, z2⟩ => ?_⟩, e1.symm, e2.symm⟩
  obtain ⟨a', ha'⟩ := Int.dvd_of_emod_eq_zero z1
  obtain ⟨b', hb'⟩ := Int.dvd_of_emod_eq_zero z2
  have t1 : ((g : Int) * k) ∣ c := ⟨a', by rw [← e1, ha', Int.mul_assoc]⟩
  have t2 : ((g : Int) * k) ∣ (L : Int) := ⟨b', by rw [← e2, hb', Int.mul_assoc]⟩
  obtain ⟨kn, rfl⟩ := Int.eq_ofNat_of_zero_le (show 0 ≤ k by omega)
  have u1 : g * kn ∣ c.natAbs := Int.ofNat_dvd_left.1 (by rw [Int.natCast_mul]; exact t1)
  have u2 : g * kn ∣ L := Int.natCast_dvd_natCast.1 (by rw [Int.natCast_mul]; exact t2)
  have u3 : g * kn ∣ g := by
    have := Nat.dvd_gcd u1 u2
    rw [hg] at this
    exact this
  have u4 := Nat.le_of_dvd (by omega) u3
  have u5 : g * 2 ≤ g * kn := Nat.mul_le_mul_left _ (by omega)
  omega
end

section
variable {P : Program} {w : World} {K : PySem.W.Frag} {mg : Str → Option Value} {base : Heap} {a : Ad}
def spLowest : Sp := fun vs H Q _ => ∃ (c : Int) (L : Nat), vs = [.int c, .int L] ∧ 1 ≤ L ∧ L ≤ 8 ∧ ∀ T H', H T = none → Same H H' → H' T = some (.tup [.int (c / ((Nat.gcd c.natAbs L : Nat) : Int)), .int ((L : Int) / ((Nat.gcd c.natAbs L : Nat) : Int))]) → Q (.ref T) H'
theorem ok_lowest_terms (T : Facts K mg a) : FnR P w K mg base (L2.CX P w) 1 a.f_lowest_terms spLowest := by
  obtain ⟨fd, F⟩ := T.u_lowest_terms
  refine fnr_ok F sc_lowest_terms (F.binds fun _ _ _ _ _ _ us hl => match us, hl with | [_, _], _ => rfl) (fun vs H Q E h => ?_) (fun cdv A outer s H vs Q E hr h => ?_)
  · obtain ⟨c, L, rfl, _⟩ := h
    rfl
  · obtain ⟨c, L, rfl, h1, h8, q⟩ := h
    have g1 : 0 < Nat.gcd c.natAbs L := Nat.gcd_pos_of_pos_right _ (by omega)
    have g8 : Nat.gcd c.natAbs L ≤ L := Nat.gcd_le_right _ (by omega)
    refine ⟨_, (pss_cons (ps_set (i := 2) sc_lowest_terms.nd rfl (Or.inl rfl) (pe_callBfun cr_gcd (by rfl) T.b_gcd (pa_cons (pv 0) (pa_cons (pv 1) pa_nil))))
    (pss_one (ps_ret (pe_tup (pa_cons (pe_opA Like.refl pas_main (pv 0) (pv 2)) (pa_cons (pe_opA Like.refl pas_main (pv 1) (pv 2)) pa_nil)))))), ?_⟩
    walk_at "go"
    refine w_cb ?_
    walk_at "go"
    refine ⟨c, L, rfl, ?_⟩
    rw [Int.natAbs_natCast]
    walk_at "go"
    refine s_fdivW (wide_div (b := 80) (by omega) (by omega) (by decide) (by decide)) ?_
    walk_at "go"
    refine s_fdivW (wide_div (b := 80) (by omega) (by omega) (by decide) (by decide)) ?_
    walk_at "go"
    refine ⟨by show 2 ≤ sizeLine; decide, fun T2 hT2 => ?_⟩
    exact q T2 _ hT2 (same_new hT2) upd_same
/-- a fraction stands at p -/
def FracAt (H : Hp) (p : Addr) (x : Int × Int) : Prop := H p = some (.tup [.int x.1, .int x.2])
def frac (c : Int) (L : Nat) : Int × Int := (c / ((Nat.gcd c.natAbs L : Nat) : Int), (L : Int) / ((Nat.gcd c.natAbs L : Nat) : Int))
def spLong (CE CB : Addr) : Sp := fun vs H Q _ => ∃ (e : Addr) (m : Int) (n : Nat) (bs : List (Int × List Int)), vs = [.ref e, .int m] ∧ EvAt CE CB H e n bs ∧ OkEv n bs ∧ 0 ≤ m ∧ m < (n : Int) ∧
  ∀ (L : Nat) (T : Addr) (fs : List Addr) H', Same H H' → 1 ≤ L → L ≤ n → (repRun n bs L (repRun n bs n m).2).2 = (repRun n bs n m).2 → H' T = some (.tup (fs.map V.ref)) → fs.length = n → (∀ (i : Nat) p, fs[i]? = some p → FracAt H' p (frac (cst n bs L (repRun n bs n m).2 i) L)) → Q (.ref T) H'
theorem ok_long_run (T : Facts K mg a) : FnR P w K mg base (L2.CX P w) 6 a.f_long_run (spLong a.c_Evening a.c_Bill) := by
  obtain ⟨fd, F⟩ := T.u_long_run
  have GR : FnR P w K mg base (L2.CX P w) 5 a.f_repeated (spRep a.c_Evening a.c_Bill a.c_Shares) := ok_repeated T
  have GC : FnR P w K mg base (L2.CX P w) 4 a.f_Evening__call_ (spEvCall a.c_Evening a.c_Bill a.c_Shares) := ok_ev_call T
  have GA : FnR P w K mg base (L2.CX P w) 3 a.f_Shares__add_ (spShAdd a.c_Shares a.c_OtherTable) := ok_sh_add T
  have GL : FnR P w K mg base (L2.CX P w) 1 a.f_lowest_terms spLowest := ok_lowest_terms T
  have GE : FnR P w K mg base (L2.CX P w) 1 a.f_Evening_seat_count (spEvCount a.c_Evening) := ok_ev_count T
  have GCe : FnR P w K mg base (L2.CX P w) 1 a.f_Shares_cents (spShCents a.c_Shares) := ok_sh_cents T
  refine fnr_ok F sc_long_run (F.binds fun _ _ _ _ _ _ us hl => match us, hl with | [_, _], _ => rfl) (fun vs H Q E h => ?_) (fun cdv A outer s H vs Q E hr h => ?_)
  · obtain ⟨e, m, n, bs, rfl, _⟩ := h
    rfl
  · obtain ⟨e, m, n, bs, rfl, hev, ok, h0, h1, q⟩ := h
    obtain ⟨dx, tb, ps, e1, e2, e3⟩ := id hev
    have hn8 : n ≤ 8 := ok.2.1
    have hb := ok.2.2.2
    obtain ⟨L0, hL1, hLn, hper⟩ := per_exists hb h0 h1
    obtain ⟨st0, st1⟩ := repRun_range hb h0 h1 n
    refine ⟨_, (pss_cons (ps_asg (pe_glA Like.refl pas_main (by rfl) (pa_cons (pv 0) (pa_cons (pv 1) (pa_cons (pe_atA Like.refl pas_main (pv 0)) pa_nil)))) (pg_tup rfl (pgs_cons (pg_name (i := 2) sc_long_run.nd rfl (Or.inl rfl)) (pgs_cons (pg_name (i := 3) sc_long_run.nd rfl (Or.inl rfl)) pgs_nil))))
    (pss_cons (ps_asg (pe_coA Like.refl pas_main (pv 0) (pa_cons (pv 3) pa_nil)) (pg_tup rfl (pgs_cons (pg_name (i := 4) sc_long_run.nd rfl (Or.inl rfl)) (pgs_cons (pg_name (i := 1) sc_long_run.nd rfl (Or.inl rfl)) pgs_nil))))
    (pss_cons (ps_set (i := 5) sc_long_run.nd rfl (Or.inr rfl) (pe_int))
    (pss_cons (ps_while own_main (pt_cmpA Like.refl pas_main (pv 1) (pv 3) (nomark _)) (pss_cons (ps_asg (pe_coA Like.refl pas_main (pv 0) (pa_cons (pv 1) pa_nil)) (pg_tup rfl (pgs_cons (pg_name (i := 6) sc_long_run.nd rfl (Or.inl rfl)) (pgs_cons (pg_name (i := 1) sc_long_run.nd rfl (Or.inl rfl)) pgs_nil))))
    (pss_cons (ps_set (i := 4) sc_long_run.nd rfl (Or.inl rfl) (pe_opA Like.refl pas_main (pv 4) (pv 6)))
    (pss_one (ps_augA (i := 5) Like.refl pas_main sc_long_run.nd rfl (Or.inr rfl) (pe_int))))))
    (pss_one (ps_ret (pe_tyA (T := "tuple") Like.refl pas_main (by rfl) (by decide +kernel) (pa_cons (pe_lc (own := [("cents", 7)]) (g := gName 7) (tt := tYes) rfl sc_long_run.nd (pi_seqA Like.refl (pe_atA Like.refl pas_main (pv 4))) (blkOk_by (own := [("cents", 7)]) (N := N_long_run) (sc := defScope s_long_run) (by decide +kernel)) (fun _ _ _ _ _ => (pg_name (i := 7) sc_long_run.nd rfl (by first | exact Or.inl rfl | exact Or.inr rfl))) (fun _ _ _ _ _ => pts_nil) (fun _ _ _ _ _ => (pe_glA ⟨rfl, rfl, rfl, rfl, rfl, rfl, rfl⟩ passL (by rfl) (pa_cons (pv 7) (pa_cons (pv 5) pa_nil))))) pa_nil)))))))), ?_⟩
    walk_at "go"
    refine s_prop T.cl_Evening T.pr_Evening_seat_count GE (hr.mono (by decide)) e1 ⟨e, dx, tb, _, rfl, e1, ?_⟩
    walk_at "go"
    refine s_fn GR hr ⟨e, m, n, n, bs, rfl, hev, ok, h0, h1, by omega, fun T1 H1 s1 hp1 => ?_⟩
    obtain ⟨r1, g1, _⟩ := hp1
    refine g_pair (SqT.of g1) ?_
    generalize hst : (repRun n bs n m).2 = st at *
    walk_at "go"
    refine w_coA ?_
    walk_at "go"
    refine ⟨e, rfl, ?_⟩
    walk_at "go"
    refine ⟨⟨_, _, _, s1 _ _ e1⟩, s_callO (s1 _ _ e1) T.co_Evening GC (hr.mono (by decide)) ⟨e, st, n, bs, rfl, hev.same s1, ok, st0, st1, fun T2 r2 H2 hT2 s2 g2 sh2 => ?_⟩⟩
    refine g_pair (SqT.of g2) ?_
    rw [← repRun_one] at sh2 ⊢
    walk_at "go"
    refine ⟨fun mm σ H3 => ∃ (c : Nat) (r : Addr) (x2 x6 x7 : Option V), mm = L0 - c ∧ 1 ≤ c ∧ c ≤ L0 ∧ Same H H3 ∧ ShAt a.c_Shares H3 r (repRun n bs c st).1 ∧ σ = [some (.ref e), some (.int (repRun n bs c st).2), x2, some (.int st), some (.ref r), some (.int c), x6, x7],
      ⟨L0 - 1, 1, r2, _, none, none, rfl, Nat.le_refl _, hL1, s1.trans s2, sh2, rfl⟩, ?_⟩
    rintro mm σ H3 ⟨c, r, x2, x6, x7, rfl, hc1, hcL, s3, sh3, rfl⟩
    obtain ⟨b0, b1⟩ := repRun_range hb st0 st1 c
    walk_at "go"
    refine ite_n (fun hne => ?_) (fun heq => ?_)
    · have hcl : c < L0 := by
        rcases Nat.lt_or_ge c L0 with z | z
        · exact z
        · have : c = L0 := by omega
          subst this
          exact absurd hper hne
      refine ⟨fun σ' H4 => ∃ m', m' < L0 - c ∧ ∃ (c : Nat) (r : Addr) (x2 x6 x7 : Option V), m' = L0 - c ∧ 1 ≤ c ∧ c ≤ L0 ∧ Same H H4 ∧ ShAt a.c_Shares H4 r (repRun n bs c st).1 ∧ σ' = [some (.ref e), some (.int (repRun n bs c st).2), x2, some (.int st), some (.ref r), some (.int c), x6, x7], fun _ _ h => h, ?_⟩
      walk_at "go"
      refine w_coA ?_
      walk_at "go"
      refine ⟨e, rfl, ?_⟩
      walk_at "go"
      refine ⟨⟨_, _, _, s3 _ _ e1⟩, s_callO (s3 _ _ e1) T.co_Evening GC (hr.mono (by decide)) ⟨e, _, n, bs, rfl, hev.same s3, ok, b0, b1, fun T4 r4 H4 hT4 s4 g4 sh4 => ?_⟩⟩
      refine g_pair (SqT.of g4) ?_
      obtain ⟨dx1, t1, i1, i2⟩ := id sh3
      obtain ⟨dy1, u1, j1, j2⟩ := id sh4
      walk_at "go"
      refine s_opSame T.sf_Shares T.m_Shares__add_ (by decide +kernel) GA (hr.mono (by decide)) (s4 _ _ i1) j1 ⟨r, r4, _, _, rfl, sh3.same s4, sh4, by rw [repRun_len]; omega, fun hh r5 H5 hr5 s5 sh5 => ?_, fun hh => ?_⟩
      · walk_at "go"
        refine w_augI rfl ?_
        walk_at "go"
        refine s_iadd ?_
        walk_at "go"
        exact ⟨L0 - (c + 1), by omega, c + 1, r5, _, _, _, rfl, by omega, hcl, (s3.trans s4).trans s5, sh5, rfl⟩
      · exact absurd (by rw [repRun_len, evRun_len]) hh
    · obtain ⟨dx1, t1, i1, i2⟩ := id sh3
      walk_at "go"
      refine c_tupI (a := t1) (xs := (repRun n bs c st).1.map V.int) (fun _ => False) (fun i o H2 => ∃ fs : List Addr, o = fs.map V.ref ∧ fs.length = i ∧ ∀ (j : Nat) p, fs[j]? = some p → FracAt H2 p (frac (cst n bs c st j) c)) (fun _ z => z.elim) (fun D hD => ⟨[], rfl, rfl, fun i p z => by simp at z⟩) (fun i o H2 hi pv => ?_)
        (fun H2 s2 => SqT.of (s2 _ _ id i2)) (fun i o H2 D l l' hD hd pv => ?_) (fun _ => rfl) (fun i x H2 o hx s5 pv => ?_) (fun po o H5 hpo s5 pv hL5 => ?_) (fun R k => ?_)
      · obtain ⟨fs, rfl, hl, _⟩ := pv
        rw [List.length_map, repRun_len] at hi
        rw [List.length_map]
        omega
      · obtain ⟨fs, rfl, hl, hf⟩ := pv
        exact ⟨fs, rfl, hl, fun j p e => by have := hf j p e; unfold FracAt at this ⊢; rw [upd_ne (ne_of this hd (by simp))]; exact this⟩
      · obtain ⟨fs, rfl, hl, hf⟩ := pv
        rw [List.getElem?_map] at hx
        cases ec : (repRun n bs c st).1[i]? with
        | none => rw [ec] at hx; cases hx
        | some z =>
          rw [ec] at hx
          cases hx
          have ez : cst n bs c st i = z := by
            unfold cst
            rw [List.getD_eq_getElem?_getD, ec]
            rfl
          refine turnI_map fun R hR => ?_
          walk_at "go"
          refine s_fn GL (hr.mono (by decide)) ⟨z, c, rfl, hc1, by omega, fun T6 H6 hT6 s6 g6 => ?_⟩
          refine hR _ _ (Same.b s6) ⟨fs ++ [T6], by rw [List.map_append]; rfl, by rw [List.length_append, hl]; rfl, fun j p e => ?_⟩
          by_cases hj : j < fs.length
          · rw [List.getElem?_append_left hj] at e
            exact s6 _ _ (hf j p e)
          · rw [List.getElem?_append_right (by omega)] at e
            cases zz : j - fs.length with
            | zero =>
              rw [zz] at e
              cases e
              rw [show j = i by omega, ez]
              exact g6
            | succ y => rw [zz] at e; simp at e
      · obtain ⟨fs, rfl, hl, hf⟩ := pv
        rw [List.length_map, repRun_len] at hl
        walk_at "go"
        refine s_tupleL (SqL.of hL5) fun l hl9 => ?_
        have s5' : Same H3 H5 := fun b o e => s5 b o id e
        exact q c l fs _ ((s3.trans s5').trans (same_new hl9)) hc1 (by omega) heq upd_same hl fun i p e => same_new hl9 _ _ (hf i p e)
      · walk_at "go"
        exact s_prop T.cl_Shares T.pr_Shares_cents GCe (hr.mono (by decide)) i1 ⟨r, dx1, t1, rfl, i1, k⟩
end

theorem frac_eq {c1 c2 : Int} {L1 L2 : Nat} (h1 : 1 ≤ L1) (h2 : 1 ≤ L2) (e : c1 * L2 = c2 * L1) : frac c1 L1 = frac c2 L2 := by
  have g1 : 0 < Nat.gcd c1.natAbs L1 := Nat.gcd_pos_of_pos_right _ h1
  have g2 : 0 < Nat.gcd c2.natAbs L2 := Nat.gcd_pos_of_pos_right _ h2
  obtain ⟨a1, ha1⟩ := Int.natAbs_dvd_natAbs.1 (show ((Nat.gcd c1.natAbs L1 : Nat) : Int).natAbs ∣ c1.natAbs from Nat.gcd_dvd_left ..)
  obtain ⟨b1, hb1⟩ := Nat.gcd_dvd_right c1.natAbs L1
  obtain ⟨a2, ha2⟩ := Int.natAbs_dvd_natAbs.1 (show ((Nat.gcd c2.natAbs L2 : Nat) : Int).natAbs ∣ c2.natAbs from Nat.gcd_dvd_left ..)
  obtain ⟨b2, hb2⟩ := Nat.gcd_dvd_right c2.natAbs L2
  have k1 := Nat.coprime_div_gcd_div_gcd g1
  have k2 := Nat.coprime_div_gcd_div_gcd g2
  generalize hG1 : Nat.gcd c1.natAbs L1 = G1 at *
  generalize hG2 : Nat.gcd c2.natAbs L2 = G2 at *
  have n1 : c1.natAbs / G1 = a1.natAbs := by rw [ha1, Int.natAbs_mul, Int.natAbs_natCast, Nat.mul_div_cancel_left _ g1]
  have n2 : c2.natAbs / G2 = a2.natAbs := by rw [ha2, Int.natAbs_mul, Int.natAbs_natCast, Nat.mul_div_cancel_left _ g2]
  have m1 : L1 / G1 = b1 := by rw [hb1, Nat.mul_div_cancel_left _ g1]
  have m2 : L2 / G2 = b2 := by rw [hb2, Nat.mul_div_cancel_left _ g2]
  rw [n1, m1] at k1
  rw [n2, m2] at k2
  have hb1p : 0 < b1 := by rcases Nat.eq_zero_or_pos b1 with z | z; (rw [z, Nat.mul_zero] at hb1; omega); exact z
  have hb2p : 0 < b2 := by rcases Nat.eq_zero_or_pos b2 with z | z; (rw [z, Nat.mul_zero] at hb2; omega); exact z
  have e2 : a1 * b2 = a2 * b1 := by
    have z : ((G1 : Int) * (G2 : Int)) * (a1 * b2) = ((G1 : Int) * (G2 : Int)) * (a2 * b1) := by
      rw [ha1, ha2] at e
      rw [hb1, hb2, Int.natCast_mul, Int.natCast_mul] at e
      calc ((G1 : Int) * (G2 : Int)) * (a1 * b2) = (G1 : Int) * a1 * ((G2 : Int) * b2) := by ac_rfl
        _ = (G2 : Int) * a2 * ((G1 : Int) * b1) := e
        _ = _ := by ac_rfl
    exact Int.eq_of_mul_eq_mul_left (Int.mul_ne_zero (by omega) (by omega)) z
  have e3 : a1.natAbs * b2 = a2.natAbs * b1 := by
    have := congrArg Int.natAbs e2
    rwa [Int.natAbs_mul, Int.natAbs_mul, Int.natAbs_natCast, Int.natAbs_natCast] at this
  have d1 : b1 ∣ b2 := Nat.Coprime.dvd_of_dvd_mul_left k1.symm ⟨a2.natAbs, by rw [e3, Nat.mul_comm]⟩
  have d2 : b2 ∣ b1 := Nat.Coprime.dvd_of_dvd_mul_left k2.symm ⟨a1.natAbs, by rw [← e3, Nat.mul_comm]⟩
  have eb : b1 = b2 := Nat.dvd_antisymm d1 d2
  have ea : a1 = a2 := by
    rw [eb] at e2
    exact Int.eq_of_mul_eq_mul_right (by omega) e2
  unfold frac
  rw [hG1, hG2]
  have q1 : c1 / (G1 : Int) = a1 := by rw [ha1, Int.mul_ediv_cancel_left _ (by omega)]
  have q2 : c2 / (G2 : Int) = a2 := by rw [ha2, Int.mul_ediv_cancel_left _ (by omega)]
  have q3 : (L1 : Int) / (G1 : Int) = b1 := by rw [hb1, Int.natCast_mul, Int.mul_ediv_cancel_left _ (by omega)]
  have q4 : (L2 : Int) / (G2 : Int) = b2 := by rw [hb2, Int.natCast_mul, Int.mul_ediv_cancel_left _ (by omega)]
  rw [q1, q2, q3, q4, ea, eb]
/-- two reckonings of the long run -/
theorem long_eq {n : Nat} {bs : List (Int × List Int)} {m : Int} {L L' i : Nat} (hn : n ≤ 8) (hi : i < n) (h1 : 1 ≤ L) (h1' : 1 ≤ L') (hL : (repRun n bs L (repRun n bs n m).2).2 = (repRun n bs n m).2) (hL' : (repRun n bs L' (repRun n bs 8 m).2).2 = (repRun n bs 8 m).2) :
    frac (cst n bs L (repRun n bs n m).2 i) L = frac (cst n bs L' (repRun n bs 8 m).2 i) L' := by
  have e8 : (repRun n bs 8 m).2 = (repRun n bs (8 - n) (repRun n bs n m).2).2 := by rw [← rep2, show n + (8 - n) = 8 by omega]
  have p8 : (repRun n bs L (repRun n bs 8 m).2).2 = (repRun n bs 8 m).2 := by rw [e8]; exact per_shift hL _
  have c8 : cst n bs L (repRun n bs 8 m).2 i = cst n bs L (repRun n bs n m).2 i := by rw [e8]; exact cst_shift hi hL _
  refine frac_eq h1 h1' ?_
  have a1 := cst_mul (bs := bs) hi p8 L'
  have a2 := cst_mul (bs := bs) hi hL' L
  rw [Nat.mul_comm] at a2
  rw [a2, c8] at a1
  rw [Int.mul_comm, ← a1, Int.mul_comm]

/-! ### the even shares, seat by seat -/
theorem fold_at {q : Int} {i : Nat} : ∀ (ss c : List Int), (∀ s ∈ ss, 0 ≤ s) → i < c.length → (ss.foldl (fun c s => c.set s.toNat q) c)[i]? = if (i : Int) ∈ ss then some q else c[i]?
  | [], c, _, _ => by simp
  | s :: ss, c, h, hi => by
    rw [List.foldl_cons, fold_at ss (c.set s.toNat q) (fun x hx => h x (List.mem_cons_of_mem _ hx)) (by rw [List.length_set]; exact hi)]
    have h0 := h s (List.mem_cons_self ..)
    by_cases h1 : (i : Int) ∈ ss
    · rw [if_pos h1, if_pos (List.mem_cons_of_mem _ h1)]
    · rw [if_neg h1]
      by_cases h2 : (i : Int) = s
      · rw [if_pos (by rw [h2]; exact List.mem_cons_self ..), show s.toNat = i by omega, List.getElem?_set_self hi]
      · rw [if_neg (by intro z; rcases List.mem_cons.1 z with z | z; exact h2 z; exact h1 z), List.getElem?_set_ne (by omega)]
theorem base_pick {n : Nat} {q : Int} {ss : List Int} (h : ∀ s ∈ ss, 0 ≤ s) : baseC n q ss = (List.range n).map fun i : Nat => if (i : Int) ∈ ss then q else 0 := by
  refine List.ext_getElem? fun i => ?_
  by_cases hi : i < n
  · unfold baseC
    rw [fold_at ss _ h (by rw [List.length_replicate]; exact hi), List.getElem?_map, List.getElem?_range hi, List.getElem?_replicate, if_pos hi]
    show _ = some (if (i : Int) ∈ ss then q else 0)
    split <;> rfl
  · rw [List.getElem?_eq_none (by rw [baseC_len]; omega), List.getElem?_eq_none (by rw [List.length_map, List.length_range]; omega)]

/-! ### odd cents dealt round the table, when all are there -/
section
def full (n : Nat) : List Int := (List.range n).map fun i : Nat => (i : Int)
theorem full_mem {n : Nat} {s : Int} : s ∈ full n ↔ 0 ≤ s ∧ s < (n : Int) := by
  unfold full
  constructor
  · intro h
    obtain ⟨i, hi, rfl⟩ := List.mem_map.1 h
    have := List.mem_range.1 hi
    omega
  · intro h
    exact List.mem_map.2 ⟨s.toNat, List.mem_range.2 (by omega), by omega⟩
theorem full_len (n : Nat) : (full n).length = n := by unfold full; rw [List.length_map, List.length_range]
theorem full_asc {n : Nat} (h : 2 ≤ n) (h8 : n ≤ 8) : asc 0 (full n) = true := by
  have : n = 2 ∨ n = 3 ∨ n = 4 ∨ n = 5 ∨ n = 6 ∨ n = 7 ∨ n = 8 := by omega
  rcases this with e | e | e | e | e | e | e <;> (subst e; decide)
theorem full_ok {n : Nat} {x : Int} (h : 2 ≤ n) (h8 : n ≤ 8) (h0 : 0 ≤ x) (h1 : x ≤ 10 ^ 12) : RowOk n (x, full n) :=
  ⟨⟨h0, h1, full_asc h h8, fun z => by have := congrArg List.length z; rw [full_len] at this; simp at this; omega⟩, fun s hs => (full_mem.1 hs).2⟩
theorem pls_len (n : Nat) (m : Int) : ∀ j, (pls n m j).length = j
  | 0 => rfl
  | j + 1 => by show (pls n m j ++ [pl n m (j + 1)]).length = _; rw [List.length_append, pls_len n m j]; rfl
theorem hits_full {n : Nat} {m : Int} (h0 : 0 ≤ m) (h1 : m < (n : Int)) : ∀ j, j ≤ n → hits n m (full n) j = pls n m j
  | 0, _ => rfl
  | j + 1, h => by
    rw [hits_next, if_pos (full_mem.2 (pl_range h0 h1 (by omega))), hits_full h0 h1 j (by omega)]
    rfl
/-- how many steps from behind the mark to a seat -/
def dst (n : Nat) (m s : Int) : Int := if m < s then s - m - 1 else s - m - 1 + (n : Int)
theorem pl_dst {n : Nat} {m s : Int} {j : Nat} (h0 : 0 ≤ m) (h1 : m < (n : Int)) (s0 : 0 ≤ s) (s1 : s < (n : Int)) (hj : j < n) : pl n m (j + 1) = s ↔ dst n m s = (j : Int) := by
  unfold pl dst
  split <;> split <;> omega
theorem bumps_get {n : Nat} {m s : Int} {c : List Int} (hc : c.length = n) (h0 : 0 ≤ m) (h1 : m < (n : Int)) (s0 : 0 ≤ s) (s1 : s < (n : Int)) : ∀ r : Nat, r ≤ n → (bumps c (pls n m r)).getD s.toNat 0 = c.getD s.toNat 0 + if dst n m s < (r : Int) then 1 else 0
  | 0, _ => by
    have : 0 ≤ dst n m s := by unfold dst; split <;> omega
    rw [if_neg (by omega), Int.add_zero]
    rfl
  | r + 1, h => by
    have ih := bumps_get hc h0 h1 s0 s1 r (by omega)
    show (bumps c (pls n m r ++ [pl n m (r + 1)])).getD s.toNat 0 = _
    have hl : (bumps c (pls n m r)).length = n := by rw [bumps_len, hc]
    have hp := pl_range h0 h1 (show r + 1 ≤ n by omega)
    have hd := pl_dst (j := r) h0 h1 s0 s1 (by omega)
    rw [bumps_snoc, List.getD_eq_getElem?_getD]
    by_cases e : pl n m (r + 1) = s
    · rw [e, List.getElem?_set_self (by omega)]
      have := hd.1 e
      show (bumps c (pls n m r)).getD s.toNat 0 + 1 = _
      rw [ih, if_neg (by omega), if_pos (by omega)]
      omega
    · rw [List.getElem?_set_ne (by omega), ← List.getD_eq_getElem?_getD, ih]
      have : dst n m s ≠ (r : Int) := fun z => e (hd.2 z)
      congr 1
      by_cases h2 : dst n m s < (r : Int)
      · rw [if_pos h2, if_pos (by omega)]
      · rw [if_neg h2, if_neg (by omega)]
/-- what a seat pays of an amount, when all are there -/
def cellv (n : Nat) (m x s : Int) : Int := x / (n : Int) + if dst n m s < x % (n : Int) then 1 else 0
theorem payers_full {n : Nat} {m x : Int} (h : 2 ≤ n) (h8 : n ≤ 8) (h0 : 0 ≤ m) (h1 : m < (n : Int)) : payers m (x, full n) = pls n m (x % (n : Int)).toNat := by
  have hr0 : 0 ≤ x % (n : Int) := Int.emod_nonneg _ (by omega)
  have hr1 : x % (n : Int) < (n : Int) := Int.emod_lt_of_pos _ (by omega)
  have ht := (hits_take (n := n) (m := m) (ss := full n) (j := (x % (n : Int)).toNat) h0 h1 (full_asc h h8) (fun s hs => (full_mem.1 hs).2) (by omega)).1
  rw [hits_full h0 h1 _ (by omega), pls_len] at ht
  show (behind m (full n)).take (x % ((full n).length : Nat)).toNat = _
  rw [full_len, ← ht]
theorem split_full {n : Nat} {m x s : Int} (h : 2 ≤ n) (h8 : n ≤ 8) (h0 : 0 ≤ m) (h1 : m < (n : Int)) (s0 : 0 ≤ s) (s1 : s < (n : Int)) : (splitC n m (x, full n)).getD s.toNat 0 = cellv n m x s := by
  have hr0 : 0 ≤ x % (n : Int) := Int.emod_nonneg _ (by omega)
  have hr1 : x % (n : Int) < (n : Int) := Int.emod_lt_of_pos _ (by omega)
  unfold splitC
  rw [payers_full h h8 h0 h1, bumps_get (baseC_len ..) h0 h1 s0 s1 _ (by omega)]
  show (baseC n (x / ((full n).length : Nat)) (full n)).getD s.toNat 0 + _ = _
  rw [full_len, base_pick (fun s hs => (full_mem.1 hs).1), List.getD_eq_getElem?_getD, List.getElem?_map, List.getElem?_range (by omega)]
  show (if ((s.toNat : Nat) : Int) ∈ full n then x / (n : Int) else 0) + _ = _
  rw [if_pos (full_mem.2 (by omega))]
  unfold cellv
  rw [show (((x % (n : Int)).toNat : Nat) : Int) = x % (n : Int) by omega]
theorem mark_full {n : Nat} {m x : Int} (h : 2 ≤ n) (h8 : n ≤ 8) (h0 : 0 ≤ m) (h1 : m < (n : Int)) : splitM m (x, full n) = pl n m (x % (n : Int)).toNat := by
  unfold splitM
  rw [payers_full h h8 h0 h1]
  cases (x % (n : Int)).toNat with
  | zero =>
    show m = pl n m 0
    unfold pl
    rw [if_pos (by omega)]
    omega
  | succ j =>
    show (pls n m j ++ [pl n m (j + 1)]).getLastD m = _
    rw [List.getLastD_concat]
/-- one amount after another is their sum -/
theorem cell_add {n : Nat} {m x y s : Int} (h : 2 ≤ n) (h0 : 0 ≤ m) (h1 : m < (n : Int)) (s0 : 0 ≤ s) (s1 : s < (n : Int)) :
    cellv n m x s + cellv n (pl n m (x % (n : Int)).toNat) y s = cellv n m (x + y) s ∧ pl n (pl n m (x % (n : Int)).toNat) (y % (n : Int)).toNat = pl n m ((x + y) % (n : Int)).toNat := by
  have rx0 : 0 ≤ x % (n : Int) := Int.emod_nonneg _ (by omega)
  have rx1 : x % (n : Int) < (n : Int) := Int.emod_lt_of_pos _ (by omega)
  have ry0 : 0 ≤ y % (n : Int) := Int.emod_nonneg _ (by omega)
  have ry1 : y % (n : Int) < (n : Int) := Int.emod_lt_of_pos _ (by omega)
  have ex := Int.mul_ediv_add_emod x (n : Int)
  have ey := Int.mul_ediv_add_emod y (n : Int)
  have es : ((x + y) / (n : Int) = x / (n : Int) + y / (n : Int) ∧ (x + y) % (n : Int) = x % (n : Int) + y % (n : Int) ∧ x % (n : Int) + y % (n : Int) < (n : Int)) ∨
      ((x + y) / (n : Int) = x / (n : Int) + y / (n : Int) + 1 ∧ (x + y) % (n : Int) = x % (n : Int) + y % (n : Int) - (n : Int) ∧ (n : Int) ≤ x % (n : Int) + y % (n : Int)) := by
    by_cases hc : x % (n : Int) + y % (n : Int) < (n : Int)
    · have u := (Int.ediv_emod_unique (a := x + y) (b := (n : Int)) (r := x % (n : Int) + y % (n : Int)) (q := x / (n : Int) + y / (n : Int)) (by omega)).2 ⟨by rw [Int.mul_add]; omega, by omega, hc⟩
      exact .inl ⟨u.1, u.2, hc⟩
    · have u := (Int.ediv_emod_unique (a := x + y) (b := (n : Int)) (r := x % (n : Int) + y % (n : Int) - (n : Int)) (q := x / (n : Int) + y / (n : Int) + 1) (by omega)).2 ⟨by rw [Int.mul_add, Int.mul_add]; omega, by omega, by omega⟩
      exact .inr ⟨u.1, u.2, by omega⟩
  unfold cellv pl dst
  generalize x % (n : Int) = rx at *
  generalize y % (n : Int) = ry at *
  generalize x / (n : Int) = qx at *
  generalize y / (n : Int) = qy at *
  rcases es with ⟨e1, e2, e3⟩ | ⟨e1, e2, e3⟩
  · rw [e1, e2]
    constructor <;> (repeat' split) <;> omega
  · rw [e1, e2]
    constructor <;> (repeat' split) <;> omega
/-- an evening of bills for all -/
theorem run_full {n : Nat} {m : Int} (h : 2 ≤ n) (h8 : n ≤ 8) (h0 : 0 ≤ m) (h1 : m < (n : Int)) : ∀ (k : Nat) (xs : List Int), xs.length = k → (∀ s, 0 ≤ s → s < (n : Int) → (evRun n m (xs.map fun x => (x, full n))).1.getD s.toNat 0 = cellv n m xs.sum s) ∧ (evRun n m (xs.map fun x => (x, full n))).2 = pl n m (xs.sum % (n : Int)).toNat
  | 0, xs, e => by
    rw [List.length_eq_zero_iff.1 e]
    refine ⟨fun s s0 s1 => ?_, ?_⟩
    · show (List.replicate n (0 : Int)).getD s.toNat 0 = cellv n m 0 s
      unfold cellv
      have : 0 ≤ dst n m s := by unfold dst; split <;> omega
      rw [List.getD_eq_getElem?_getD, List.getElem?_replicate, if_pos (by omega), Int.zero_ediv, Int.zero_emod, if_neg (by omega)]
      rfl
    · show m = pl n m (0 % (n : Int)).toNat
      rw [Int.zero_emod]
      unfold pl
      rw [if_pos (by show m + 0 < _; omega)]
      show m = m + 0
      omega
  | k + 1, xs, e => by
    obtain ⟨l, b, rfl⟩ : ∃ l b, xs = l ++ [b] := ⟨xs.dropLast, xs.getLast (by intro z; rw [z] at e; cases e), (List.dropLast_concat_getLast _).symm⟩
    rw [List.length_append, List.length_singleton] at e
    obtain ⟨i1, i2⟩ := run_full h h8 h0 h1 k l (by omega)
    rw [List.map_append, List.map_singleton, evRun_snoc, i2, List.sum_append, List.sum_singleton]
    have hr0 : 0 ≤ l.sum % (n : Int) := Int.emod_nonneg _ (by omega)
    have hr1 : l.sum % (n : Int) < (n : Int) := Int.emod_lt_of_pos _ (by omega)
    have hp := pl_range h0 h1 (show (l.sum % (n : Int)).toNat ≤ n by omega)
    refine ⟨fun s s0 s1 => ?_, ?_⟩
    · have hz := zadd_getD (n := n) (i := s.toNat) (evRun_len n m (l.map fun x => (x, full n))) (splitC_len n (pl n m (l.sum % (n : Int)).toNat) (b, full n)) (by omega)
      show (zadd _ _).getD s.toNat 0 = _
      rw [hz, i1 s s0 s1, split_full h h8 hp.1 hp.2 s0 s1]
      exact (cell_add h h0 h1 s0 s1).1
    · show splitM _ (b, full n) = _
      rw [mark_full h h8 hp.1 hp.2]
      exact (cell_add (s := 0) h h0 h1 (by omega) (by omega)).2
theorem run_one {n : Nat} {m : Int} (h : 2 ≤ n) (h8 : n ≤ 8) (h0 : 0 ≤ m) (h1 : m < (n : Int)) (xs : List Int) : evRun n m (xs.map fun x => (x, full n)) = evRun n m [(xs.sum, full n)] := by
  obtain ⟨a1, a2⟩ := run_full h h8 h0 h1 xs.length xs rfl
  obtain ⟨b1, b2⟩ := run_full h h8 h0 h1 1 [xs.sum] rfl
  rw [List.sum_singleton] at b1 b2
  have e1 : (evRun n m (xs.map fun x => (x, full n))).1 = (evRun n m ([xs.sum].map fun x => (x, full n))).1 := by
    refine List.ext_getElem? fun i => ?_
    by_cases hi : i < n
    · have g1 := a1 (i : Int) (by omega) (by omega)
      have g2 := b1 (i : Int) (by omega) (by omega)
      rw [← g2, Int.toNat_natCast, List.getD_eq_getElem?_getD, List.getD_eq_getElem?_getD, List.getElem?_eq_getElem (by rw [evRun_len]; exact hi), List.getElem?_eq_getElem (by rw [evRun_len]; exact hi)] at g1
      rw [List.getElem?_eq_getElem (by rw [evRun_len]; exact hi), List.getElem?_eq_getElem (by rw [evRun_len]; exact hi)]
      exact congrArg some g1
    · rw [List.getElem?_eq_none (by rw [evRun_len]; omega), List.getElem?_eq_none (by rw [evRun_len]; omega)]
  have e2 : (evRun n m (xs.map fun x => (x, full n))).2 = (evRun n m ([xs.sum].map fun x => (x, full n))).2 := by rw [a2, b2]
  exact Prod.ext e1 e2
theorem spread_full {n : Nat} {m : Int} (h : 2 ≤ n) (h8 : n ≤ 8) (h0 : 0 ≤ m) (h1 : m < (n : Int)) (xs : List Int) : maxI (evRun n m (xs.map fun x => (x, full n))).1 - minI (evRun n m (xs.map fun x => (x, full n))).1 ≤ 1 := by
  obtain ⟨a1, _⟩ := run_full h h8 h0 h1 xs.length xs rfl
  have hl := evRun_len n m (xs.map fun x => (x, full n))
  generalize (evRun n m (xs.map fun x => (x, full n))).1 = l at *
  have hne : l ≠ [] := fun z => by rw [z] at hl; simp at hl; omega
  have bd : ∀ y ∈ l, xs.sum / (n : Int) ≤ y ∧ y ≤ xs.sum / (n : Int) + 1 := fun y hy => by
    obtain ⟨i, hi⟩ := List.mem_iff_getElem?.1 hy
    obtain ⟨hi2, _⟩ := List.getElem?_eq_some_iff.1 hi
    have g := a1 (i : Int) (by omega) (by omega)
    rw [Int.toNat_natCast, List.getD_eq_getElem?_getD, hi] at g
    have g' : y = cellv n m xs.sum i := g
    rw [g']
    unfold cellv
    split <;> omega
  have b1 := bd _ (maxI_spec l hne).1
  have b2 := bd _ (minI_spec l hne).1
  omega
end

end Odd

namespace Odd
open PySem PySem.Spec PyProof.Rows L2
/-! tactics of this text: st one step, go as many as go -/
local macro_rules | `(tactic| walk_at "ar") => `(tactic| first | assumption | omega | (show (_ : Int) < _; omega) | decide)
local macro_rules | `(tactic| walk_at "st") => `(tactic| first
  | with_reducible refine' w_seq ?_
  | with_reducible refine' w_asg ?_
  | with_reducible refine' w_name ?_
  | with_reducible refine' w_c ?_
  | with_reducible refine' w_op ?_
  | with_reducible refine' w_ix ?_
  | with_reducible refine' w_at ?_
  | with_reducible refine' w_cons ?_
  | with_reducible refine' w_nil ?_
  | with_reducible refine' w_ret ?_
  | with_reducible refine' w_if ?_
  | with_reducible refine' w_test ?_
  | with_reducible refine' w_tr ?_
  | with_reducible refine' w_un ?_
  | with_reducible refine' w_andV ?_
  | with_reducible refine' w_orV ?_
  | with_reducible refine' w_notA ?_
  | with_reducible refine' w_ch ?_
  | with_reducible refine' w_and ?_
  | with_reducible refine' w_or ?_
  | with_reducible refine' w_not ?_
  | with_reducible refine' w_ifx ?_
  | with_reducible refine' w_tup ?_
  | with_reducible refine' w_lst ?_
  | with_reducible refine' w_next ?_
  | with_reducible refine' w_drop ?_
  | with_reducible refine' w_retN ?_
  | ((with_reducible refine' w_var ?h ?_); (case h => exact rfl))
  | ((with_reducible refine' w_bi ?h ?_); (case h => walk_at "mg"))
  | ((with_reducible refine' w_bv ?h ?_); (case h => walk_at "mg"))
  | ((with_reducible refine' w_gv ?h ?_); (case h => walk_at "mg"))
  | ((with_reducible refine' w_gl ?h ?k ?_); (case h => walk_at "mg"); (case k => walk_at "kp"))
  | ((with_reducible refine' w_glS ?h ?k ?_); (case h => walk_at "mg"); (case k => walk_at "kp"))
  | with_reducible refine' bl_ex ?_
  | with_reducible refine' iteT ?_
  | with_reducible refine' iteF ?_
  | with_reducible refine' ite_nf ?_
  | with_reducible refine' ite_nt ?_
  | with_reducible refine' s_add ?_
  | with_reducible refine' s_sub ?_
  | with_reducible refine' s_lt ?_
  | with_reducible refine' s_le ?_
  | with_reducible refine' s_gt ?_
  | with_reducible refine' s_ge ?_
  | with_reducible refine' s_eqI ?_
  | with_reducible refine' s_neI ?_
  | with_reducible refine' s_eqB ?_
  | with_reducible refine' s_neB ?_
  | with_reducible refine' s_truB ?_
  | with_reducible refine' s_truI ?_
  | with_reducible refine' s_neg ?_
  | ((with_reducible refine' s_mod ?h ?_); (case h => walk_at "ar")))
local macro_rules | `(tactic| walk_at "go") => `(tactic| repeat walk_at "st")

local macro_rules | `(tactic| walk_at "mg") => `(tactic| first | assumption | exact Facts.z_TypeError (by assumption) | exact Facts.z_abs (by assumption) | exact Facts.z_bool (by assumption) | exact Facts.z_classmethod (by assumption) | exact Facts.z_divmod (by assumption) | exact Facts.z_enumerate (by assumption) | exact Facts.z_int (by assumption) | exact Facts.z_isinstance (by assumption) | exact Facts.z_len (by assumption) | exact Facts.z_list (by assumption) | exact Facts.z_max (by assumption) | exact Facts.z_min (by assumption) | exact Facts.z_property (by assumption) | exact Facts.z_range (by assumption) | exact Facts.z_sorted (by assumption) | exact Facts.z_sum (by assumption) | exact Facts.z_super (by assumption) | exact Facts.z_tuple (by assumption) | exact Facts.z_zip (by assumption) | exact Facts.g__wall (by assumption) | exact Facts.g_is_between (by assumption) | exact Facts.g_check_seat (by assumption) | exact Facts.g_check_amount (by assumption) | exact Facts.g_check_seats (by assumption) | exact Facts.g_check_seat_count (by assumption) | exact Facts.g_check_bills (by assumption) | exact Facts.g_check_mark (by assumption) | exact Facts.g_check_times (by assumption) | exact Facts.g_no_shares (by assumption) | exact Facts.g_seats_behind (by assumption) | exact Facts.g_split_bill (by assumption) | exact Facts.g_twice (by assumption) | exact Facts.g_repeated (by assumption) | exact Facts.g_lowest_terms (by assumption) | exact Facts.g_long_run (by assumption) | exact Facts.g_marks_after (by assumption) | exact Facts.g_known_after (by assumption) | exact Facts.g_evening_of_few (by assumption) | exact Facts.g_reset (by assumption) | exact Facts.g_telling (by assumption) | exact Facts.g_share_for_bill (by assumption) | exact Facts.g_paid_from_each_mark (by assumption) | exact Facts.g_widest_gap (by assumption) | exact Facts.g_best_mark (by assumption) | exact Facts.g_longer_ways (by assumption) | exact Facts.g_spread_of (by assumption) | exact Facts.g_fairest_order (by assumption) | exact Facts.g__law_start (by assumption) | exact Facts.g__law_drawn (by assumption) | exact Facts.g__law_all_there (by assumption) | exact Facts.g__law_two_and_all (by assumption) | exact Facts.g_law (by assumption) | exact Facts.g_Shares (by assumption) | exact Facts.g_Bill (by assumption) | exact Facts.g_Evening (by assumption) | exact Facts.g_MarkObserver (by assumption))
local macro_rules | `(tactic| walk_at "kp") => `(tactic| first | assumption | exact (Facts.mk_Shares (by assumption)).kp | exact (Facts.mk_Bill (by assumption)).kp | exact (Facts.mk_Evening (by assumption)).kp | exact (Facts.mk_MarkObserver (by assumption)).kp | exact Fun.kp (Facts.u__wall (by assumption)).choose_spec | exact Fun.kp (Facts.u_is_between (by assumption)).choose_spec | exact Fun.kp (Facts.u_check_seat (by assumption)).choose_spec | exact Fun.kp (Facts.u_check_amount (by assumption)).choose_spec | exact Fun.kp (Facts.u_check_seats (by assumption)).choose_spec | exact Fun.kp (Facts.u_check_seat_count (by assumption)).choose_spec | exact Fun.kp (Facts.u_check_bills (by assumption)).choose_spec | exact Fun.kp (Facts.u_check_mark (by assumption)).choose_spec | exact Fun.kp (Facts.u_check_times (by assumption)).choose_spec | exact Fun.kp (Facts.u_no_shares (by assumption)).choose_spec | exact Fun.kp (Facts.u_seats_behind (by assumption)).choose_spec | exact Fun.kp (Facts.u_split_bill (by assumption)).choose_spec | exact Fun.kp (Facts.u_twice (by assumption)).choose_spec | exact Fun.kp (Facts.u_repeated (by assumption)).choose_spec | exact Fun.kp (Facts.u_lowest_terms (by assumption)).choose_spec | exact Fun.kp (Facts.u_long_run (by assumption)).choose_spec | exact Fun.kp (Facts.u_marks_after (by assumption)).choose_spec | exact Fun.kp (Facts.u_known_after (by assumption)).choose_spec | exact Fun.kp (Facts.u_evening_of_few (by assumption)).choose_spec | exact Fun.kp (Facts.u_reset (by assumption)).choose_spec | exact Fun.kp (Facts.u_telling (by assumption)).choose_spec | exact Fun.kp (Facts.u_share_for_bill (by assumption)).choose_spec | exact Fun.kp (Facts.u_paid_from_each_mark (by assumption)).choose_spec | exact Fun.kp (Facts.u_widest_gap (by assumption)).choose_spec | exact Fun.kp (Facts.u_best_mark (by assumption)).choose_spec | exact Fun.kp (Facts.u_longer_ways (by assumption)).choose_spec | exact Fun.kp (Facts.u_spread_of (by assumption)).choose_spec | exact Fun.kp (Facts.u_fairest_order (by assumption)).choose_spec | exact Fun.kp (Facts.u__law_start (by assumption)).choose_spec | exact Fun.kp (Facts.u__law_drawn (by assumption)).choose_spec | exact Fun.kp (Facts.u__law_all_there (by assumption)).choose_spec | exact Fun.kp (Facts.u__law_two_and_all (by assumption)).choose_spec | exact Fun.kp (Facts.u_law (by assumption)).choose_spec)
/-! ### how shares part -/
section
variable {P : Program} {w : World} {K : PySem.W.Frag} {mg : Str → Option Value} {base : Heap} {a : Ad}
def spCkSeat : Sp := fun vs H Q _ => ∃ (i : Int) (n : Nat), vs = [.int i, .int n] ∧ 0 ≤ i ∧ i < (n : Int) ∧ Q .non H
theorem ok_check_seat (T : Facts K mg a) : FnR P w K mg base (L2.CX P w) 2 a.f_check_seat spCkSeat := by
  obtain ⟨fd, F⟩ := T.u_check_seat
  have GB : FnR P w K mg base (L2.CX P w) 1 a.f_is_between spBetween := ok_between T
  refine fnr_ok F sc_check_seat (F.binds fun _ _ _ _ _ _ us hl => match us, hl with | [_, _], _ => rfl) (fun vs H Q E h => ?_) (fun cdv A outer s H vs Q E hr h => ?_)
  · obtain ⟨i, n, rfl, _⟩ := h
    rfl
  · obtain ⟨i, n, rfl, h0, h1, q⟩ := h
    refine ⟨_, (pss_one (ps_if (pt_not (pt_trA Like.refl pas_main (pe_glA Like.refl pas_main (by rfl) (pa_cons (pv 0) (pa_cons (pe_int) (pa_cons (pe_opA Like.refl pas_main (pv 1) (pe_int)) pa_nil)))))) (pss_one (ps_raA rfl tk_main (by rfl))) pss_nil)), ?_⟩
    walk_at "go"
    refine s_btwT GB hr h0 (by omega) ?_
    walk_at "go"
    exact q
/-- what a seat pays in so many evenings from each mark on -/
def paidEach (n : Nat) (bs : List (Int × List Int)) (t i k : Nat) : List Int := (List.range k).map fun m : Nat => (repRun n bs t (m : Int)).1.getD i 0
theorem paidEach_snoc (n : Nat) (bs : List (Int × List Int)) (t i k : Nat) : paidEach n bs t i (k + 1) = paidEach n bs t i k ++ [(repRun n bs t (k : Int)).1.getD i 0] := by
  unfold paidEach
  rw [List.range_succ, List.map_append]
  rfl
def spPaidEach (CE CB : Addr) : Sp := fun vs H Q _ => ∃ (e : Addr) (s : Int) (t n : Nat) (bs : List (Int × List Int)), vs = [.ref e, .int s, .int t] ∧ EvAt CE CB H e n bs ∧ OkEv n bs ∧ 0 ≤ s ∧ s < (n : Int) ∧ t ≤ 10 ^ 18 ∧
  ∀ l H', H l = none → Same H H' → H' l = some (.lst ((paidEach n bs t s.toNat n).map V.int)) → Q (.ref l) H'
theorem ok_paid_from_each_mark (T : Facts K mg a) : FnR P w K mg base (L2.CX P w) 6 a.f_paid_from_each_mark (spPaidEach a.c_Evening a.c_Bill) := by
  obtain ⟨fd, F⟩ := T.u_paid_from_each_mark
  have GK : FnR P w K mg base (L2.CX P w) 2 a.f_check_seat spCkSeat := ok_check_seat T
  have GR : FnR P w K mg base (L2.CX P w) 5 a.f_repeated (spRep a.c_Evening a.c_Bill a.c_Shares) := ok_repeated T
  have GE : FnR P w K mg base (L2.CX P w) 1 a.f_Evening_seat_count (spEvCount a.c_Evening) := ok_ev_count T
  have GG : FnR P w K mg base (L2.CX P w) 2 a.f_Shares__getitem_ (spShGet a.c_Shares a.c_UnknownSeat) := ok_sh_get T
  refine fnr_ok F sc_paid_from_each_mark (F.binds fun _ _ _ _ _ _ us hl => match us, hl with | [_, _, _], _ => rfl) (fun vs H Q E h => ?_) (fun cdv A outer s H vs Q E hr h => ?_)
  · obtain ⟨e, s, t, n, bs, rfl, _⟩ := h
    rfl
  · obtain ⟨e, s, t, n, bs, rfl, hev, ok, h0, h1, ht, q⟩ := h
    obtain ⟨dx, tb, ps, e1, e2, e3⟩ := id hev
    have hn8 : n ≤ 8 := ok.2.1
    refine ⟨_, (pss_cons (ps_expr (pe_glA Like.refl pas_main (by rfl) (pa_cons (pv 1) (pa_cons (pe_atA Like.refl pas_main (pv 0)) pa_nil))))
    (pss_cons (ps_set (i := 3) sc_paid_from_each_mark.nd rfl (Or.inl rfl) (pe_lst pa_nil))
    (pss_cons (ps_for own_main rfl (pi_range1 (by rfl) T.z_range (pa_cons (pe_atA Like.refl pas_main (pv 0)) pa_nil)) (pg_name (i := 4) sc_paid_from_each_mark.nd rfl (Or.inl rfl)) (pss_cons (ps_asg (pe_glA Like.refl pas_main (by rfl) (pa_cons (pv 0) (pa_cons (pv 4) (pa_cons (pv 2) pa_nil)))) (pg_tup rfl (pgs_cons (pg_name (i := 5) sc_paid_from_each_mark.nd rfl (Or.inl rfl)) (pgs_cons (pg_name (i := 6) sc_paid_from_each_mark.nd rfl (Or.inl rfl)) pgs_nil))))
    (pss_one (ps_expr (pe_bm PySem.F.plainAttrs_list PySem.F.slot_list_append PySem.F.type_list_append mt_append (pv 3) (pa_cons (pe_ixA Like.refl pas_main (pv 5) (pv 1)) pa_nil))))))
    (pss_one (ps_ret (pv 3)))))), ?_⟩
    walk_at "go"
    refine s_prop T.cl_Evening T.pr_Evening_seat_count GE (hr.mono (by decide)) e1 ⟨e, dx, tb, _, rfl, e1, ?_⟩
    walk_at "go"
    refine s_fn GK (hr.mono (by decide)) ⟨s, n, rfl, h0, h1, ?_⟩
    walk_at "go"
    refine ⟨by show 0 ≤ sizeLine; decide, fun l hl => ?_⟩
    walk_at "go"
    have s0 := same_new (o := .lst []) hl
    refine f_rng (n := n) (fun k σ H' => Same H H' ∧ ∃ x4 x5 x6, σ = [some (.ref e), some (.int s), some (.int (t : Nat)), some (.ref l), x4, x5, x6] ∧ H' l = some (.lst ((paidEach n bs t s.toNat k).map V.int))) (fun R k => ?_) (by omega)
      ⟨s0, none, none, none, rfl, upd_same⟩ (fun k σ H1 hk pv => ?_) (fun σ H1 pv => ?_)
    · walk_at "go"
      exact s_prop T.cl_Evening T.pr_Evening_seat_count GE (hr.mono (by decide)) (s0 _ _ e1) ⟨e, dx, tb, _, rfl, s0 _ _ e1, k⟩
    · obtain ⟨s1, x4, x5, x6, rfl, hl1⟩ := pv
      refine w_name ?_
      walk_at "go"
      refine s_fn GR hr ⟨e, k, t, n, bs, rfl, hev.same s1, ok, by omega, by omega, ht, fun T2 H2 s2 ⟨r, g1, sh⟩ => ?_⟩
      refine g_pair (SqT.of g1) ?_
      walk_at "go"
      refine w_bm ?_
      walk_at "go"
      have hl2 := s2 _ _ hl1
      refine ⟨.inl ⟨rfl, _, SqL.of hl2⟩, ?_⟩
      walk_at "go"
      obtain ⟨dxr, tr, j1, j2⟩ := id sh
      have hlen : (repRun n bs t (k : Nat)).1.length = n := repRun_len ..
      have hs2 : s.toNat < (repRun n bs t (k : Nat)).1.length := by omega
      refine s_ixI T.m_Shares__getitem_ T.u_Shares__getitem_.choose_spec GG (hr.mono (by decide)) j1 ⟨r, _, s, rfl, sh, fun c _ ec => ?_, fun z => absurd ⟨h0, by omega⟩ z⟩
      walk_at "go"
      refine ⟨l, _, _, rfl, rfl, hl2, by rw [List.length_map]; unfold paidEach; rw [List.length_map, List.length_range]; exact Nat.lt_of_lt_of_le (show k < 100000 by omega) (by decide), ?_⟩
      walk_at "go"
      refine ⟨same_mut (s1.trans s2) hl, _, _, _, rfl, ?_⟩
      rw [upd_same, paidEach_snoc, List.map_append, List.getD_eq_getElem?_getD, ec]
      rfl
    · obtain ⟨s1, x4, x5, x6, rfl, hl1⟩ := pv
      walk_at "go"
      exact q l H1 hl s1 hl1
def spGap (CE CB : Addr) : Sp := fun vs H Q _ => ∃ (e : Addr) (s : Int) (t n : Nat) (bs : List (Int × List Int)), vs = [.ref e, .int s, .int t] ∧ EvAt CE CB H e n bs ∧ OkEv n bs ∧ 0 ≤ s ∧ s < (n : Int) ∧ t ≤ 10 ^ 18 ∧
  ∀ H', Same H H' → Q (.int (maxI (paidEach n bs t s.toNat n) - minI (paidEach n bs t s.toNat n))) H'
theorem ok_widest_gap (T : Facts K mg a) : FnR P w K mg base (L2.CX P w) 7 a.f_widest_gap (spGap a.c_Evening a.c_Bill) := by
  obtain ⟨fd, F⟩ := T.u_widest_gap
  have GP : FnR P w K mg base (L2.CX P w) 6 a.f_paid_from_each_mark (spPaidEach a.c_Evening a.c_Bill) := ok_paid_from_each_mark T
  refine fnr_ok F sc_widest_gap (F.binds fun _ _ _ _ _ _ us hl => match us, hl with | [_, _, _], _ => rfl) (fun vs H Q E h => ?_) (fun cdv A outer s H vs Q E hr h => ?_)
  · obtain ⟨e, s, t, n, bs, rfl, _⟩ := h
    rfl
  · obtain ⟨e, s, t, n, bs, rfl, hev, ok, h0, h1, ht, q⟩ := h
    have hne : paidEach n bs t s.toNat n ≠ [] := fun z => by
      have := congrArg List.length z
      unfold paidEach at this
      rw [List.length_map, List.length_range] at this
      have := ok.1
      simp at *
      omega
    refine ⟨_, (pss_cons (ps_set (i := 3) sc_widest_gap.nd rfl (Or.inl rfl) (pe_glA Like.refl pas_main (by rfl) (pa_cons (pv 0) (pa_cons (pv 1) (pa_cons (pv 2) pa_nil)))))
    (pss_one (ps_ret (pe_opA Like.refl pas_main (pe_biA (id := "max") Like.refl pas_main (by rfl) (by decide +kernel) (pa_cons (pv 3) pa_nil)) (pe_biA (id := "min") Like.refl pas_main (by rfl) (by decide +kernel) (pa_cons (pv 3) pa_nil)))))), ?_⟩
    walk_at "go"
    refine s_fn GP hr ⟨e, s, t, n, bs, rfl, hev, ok, h0, h1, ht, fun l H1 hl s1 hl1 => ?_⟩
    walk_at "go"
    refine s_maxL rfl (SqL.of hl1) hne ?_
    walk_at "go"
    refine s_minL rfl (SqL.of hl1) hne ?_
    walk_at "go"
    exact q H1 s1
end

/-! ### the first least; what is refused -/
section
variable {P : Program} {w : World} {K : PySem.W.Frag} {mg : Str → Option Value} {base : Heap} {a : Ad}
def fstIx : List Int → Int → Nat
  | [], _ => 0
  | x :: l, m => if x = m then 0 else fstIx l m + 1
theorem fstIx_spec : ∀ {l : List Int} {m : Int}, m ∈ l → l[fstIx l m]? = some m ∧ ∀ (k : Nat) (z : Int), k < fstIx l m → l[k]? = some z → z ≠ m
  | [], _, h => by simp at h
  | x :: l, m, h => by
    by_cases e : x = m
    · have z : fstIx (x :: l) m = 0 := by show (if x = m then 0 else _) = 0; rw [if_pos e]
      rw [z]
      exact ⟨by rw [e]; rfl, fun k z hk _ => absurd hk (by omega)⟩
    · have z : fstIx (x :: l) m = fstIx l m + 1 := by show (if x = m then 0 else _) = _; rw [if_neg e]
      rw [z]
      obtain ⟨h1, h2⟩ := fstIx_spec (l := l) (m := m) ((List.mem_cons.1 h).elim (fun q => absurd q.symm e) id)
      refine ⟨by simpa using h1, fun k y hk ey => ?_⟩
      cases k with
      | zero => cases ey; exact e
      | succ k => exact h2 k y (by omega) (by simpa using ey)
theorem r_index {cs : List Int} {m : Int} {l : Addr} {H : Hp} {Q : VK} (h : SqL K H l (cs.map V.int)) (hm : m ∈ cs) (q : Q (.int (fstIx cs m : Nat)) H) : rIndex K (.ref l) [.int m] H Q := by
  obtain ⟨h1, h2⟩ := fstIx_spec hm
  refine ⟨l, cs.map V.int, .int m, fstIx cs m, .int m, rfl, rfl, h, rfl, by rw [List.all_map, List.all_eq_true]; exact fun _ _ => rfl, by rw [List.getElem?_map, h1]; rfl, beq_self_eq_true m, fun k z hk e => ?_, q⟩
  rw [List.getElem?_map] at e
  cases ez : cs[k]? with
  | none => rw [ez] at e; cases e
  | some y =>
    rw [ez] at e
    cases e
    exact beq_eq_false_iff_ne.2 (h2 k y hk ez)
theorem paidEach_ne {n : Nat} {bs : List (Int × List Int)} {t i : Nat} (hn : 2 ≤ n) : paidEach n bs t i n ≠ [] := fun z => by
  have := congrArg List.length z
  unfold paidEach at this
  rw [List.length_map, List.length_range] at this
  simp at this
  omega
def spBest (CE CB : Addr) : Sp := fun vs H Q _ => ∃ (e : Addr) (s : Int) (t n : Nat) (bs : List (Int × List Int)), vs = [.ref e, .int s, .int t] ∧ EvAt CE CB H e n bs ∧ OkEv n bs ∧ 0 ≤ s ∧ s < (n : Int) ∧ t ≤ 10 ^ 18 ∧
  ∀ H', Same H H' → Q (.int (fstIx (paidEach n bs t s.toNat n) (minI (paidEach n bs t s.toNat n)) : Nat)) H'
theorem ok_best_mark (T : Facts K mg a) : FnR P w K mg base (L2.CX P w) 7 a.f_best_mark (spBest a.c_Evening a.c_Bill) := by
  obtain ⟨fd, F⟩ := T.u_best_mark
  have GP : FnR P w K mg base (L2.CX P w) 6 a.f_paid_from_each_mark (spPaidEach a.c_Evening a.c_Bill) := ok_paid_from_each_mark T
  refine fnr_ok F sc_best_mark (F.binds fun _ _ _ _ _ _ us hl => match us, hl with | [_, _, _], _ => rfl) (fun vs H Q E h => ?_) (fun cdv A outer s H vs Q E hr h => ?_)
  · obtain ⟨e, s, t, n, bs, rfl, _⟩ := h
    rfl
  · obtain ⟨e, s, t, n, bs, rfl, hev, ok, h0, h1, ht, q⟩ := h
    have hne := paidEach_ne (bs := bs) (t := t) (i := s.toNat) ok.1
    refine ⟨_, (pss_cons (ps_set (i := 3) sc_best_mark.nd rfl (Or.inl rfl) (pe_glA Like.refl pas_main (by rfl) (pa_cons (pv 0) (pa_cons (pv 1) (pa_cons (pv 2) pa_nil)))))
    (pss_one (ps_ret (pe_bm PySem.F.plainAttrs_list PySem.F.slot_list_index PySem.F.type_list_index mt_index (pv 3) (pa_cons (pe_biA (id := "min") Like.refl pas_main (by rfl) (by decide +kernel) (pa_cons (pv 3) pa_nil)) pa_nil))))), ?_⟩
    walk_at "go"
    refine s_fn GP hr ⟨e, s, t, n, bs, rfl, hev, ok, h0, h1, ht, fun l H1 hl s1 hl1 => ?_⟩
    walk_at "go"
    refine w_bm ?_
    walk_at "go"
    refine ⟨.inl ⟨rfl, _, SqL.of hl1⟩, ?_⟩
    walk_at "go"
    refine s_minL rfl (SqL.of hl1) hne ?_
    walk_at "go"
    exact r_index (SqL.of hl1) (minI_spec _ hne).1 (q H1 s1)
/-! what is refused -/
def spCkSeatX (U : Addr) : Sp := fun vs H _ E => ∃ (i : Int) (n : Nat), vs = [.int i, .int n] ∧ ¬ (0 ≤ i ∧ i < (n : Int)) ∧ E (.ref U) none H
theorem ok_check_seatX (T : Facts K mg a) : FnR P w K mg base (L2.CX P w) 2 a.f_check_seat (spCkSeatX a.c_UnknownSeat) := by
  obtain ⟨fd, F⟩ := T.u_check_seat
  have GB : FnR P w K mg base (L2.CX P w) 1 a.f_is_between spBetween := ok_between T
  refine fnr_ok F sc_check_seat (F.binds fun _ _ _ _ _ _ us hl => match us, hl with | [_, _], _ => rfl) (fun vs H Q E h => ?_) (fun cdv A outer s H vs Q E hr h => ?_)
  · obtain ⟨i, n, rfl, _⟩ := h
    rfl
  · obtain ⟨i, n, rfl, hno, q⟩ := h
    refine ⟨_, (pss_one (ps_if (pt_not (pt_trA Like.refl pas_main (pe_glA Like.refl pas_main (by rfl) (pa_cons (pv 0) (pa_cons (pe_int) (pa_cons (pe_opA Like.refl pas_main (pv 1) (pe_int)) pa_nil)))))) (pss_one (ps_raA rfl tk_main (by rfl))) pss_nil)), ?_⟩
    have hf : (decide (0 ≤ i) && decide (i ≤ (n : Int) - 1)) = false := by
      rw [Bool.and_eq_false_iff, decide_eq_false_iff_not, decide_eq_false_iff_not]
      omega
    walk_at "go"
    refine s_fn GB hr ⟨i, 0, _, rfl, ?_⟩
    rw [hf]
    walk_at "go"
    exact ⟨_, T.x_UnknownSeat, q⟩
def spCkTimesX (N : Addr) : Sp := fun vs H _ E => ∃ t : Int, vs = [.int t] ∧ ¬ (0 ≤ t ∧ t ≤ 10 ^ 18) ∧ E (.ref N) none H
theorem ok_check_timesX (T : Facts K mg a) : FnR P w K mg base (L2.CX P w) 2 a.f_check_times (spCkTimesX a.c_InvalidNumber) := by
  obtain ⟨fd, F⟩ := T.u_check_times
  have GB : FnR P w K mg base (L2.CX P w) 1 a.f_is_between spBetween := ok_between T
  refine fnr_ok F sc_check_times (F.binds fun _ _ _ _ _ _ us hl => match us, hl with | [_], _ => rfl) (fun vs H Q E h => ?_) (fun cdv A outer s H vs Q E hr h => ?_)
  · obtain ⟨t, rfl, _⟩ := h
    rfl
  · obtain ⟨t, rfl, hno, q⟩ := h
    refine ⟨_, (pss_one (ps_if (pt_not (pt_trA Like.refl pas_main (pe_glA Like.refl pas_main (by rfl) (pa_cons (pv 0) (pa_cons (pe_int) (pa_cons (pe_gvI Like.refl (by rfl)) pa_nil)))))) (pss_one (ps_raA rfl tk_main (by rfl))) pss_nil)), ?_⟩
    have hf : (decide (0 ≤ t) && decide (t ≤ 1000000000000000000)) = false := by
      rw [Bool.and_eq_false_iff, decide_eq_false_iff_not, decide_eq_false_iff_not]
      omega
    walk_at "go"
    refine w_gvI T.i_MAX_TIMES.choose_spec ?_
    walk_at "go"
    refine s_fn GB hr ⟨t, 0, _, rfl, ?_⟩
    rw [hf]
    walk_at "go"
    exact ⟨_, T.x_InvalidNumber, q⟩
def spRepX (CE CB N : Addr) : Sp := fun vs H _ E => ∃ (e : Addr) (m t : Int) (n : Nat) (bs : List (Int × List Int)), vs = [.ref e, .int m, .int t] ∧ EvAt CE CB H e n bs ∧ OkEv n bs ∧ 0 ≤ m ∧ m < (n : Int) ∧ ¬ (0 ≤ t ∧ t ≤ 10 ^ 18) ∧ ∀ H', Same H H' → E (.ref N) none H'
theorem ok_repeatedX (T : Facts K mg a) : FnR P w K mg base (L2.CX P w) 5 a.f_repeated (spRepX a.c_Evening a.c_Bill a.c_InvalidNumber) := by
  obtain ⟨fd, F⟩ := T.u_repeated
  have GM : FnR P w K mg base (L2.CX P w) 2 a.f_check_mark spCkMark := ok_check_mark T
  have GT : FnR P w K mg base (L2.CX P w) 2 a.f_check_times (spCkTimesX a.c_InvalidNumber) := ok_check_timesX T
  have GE : FnR P w K mg base (L2.CX P w) 1 a.f_Evening_seat_count (spEvCount a.c_Evening) := ok_ev_count T
  refine fnr_ok F sc_repeated (F.binds fun _ _ _ _ _ _ us hl => match us, hl with | [_, _, _], _ => rfl) (fun vs H Q E h => ?_) (fun cdv A outer s H vs Q E hr h => ?_)
  · obtain ⟨e, m, t, n, bs, rfl, _⟩ := h
    rfl
  · obtain ⟨e, m, t, n, bs, rfl, hev, ok, h0, h1, hno, q⟩ := h
    obtain ⟨dx, tb, ps, e1, e2, e3⟩ := id hev
    refine ⟨_, (pss_cons (ps_expr (pe_glA Like.refl pas_main (by rfl) (pa_cons (pv 1) (pa_cons (pe_atA Like.refl pas_main (pv 0)) pa_nil))))
    (pss_cons (ps_expr (pe_glA Like.refl pas_main (by rfl) (pa_cons (pv 2) pa_nil)))
    (pss_cons (ps_set (i := 3) sc_repeated.nd rfl (Or.inl rfl) (pe_glA Like.refl pas_main (by rfl) (pa_cons (pe_atA Like.refl pas_main (pv 0)) pa_nil)))
    (pss_cons (ps_setLc (i := 4) (own := [("start", 5)]) (g := gName 5) (tt := tYes) rfl sc_repeated.nd rfl rfl (sw_true rfl rfl rfl (by decide +kernel)) (pi_range1 (by rfl) T.z_range (pa_cons (pe_atA Like.refl pas_main (pv 0)) pa_nil)) (blkOk_by (own := [("start", 5)]) (N := N_repeated) (sc := defScope s_repeated) (by decide +kernel)) (fun _ _ _ _ _ => (pg_name (i := 5) sc_repeated.nd rfl (by first | exact Or.inl rfl | exact Or.inr rfl))) (fun _ _ _ _ _ => pts_nil) (fun _ _ _ _ _ => (pe_coA ⟨rfl, rfl, rfl, rfl, rfl, rfl, rfl⟩ passL (pv 0) (pa_cons (pv 5) pa_nil))))
    (pss_cons (ps_while own_main (pt_cmpA Like.refl pas_main (pv 2) (pe_int) (nomark _)) (pss_cons (ps_if (pt_cmpA Like.refl pas_main (pe_opA Like.refl pas_main (pv 2) (pe_int)) (pe_int) (nomark _)) (pss_cons (ps_asg (pe_ixA Like.refl pas_main (pv 4) (pv 1)) (pg_tup rfl (pgs_cons (pg_name (i := 6) sc_repeated.nd rfl (Or.inl rfl)) (pgs_cons (pg_name (i := 1) sc_repeated.nd rfl (Or.inl rfl)) pgs_nil))))
    (pss_one (ps_set (i := 3) sc_repeated.nd rfl (Or.inl rfl) (pe_opA Like.refl pas_main (pv 3) (pv 6))))) pss_nil)
    (pss_cons (ps_set (i := 4) sc_repeated.nd rfl (Or.inl rfl) (pe_glA Like.refl pas_main (by rfl) (pa_cons (pv 4) pa_nil)))
    (pss_one (ps_set (i := 2) sc_repeated.nd rfl (Or.inl rfl) (pe_opA Like.refl pas_main (pv 2) (pe_int)))))))
    (pss_one (ps_ret (pe_tup (pa_cons (pv 3) (pa_cons (pv 1) pa_nil)))))))))), ?_⟩
    walk_at "go"
    refine s_prop T.cl_Evening T.pr_Evening_seat_count GE (hr.mono (by decide)) e1 ⟨e, dx, tb, _, rfl, e1, ?_⟩
    walk_at "go"
    refine s_fn GM (hr.mono (by decide)) ⟨m, n, rfl, h0, h1, ?_⟩
    walk_at "go"
    exact s_fn GT (hr.mono (by decide)) ⟨t, rfl, hno, q _ (Same.refl _)⟩
/-- a wrong seat, or a wrong number of evenings -/
def BadST (U N : Addr) (s t : Int) (n : Nat) (H : Hp) (E : XK) : Prop := (¬ (0 ≤ s ∧ s < (n : Int)) ∧ ∀ H', Same H H' → E (.ref U) none H') ∨ ((0 ≤ s ∧ s < (n : Int)) ∧ ¬ (0 ≤ t ∧ t ≤ 10 ^ 18) ∧ ∀ H', Same H H' → E (.ref N) none H')
def spBad (CE CB U N : Addr) : Sp := fun vs H _ E => ∃ (e : Addr) (s t : Int) (n : Nat) (bs : List (Int × List Int)), vs = [.ref e, .int s, .int t] ∧ EvAt CE CB H e n bs ∧ OkEv n bs ∧ BadST U N s t n H E
theorem ok_paidX (T : Facts K mg a) : FnR P w K mg base (L2.CX P w) 6 a.f_paid_from_each_mark (spBad a.c_Evening a.c_Bill a.c_UnknownSeat a.c_InvalidNumber) := by
  obtain ⟨fd, F⟩ := T.u_paid_from_each_mark
  have GK : FnR P w K mg base (L2.CX P w) 2 a.f_check_seat spCkSeat := ok_check_seat T
  have GKX : FnR P w K mg base (L2.CX P w) 2 a.f_check_seat (spCkSeatX a.c_UnknownSeat) := ok_check_seatX T
  have GR : FnR P w K mg base (L2.CX P w) 5 a.f_repeated (spRepX a.c_Evening a.c_Bill a.c_InvalidNumber) := ok_repeatedX T
  have GE : FnR P w K mg base (L2.CX P w) 1 a.f_Evening_seat_count (spEvCount a.c_Evening) := ok_ev_count T
  refine fnr_ok F sc_paid_from_each_mark (F.binds fun _ _ _ _ _ _ us hl => match us, hl with | [_, _, _], _ => rfl) (fun vs H Q E h => ?_) (fun cdv A outer s H vs Q E hr h => ?_)
  · obtain ⟨e, s, t, n, bs, rfl, _⟩ := h
    rfl
  · obtain ⟨e, s, t, n, bs, rfl, hev, ok, bad⟩ := h
    obtain ⟨dx, tb, ps, e1, e2, e3⟩ := id hev
    have hn2 := ok.1
    have hn8 := ok.2.1
    refine ⟨_, (pss_cons (ps_expr (pe_glA Like.refl pas_main (by rfl) (pa_cons (pv 1) (pa_cons (pe_atA Like.refl pas_main (pv 0)) pa_nil))))
    (pss_cons (ps_set (i := 3) sc_paid_from_each_mark.nd rfl (Or.inl rfl) (pe_lst pa_nil))
    (pss_cons (ps_for own_main rfl (pi_range1 (by rfl) T.z_range (pa_cons (pe_atA Like.refl pas_main (pv 0)) pa_nil)) (pg_name (i := 4) sc_paid_from_each_mark.nd rfl (Or.inl rfl)) (pss_cons (ps_asg (pe_glA Like.refl pas_main (by rfl) (pa_cons (pv 0) (pa_cons (pv 4) (pa_cons (pv 2) pa_nil)))) (pg_tup rfl (pgs_cons (pg_name (i := 5) sc_paid_from_each_mark.nd rfl (Or.inl rfl)) (pgs_cons (pg_name (i := 6) sc_paid_from_each_mark.nd rfl (Or.inl rfl)) pgs_nil))))
    (pss_one (ps_expr (pe_bm PySem.F.plainAttrs_list PySem.F.slot_list_append PySem.F.type_list_append mt_append (pv 3) (pa_cons (pe_ixA Like.refl pas_main (pv 5) (pv 1)) pa_nil))))))
    (pss_one (ps_ret (pv 3)))))), ?_⟩
    walk_at "go"
    refine s_prop T.cl_Evening T.pr_Evening_seat_count GE (hr.mono (by decide)) e1 ⟨e, dx, tb, _, rfl, e1, ?_⟩
    walk_at "go"
    rcases bad with ⟨no, q⟩ | ⟨⟨h0, h1⟩, no, q⟩
    · exact s_fn GKX (hr.mono (by decide)) ⟨s, n, rfl, no, q _ (Same.refl _)⟩
    · refine s_fn GK (hr.mono (by decide)) ⟨s, n, rfl, h0, h1, ?_⟩
      walk_at "go"
      refine ⟨by show 0 ≤ sizeLine; decide, fun l hl => ?_⟩
      walk_at "go"
      have s0 := same_new (o := .lst []) hl
      refine f_rng (n := n) (fun k σ H' => k = 0 ∧ Same H H' ∧ ∃ x4 x5 x6, σ = [some (.ref e), some (.int s), some (.int t), some (.ref l), x4, x5, x6]) (fun R k => ?_) (by omega)
        ⟨rfl, s0, none, none, none, rfl⟩ (fun k σ H1 hk pv => ?_) (fun σ H1 pv => absurd pv.1 (by omega))
      · walk_at "go"
        exact s_prop T.cl_Evening T.pr_Evening_seat_count GE (hr.mono (by decide)) (s0 _ _ e1) ⟨e, dx, tb, _, rfl, s0 _ _ e1, k⟩
      · obtain ⟨rfl, s1, x4, x5, x6, rfl⟩ := pv
        refine w_name ?_
        walk_at "go"
        exact s_fn GR hr ⟨e, _, t, n, bs, rfl, hev.same s1, ok, by omega, by omega, no, fun H' s2 => q _ (s1.trans s2)⟩
theorem ok_widest_gapX (T : Facts K mg a) : FnR P w K mg base (L2.CX P w) 7 a.f_widest_gap (spBad a.c_Evening a.c_Bill a.c_UnknownSeat a.c_InvalidNumber) := by
  obtain ⟨fd, F⟩ := T.u_widest_gap
  have GP : FnR P w K mg base (L2.CX P w) 6 a.f_paid_from_each_mark (spBad a.c_Evening a.c_Bill a.c_UnknownSeat a.c_InvalidNumber) := ok_paidX T
  refine fnr_ok F sc_widest_gap (F.binds fun _ _ _ _ _ _ us hl => match us, hl with | [_, _, _], _ => rfl) (fun vs H Q E h => ?_) (fun cdv A outer s H vs Q E hr h => ?_)
  · obtain ⟨e, s, t, n, bs, rfl, _⟩ := h
    rfl
  · obtain ⟨e, s, t, n, bs, rfl, hev, ok, bad⟩ := h
    refine ⟨_, (pss_cons (ps_set (i := 3) sc_widest_gap.nd rfl (Or.inl rfl) (pe_glA Like.refl pas_main (by rfl) (pa_cons (pv 0) (pa_cons (pv 1) (pa_cons (pv 2) pa_nil)))))
    (pss_one (ps_ret (pe_opA Like.refl pas_main (pe_biA (id := "max") Like.refl pas_main (by rfl) (by decide +kernel) (pa_cons (pv 3) pa_nil)) (pe_biA (id := "min") Like.refl pas_main (by rfl) (by decide +kernel) (pa_cons (pv 3) pa_nil)))))), ?_⟩
    walk_at "go"
    exact s_fn GP hr ⟨e, s, t, n, bs, rfl, hev, ok, bad⟩
theorem ok_best_markX (T : Facts K mg a) : FnR P w K mg base (L2.CX P w) 7 a.f_best_mark (spBad a.c_Evening a.c_Bill a.c_UnknownSeat a.c_InvalidNumber) := by
  obtain ⟨fd, F⟩ := T.u_best_mark
  have GP : FnR P w K mg base (L2.CX P w) 6 a.f_paid_from_each_mark (spBad a.c_Evening a.c_Bill a.c_UnknownSeat a.c_InvalidNumber) := ok_paidX T
  refine fnr_ok F sc_best_mark (F.binds fun _ _ _ _ _ _ us hl => match us, hl with | [_, _, _], _ => rfl) (fun vs H Q E h => ?_) (fun cdv A outer s H vs Q E hr h => ?_)
  · obtain ⟨e, s, t, n, bs, rfl, _⟩ := h
    rfl
  · obtain ⟨e, s, t, n, bs, rfl, hev, ok, bad⟩ := h
    refine ⟨_, (pss_cons (ps_set (i := 3) sc_best_mark.nd rfl (Or.inl rfl) (pe_glA Like.refl pas_main (by rfl) (pa_cons (pv 0) (pa_cons (pv 1) (pa_cons (pv 2) pa_nil)))))
    (pss_one (ps_ret (pe_bm PySem.F.plainAttrs_list PySem.F.slot_list_index PySem.F.type_list_index mt_index (pv 3) (pa_cons (pe_biA (id := "min") Like.refl pas_main (by rfl) (by decide +kernel) (pa_cons (pv 3) pa_nil)) pa_nil))))), ?_⟩
    walk_at "go"
    exact s_fn GP hr ⟨e, s, t, n, bs, rfl, hev, ok, bad⟩
end

end Odd

namespace Odd
open PySem PySem.Spec PyProof.Rows L2
/-! tactics of this text: st one step, go as many as go -/
local macro_rules | `(tactic| walk_at "ar") => `(tactic| first | assumption | omega | (show (_ : Int) < _; omega) | decide)
local macro_rules | `(tactic| walk_at "st") => `(tactic| first
  | with_reducible refine' w_seq ?_
  | with_reducible refine' w_asg ?_
  | with_reducible refine' w_name ?_
  | with_reducible refine' w_c ?_
  | with_reducible refine' w_op ?_
  | with_reducible refine' w_ix ?_
  | with_reducible refine' w_at ?_
  | with_reducible refine' w_cons ?_
  | with_reducible refine' w_nil ?_
  | with_reducible refine' w_ret ?_
  | with_reducible refine' w_if ?_
  | with_reducible refine' w_test ?_
  | with_reducible refine' w_tr ?_
  | with_reducible refine' w_un ?_
  | with_reducible refine' w_andV ?_
  | with_reducible refine' w_orV ?_
  | with_reducible refine' w_notA ?_
  | with_reducible refine' w_ch ?_
  | with_reducible refine' w_and ?_
  | with_reducible refine' w_or ?_
  | with_reducible refine' w_not ?_
  | with_reducible refine' w_ifx ?_
  | with_reducible refine' w_tup ?_
  | with_reducible refine' w_lst ?_
  | with_reducible refine' w_next ?_
  | with_reducible refine' w_drop ?_
  | with_reducible refine' w_retN ?_
  | ((with_reducible refine' w_var ?h ?_); (case h => exact rfl))
  | ((with_reducible refine' w_bi ?h ?_); (case h => walk_at "mg"))
  | ((with_reducible refine' w_bv ?h ?_); (case h => walk_at "mg"))
  | ((with_reducible refine' w_gv ?h ?_); (case h => walk_at "mg"))
  | ((with_reducible refine' w_gl ?h ?k ?_); (case h => walk_at "mg"); (case k => walk_at "kp"))
  | ((with_reducible refine' w_glS ?h ?k ?_); (case h => walk_at "mg"); (case k => walk_at "kp"))
  | with_reducible refine' bl_ex ?_
  | with_reducible refine' iteT ?_
  | with_reducible refine' iteF ?_
  | with_reducible refine' ite_nf ?_
  | with_reducible refine' ite_nt ?_
  | with_reducible refine' s_add ?_
  | with_reducible refine' s_sub ?_
  | with_reducible refine' s_lt ?_
  | with_reducible refine' s_le ?_
  | with_reducible refine' s_gt ?_
  | with_reducible refine' s_ge ?_
  | with_reducible refine' s_eqI ?_
  | with_reducible refine' s_neI ?_
  | with_reducible refine' s_eqB ?_
  | with_reducible refine' s_neB ?_
  | with_reducible refine' s_truB ?_
  | with_reducible refine' s_truI ?_
  | with_reducible refine' s_neg ?_
  | ((with_reducible refine' s_mod ?h ?_); (case h => walk_at "ar")))
local macro_rules | `(tactic| walk_at "go") => `(tactic| repeat walk_at "st")

local macro_rules | `(tactic| walk_at "mg") => `(tactic| first | assumption | exact Facts.z_TypeError (by assumption) | exact Facts.z_abs (by assumption) | exact Facts.z_bool (by assumption) | exact Facts.z_classmethod (by assumption) | exact Facts.z_divmod (by assumption) | exact Facts.z_enumerate (by assumption) | exact Facts.z_int (by assumption) | exact Facts.z_isinstance (by assumption) | exact Facts.z_len (by assumption) | exact Facts.z_list (by assumption) | exact Facts.z_max (by assumption) | exact Facts.z_min (by assumption) | exact Facts.z_property (by assumption) | exact Facts.z_range (by assumption) | exact Facts.z_sorted (by assumption) | exact Facts.z_sum (by assumption) | exact Facts.z_super (by assumption) | exact Facts.z_tuple (by assumption) | exact Facts.z_zip (by assumption) | exact Facts.g__wall (by assumption) | exact Facts.g_is_between (by assumption) | exact Facts.g_check_seat (by assumption) | exact Facts.g_check_amount (by assumption) | exact Facts.g_check_seats (by assumption) | exact Facts.g_check_seat_count (by assumption) | exact Facts.g_check_bills (by assumption) | exact Facts.g_check_mark (by assumption) | exact Facts.g_check_times (by assumption) | exact Facts.g_no_shares (by assumption) | exact Facts.g_seats_behind (by assumption) | exact Facts.g_split_bill (by assumption) | exact Facts.g_twice (by assumption) | exact Facts.g_repeated (by assumption) | exact Facts.g_lowest_terms (by assumption) | exact Facts.g_long_run (by assumption) | exact Facts.g_marks_after (by assumption) | exact Facts.g_known_after (by assumption) | exact Facts.g_evening_of_few (by assumption) | exact Facts.g_reset (by assumption) | exact Facts.g_telling (by assumption) | exact Facts.g_share_for_bill (by assumption) | exact Facts.g_paid_from_each_mark (by assumption) | exact Facts.g_widest_gap (by assumption) | exact Facts.g_best_mark (by assumption) | exact Facts.g_longer_ways (by assumption) | exact Facts.g_spread_of (by assumption) | exact Facts.g_fairest_order (by assumption) | exact Facts.g__law_start (by assumption) | exact Facts.g__law_drawn (by assumption) | exact Facts.g__law_all_there (by assumption) | exact Facts.g__law_two_and_all (by assumption) | exact Facts.g_law (by assumption) | exact Facts.g_Shares (by assumption) | exact Facts.g_Bill (by assumption) | exact Facts.g_Evening (by assumption) | exact Facts.g_MarkObserver (by assumption))
local macro_rules | `(tactic| walk_at "kp") => `(tactic| first | assumption | exact (Facts.mk_Shares (by assumption)).kp | exact (Facts.mk_Bill (by assumption)).kp | exact (Facts.mk_Evening (by assumption)).kp | exact (Facts.mk_MarkObserver (by assumption)).kp | exact Fun.kp (Facts.u__wall (by assumption)).choose_spec | exact Fun.kp (Facts.u_is_between (by assumption)).choose_spec | exact Fun.kp (Facts.u_check_seat (by assumption)).choose_spec | exact Fun.kp (Facts.u_check_amount (by assumption)).choose_spec | exact Fun.kp (Facts.u_check_seats (by assumption)).choose_spec | exact Fun.kp (Facts.u_check_seat_count (by assumption)).choose_spec | exact Fun.kp (Facts.u_check_bills (by assumption)).choose_spec | exact Fun.kp (Facts.u_check_mark (by assumption)).choose_spec | exact Fun.kp (Facts.u_check_times (by assumption)).choose_spec | exact Fun.kp (Facts.u_no_shares (by assumption)).choose_spec | exact Fun.kp (Facts.u_seats_behind (by assumption)).choose_spec | exact Fun.kp (Facts.u_split_bill (by assumption)).choose_spec | exact Fun.kp (Facts.u_twice (by assumption)).choose_spec | exact Fun.kp (Facts.u_repeated (by assumption)).choose_spec | exact Fun.kp (Facts.u_lowest_terms (by assumption)).choose_spec | exact Fun.kp (Facts.u_long_run (by assumption)).choose_spec | exact Fun.kp (Facts.u_marks_after (by assumption)).choose_spec | exact Fun.kp (Facts.u_known_after (by assumption)).choose_spec | exact Fun.kp (Facts.u_evening_of_few (by assumption)).choose_spec | exact Fun.kp (Facts.u_reset (by assumption)).choose_spec | exact Fun.kp (Facts.u_telling (by assumption)).choose_spec | exact Fun.kp (Facts.u_share_for_bill (by assumption)).choose_spec | exact Fun.kp (Facts.u_paid_from_each_mark (by assumption)).choose_spec | exact Fun.kp (Facts.u_widest_gap (by assumption)).choose_spec | exact Fun.kp (Facts.u_best_mark (by assumption)).choose_spec | exact Fun.kp (Facts.u_longer_ways (by assumption)).choose_spec | exact Fun.kp (Facts.u_spread_of (by assumption)).choose_spec | exact Fun.kp (Facts.u_fairest_order (by assumption)).choose_spec | exact Fun.kp (Facts.u__law_start (by assumption)).choose_spec | exact Fun.kp (Facts.u__law_drawn (by assumption)).choose_spec | exact Fun.kp (Facts.u__law_all_there (by assumption)).choose_spec | exact Fun.kp (Facts.u__law_two_and_all (by assumption)).choose_spec | exact Fun.kp (Facts.u_law (by assumption)).choose_spec)
/-! ### which marks remain -/
section
variable {P : Program} {w : World} {K : PySem.W.Frag} {mg : Str → Option Value} {base : Heap} {a : Ad}
/-- the marks after a bill, of these before it -/
def aft (n : Nat) (b : Int × List Int) (ms : List Nat) : List Nat := (List.range n).filter fun k => decide ((k : Int) ∈ ms.map fun m : Nat => splitM (m : Int) b)
def nI (ms : List Nat) : List Int := ms.map fun m : Nat => (m : Int)
theorem aft_lt {n : Nat} {b : Int × List Int} {ms : List Nat} : ∀ k ∈ aft n b ms, k < n := fun k h => List.mem_range.1 (List.mem_filter.1 h).1
theorem aft_len {n : Nat} {b : Int × List Int} {ms : List Nat} : (aft n b ms).length ≤ n := by
  have := List.length_filter_le (fun k : Nat => decide ((k : Int) ∈ ms.map fun m : Nat => splitM (m : Int) b)) (List.range n)
  rw [List.length_range] at this
  exact this
theorem aft_eq {n : Nat} {b : Int × List Int} {ms : List Nat} (hb : OkBill b ∧ ∀ s ∈ b.2, s < (n : Int)) (hm : ∀ m ∈ ms, m < n) {ns : List Int} (h1 : ns.Pairwise (· < ·)) (h2 : ∀ k : Int, k ∈ ns ↔ k ∈ ms.map fun m : Nat => splitM (m : Int) b) : ns = nI (aft n b ms) := by
  refine asc_ext h1 ?_ fun k => ?_
  · unfold nI
    rw [List.pairwise_map]
    exact (List.Pairwise.filter _ List.pairwise_lt_range).imp fun h => by omega
  · rw [h2]
    unfold nI aft
    rw [List.mem_map, List.mem_map]
    constructor
    · rintro ⟨m, hm1, rfl⟩
      obtain ⟨r0, r1⟩ := splitM_range (n := n) (m := (m : Int)) hb.1 hb.2 (by omega) (by have := hm m hm1; omega)
      obtain ⟨z, ez⟩ := Int.eq_ofNat_of_zero_le r0
      refine ⟨z, List.mem_filter.2 ⟨List.mem_range.2 (by omega), decide_eq_true ?_⟩, ez.symm⟩
      rw [← ez]
      exact List.mem_map.2 ⟨m, hm1, rfl⟩
    · rintro ⟨z, hz, rfl⟩
      have := of_decide_eq_true (List.mem_filter.1 hz).2
      exact List.mem_map.1 this
def spAfter (CB : Addr) : Sp := fun vs H Q _ => ∃ (p t : Addr) (n : Nat) (b : Int × List Int) (ms : List Nat), vs = [.ref p, .ref t, .int n] ∧ BiAt CB H p b ∧ OkBill b ∧ (∀ s ∈ b.2, s < (n : Int)) ∧ n ≤ 8 ∧ H t = some (.tup ((nI ms).map V.int)) ∧ (∀ m ∈ ms, m < n) ∧ ms.length ≤ 8 ∧
  ∀ r H', Same H H' → H' r = some (.tup ((nI (aft n b ms)).map V.int)) → Q (.ref r) H'
theorem ok_after (T : Facts K mg a) : FnR P w K mg base (L2.CX P w) 4 a.f_marks_after (spAfter a.c_Bill) := by
  obtain ⟨fd, F⟩ := T.u_marks_after
  have GS : FnR P w K mg base (L2.CX P w) 3 a.f_split_bill (spSplit a.c_Bill a.c_Shares) := ok_split T
  refine fnr_ok F sc_marks_after (F.binds fun _ _ _ _ _ _ us hl => match us, hl with | [_, _, _], _ => rfl) (fun vs H Q E h => ?_) (fun cdv A outer s H vs Q E hr h => ?_)
  · obtain ⟨p, t, n, b, ms, rfl, _⟩ := h
    rfl
  · obtain ⟨p, t, n, b, ms, rfl, hb, okb, hsb, hn8, ht, hms, hl8, q⟩ := h
    refine ⟨_, (pss_one (ps_ret (pe_tyA (T := "tuple") Like.refl pas_main (by rfl) (by decide +kernel) (pa_cons (pe_biA (id := "sorted") Like.refl pas_main (by rfl) (by decide +kernel) (pa_cons (pe_scI (own := [("mark", 3)]) (g := gName 3) rfl sc_marks_after.nd (pi_seqA Like.refl (pv 1)) (blkOk_by (own := [("mark", 3)]) (N := N_marks_after) (sc := defScope s_marks_after) (by decide +kernel)) (fun _ _ _ _ _ => (pg_name (i := 3) sc_marks_after.nd rfl (by first | exact Or.inl rfl | exact Or.inr rfl))) (fun _ _ _ _ _ => (pe_ixA ⟨rfl, rfl, rfl, rfl, rfl, rfl, rfl⟩ passL (pe_glA ⟨rfl, rfl, rfl, rfl, rfl, rfl, rfl⟩ passL (by rfl) (pa_cons (pv 0) (pa_cons (pv 3) (pa_cons (pv 2) pa_nil)))) (pe_int)))) pa_nil)) pa_nil)))), ?_⟩
    walk_at "go"
    refine c_scT (a := t) (xs := (nI ms).map V.int) (ms.map fun m : Nat => splitM (m : Int) b) (by unfold nI; rw [List.length_map, List.length_map, List.length_map]) (by unfold nI; rw [List.length_map, List.length_map]; omega) (SqT.of ht) (fun _ => rfl) (fun i x y H' hx hy s1 R hR => ?_) (fun D cnt H' hD s1 hc hS => ?_) (fun R k => ?_)
    · unfold nI at hx
      rw [List.map_map, List.getElem?_map] at hx
      rw [List.getElem?_map] at hy
      cases em : ms[i]? with
      | none => rw [em] at hx; cases hx
      | some m =>
        rw [em] at hx hy
        cases hx
        cases hy
        have hm := hms m (List.mem_of_getElem? em)
        walk_at "go"
        refine s_fn GS hr ⟨p, (m : Nat), n, b, rfl, hb.same s1, okb, hn8, hsb, fun T5 r5 H5 hT5 s5 g5 sh5 => ?_⟩
        refine s_ixT (SqT.of g5) (v := .int (splitM (m : Nat) b)) rfl ?_
        exact hR _ s5
    · walk_at "go"
      rw [List.length_map] at hc
      refine s_sortSet rfl hS (by omega) fun ns u h1 h2 hu => ?_
      have e := aft_eq (n := n) (b := b) (ms := ms) ⟨okb, hsb⟩ hms h1 fun k => by rw [h2, decide_eq_true_iff]
      rw [e]
      have s2 := same_new (o := .lst ((nI (aft n b ms)).map V.int)) hu
      walk_at "go"
      refine s_tupleL (SqL.of upd_same) fun r hr2 => ?_
      exact q _ _ ((s1.trans s2).trans (same_new hr2)) upd_same
    · walk_at "go"
      exact k
/-- the marks that remain after so many bills of an evening that is repeated -/
def mkA (n : Nat) (bs : List (Int × List Int)) : Nat → List Nat
  | 0 => List.range n
  | j + 1 => aft n (bs.getD (j % bs.length) (0, [])) (mkA n bs j)
theorem mkA_lt (n : Nat) (bs : List (Int × List Int)) : ∀ j, (∀ k ∈ mkA n bs j, k < n) ∧ (mkA n bs j).length ≤ n
  | 0 => ⟨fun k h => List.mem_range.1 h, by show (List.range n).length ≤ n; rw [List.length_range]; exact Nat.le_refl _⟩
  | j + 1 => ⟨aft_lt, aft_len⟩
/-- the first place of those from lo on at which d holds -/
def fstP (d : Nat → Bool) : Nat → Nat → V
  | _, 0 => .non
  | lo, c + 1 => if d lo = true then .int (lo : Nat) else fstP d (lo + 1) c
theorem fstP_at (d : Nat → Bool) : ∀ c lo i : Nat, i < c → (∀ k, k < i → d (lo + k) = false) → d (lo + i) = true → fstP d lo c = .int ((lo + i : Nat) : Int)
  | 0, lo, i, h, _, _ => by omega
  | c + 1, lo, 0, _, _, h => if_pos h
  | c + 1, lo, i + 1, hi, h, h' => by
    have e : fstP d lo (c + 1) = fstP d (lo + 1) c := if_neg (by have := h 0 (by omega); rw [Nat.add_zero] at this; rw [this]; exact Bool.false_ne_true)
    rw [e, fstP_at d c (lo + 1) i (by omega) (fun k hk => by have := h (k + 1) (by omega); rw [show lo + (k + 1) = lo + 1 + k by omega] at this; exact this) (by rw [show lo + 1 + i = lo + (i + 1) by omega]; exact h'), show lo + 1 + i = lo + (i + 1) by omega]
theorem fstP_none (d : Nat → Bool) : ∀ c lo : Nat, (∀ k, k < c → d (lo + k) = false) → fstP d lo c = .non
  | 0, _, _ => rfl
  | c + 1, lo, h => by
    have e : fstP d lo (c + 1) = fstP d (lo + 1) c := if_neg (by have := h 0 (by omega); rw [Nat.add_zero] at this; rw [this]; exact Bool.false_ne_true)
    rw [e, fstP_none d c (lo + 1) fun k hk => by have := h (k + 1) (by omega); rw [show lo + (k + 1) = lo + 1 + k by omega] at this; exact this]
def knownV (n : Nat) (bs : List (Int × List Int)) : V := fstP (fun j => decide ((mkA n bs j).length = 1)) 1 (n * bs.length)
end
section
variable {P : Program} {w : World} {K : PySem.W.Frag} {mg : Str → Option Value} {base : Heap} {a : Ad}
theorem w_tupRg1 {ta : TE} {σ : L2.St} {H : Hp} {Q : VK} (h : ta σ H fun x H1 => ∃ n, x = .int n ∧ RgOk 0 n ∧ ∀ q, H1 q = none → Q (.ref q) (upd H1 q (.tup (rgV 0 n)))) : tTupRg (tRg1 ta) σ H Q := h
theorem rgV_nI (n : Nat) : rgV 0 (n : Int) = (nI (List.range n)).map V.int := by
  unfold rgV nI
  rw [show ((n : Int) - 0).toNat = n by omega, List.map_map]
  exact List.map_congr_left fun i _ => by rw [Int.zero_add]; rfl
def spKnown (CE CB : Addr) : Sp := fun vs H Q _ => ∃ (e : Addr) (n : Nat) (bs : List (Int × List Int)), vs = [.ref e] ∧ EvAt CE CB H e n bs ∧ OkEv n bs ∧ ∀ H', Same H H' → Q (knownV n bs) H'
theorem ok_known (T : Facts K mg a) : FnR P w K mg base (L2.CX P w) 5 a.f_known_after (spKnown a.c_Evening a.c_Bill) := by
  obtain ⟨fd, F⟩ := T.u_known_after
  have GA : FnR P w K mg base (L2.CX P w) 4 a.f_marks_after (spAfter a.c_Bill) := ok_after T
  have GE : FnR P w K mg base (L2.CX P w) 1 a.f_Evening_seat_count (spEvCount a.c_Evening) := ok_ev_count T
  have GB : FnR P w K mg base (L2.CX P w) 1 a.f_Evening_bills (spEvBills a.c_Evening) := ok_ev_bills T
  refine fnr_ok F sc_known_after (F.binds fun _ _ _ _ _ _ us hl => match us, hl with | [_], _ => rfl) (fun vs H Q E h => ?_) (fun cdv A outer s H vs Q E hr h => ?_)
  · obtain ⟨e, n, bs, rfl, _⟩ := h
    rfl
  · obtain ⟨e, n, bs, rfl, hev, ok, q⟩ := h
    obtain ⟨dx, tb, ps, e1, e2, e3⟩ := id hev
    have hn2 := ok.1
    have hn8 := ok.2.1
    refine ⟨_, (pss_cons (ps_set (i := 1) sc_known_after.nd rfl (Or.inl rfl) (pe_tupRg rfl (by rfl) T.z_tuple (prg_1 (by rfl) T.z_range (pe_atA Like.refl pas_main (pv 0)))))
    (pss_cons (ps_set (i := 2) sc_known_after.nd rfl (Or.inl rfl) (pe_int))
    (pss_cons (ps_for own_main rfl (pi_range1 (by rfl) T.z_range (pa_cons (pe_atA Like.refl pas_main (pv 0)) pa_nil)) (pg_name (i := 3) sc_known_after.nd rfl (Or.inl rfl)) (pss_one (ps_for own_main rfl (pi_seqA Like.refl (pe_atA Like.refl pas_main (pv 0))) (pg_name (i := 4) sc_known_after.nd rfl (Or.inl rfl)) (pss_cons (ps_set (i := 1) sc_known_after.nd rfl (Or.inl rfl) (pe_glA Like.refl pas_main (by rfl) (pa_cons (pv 4) (pa_cons (pv 1) (pa_cons (pe_atA Like.refl pas_main (pv 0)) pa_nil)))))
    (pss_cons (ps_augA (i := 2) Like.refl pas_main sc_known_after.nd rfl (Or.inl rfl) (pe_int))
    (pss_one (ps_if (pt_cmpA Like.refl pas_main (pe_biA (id := "len") Like.refl pas_main (by rfl) (by decide +kernel) (pa_cons (pv 1) pa_nil)) (pe_int) (nomark _)) (pss_one (ps_ret (pv 2))) pss_nil)))))))
    (pss_one (ps_ret (pe_non)))))), ?_⟩
    walk_at "go"
    refine w_tupRg1 ?_
    walk_at "go"
    refine s_prop T.cl_Evening T.pr_Evening_seat_count GE (hr.mono (by decide)) e1 ⟨e, dx, tb, _, rfl, e1, ?_⟩
    refine ⟨_, rfl, RgOk.of_le (by decide) (by omega) (by decide) (by omega), fun t0 ht0 => ?_⟩
    rw [rgV_nI]
    have s0 := same_new (o := .tup ((nI (List.range n)).map V.int)) ht0
    walk_at "go"
    refine f_rng (n := n) (fun i σ H' => Same H H' ∧ ∃ t x3 x4, σ = [some (.ref e), some (.ref t), some (.int ((i * bs.length : Nat) : Int)), x3, x4] ∧ H' t = some (.tup ((nI (mkA n bs (i * bs.length))).map V.int)) ∧ ∀ k, k < i * bs.length → decide ((mkA n bs (1 + k)).length = 1) = false) (fun R k => ?_) (by omega)
      ⟨s0, t0, _, _, by rw [Nat.zero_mul]; rfl, by rw [Nat.zero_mul]; exact upd_same, fun k hk => by omega⟩ (fun i σ H1 hi pv => ?_) (fun σ H1 pv => ?_)
    · walk_at "go"
      exact s_prop T.cl_Evening T.pr_Evening_seat_count GE (hr.mono (by decide)) (s0 _ _ e1) ⟨e, dx, tb, _, rfl, s0 _ _ e1, k⟩
    · obtain ⟨s1, t, x3, x4, rfl, ht, hno⟩ := pv
      refine w_name ?_
      dsimp only [List.set]
      walk_at "go"
      refine f_tup (a := tb) (xs := ps.map V.ref) (fun j σ H' => Same H H' ∧ j ≤ bs.length ∧ ∃ t x4, σ = [some (.ref e), some (.ref t), some (.int ((i * bs.length + j : Nat) : Int)), some (.int (i : Nat)), x4] ∧ H' t = some (.tup ((nI (mkA n bs (i * bs.length + j))).map V.int)) ∧ ∀ k, k < i * bs.length + j → decide ((mkA n bs (1 + k)).length = 1) = false) (fun R k => ?_)
        ⟨s1, Nat.zero_le _, t, _, rfl, ht, hno⟩ (fun j σ H' _ pv => SqT.of (pv.1 _ _ e2)) (fun j x σ H2 hx pv => ?_) (fun σ H2 pv => ?_)
      · walk_at "go"
        exact s_prop T.cl_Evening T.pr_Evening_bills GB (hr.mono (by decide)) (s1 _ _ e1) ⟨e, dx, tb, _, rfl, s1 _ _ e1, k⟩
      · obtain ⟨s2, hj, t, x4, rfl, ht, hno⟩ := pv
        rw [List.getElem?_map] at hx
        cases ep : ps[j]? with
        | none => rw [ep] at hx; cases hx
        | some bp =>
          rw [ep] at hx
          cases hx
          obtain ⟨hk, _⟩ := List.getElem?_eq_some_iff.1 ep
          have hjb : j < bs.length := by rw [← e3.1]; exact hk
          have eb := List.getElem?_eq_getElem hjb
          have hb := ok.2.2.2 _ (List.getElem_mem hjb)
          have em : mkA n bs (i * bs.length + j + 1) = aft n bs[j] (mkA n bs (i * bs.length + j)) := by
            show aft n (bs.getD ((i * bs.length + j) % bs.length) (0, [])) _ = _
            rw [show (i * bs.length + j) % bs.length = j by rw [Nat.add_comm, Nat.add_mul_mod_self_right, Nat.mod_eq_of_lt hjb], List.getD_eq_getElem?_getD, eb]
            rfl
          obtain ⟨l1, l2⟩ := mkA_lt n bs (i * bs.length + j)
          refine w_name ?_
          dsimp only [List.set]
          walk_at "go"
          refine s_prop T.cl_Evening T.pr_Evening_seat_count GE (hr.mono (by decide)) (s2 _ _ e1) ⟨e, dx, tb, _, rfl, s2 _ _ e1, ?_⟩
          refine s_fn GA (hr.mono (by decide)) ⟨bp, t, n, bs[j], mkA n bs (i * bs.length + j), rfl, (e3.2 j bp _ ep eb).same s2, hb.1, hb.2, hn8, ht, l1, by omega, fun r H3 s3 hr3 => ?_⟩
          rw [← em] at hr3
          walk_at "go"
          refine w_augI rfl ?_
          walk_at "go"
          refine s_iadd ?_
          dsimp only [List.set]
          walk_at "go"
          refine s_lenT (SqT.of hr3) ?_
          rw [List.length_map, show (nI (mkA n bs (i * bs.length + j + 1))).length = (mkA n bs (i * bs.length + j + 1)).length by unfold nI; rw [List.length_map]]
          walk_at "go"
          have s23 := s2.trans s3
          have hlt : i * bs.length + j < n * bs.length := by
            have h1 : (i + 1) * bs.length ≤ n * bs.length := Nat.mul_le_mul_right _ hi
            rw [Nat.succ_mul] at h1
            omega
          refine ite_d (fun h1 => ?_) (fun h1 => ?_)
          · walk_at "go"
            have ek : knownV n bs = .int ((1 + (i * bs.length + j) : Nat) : Int) := fstP_at _ _ 1 (i * bs.length + j) hlt hno (decide_eq_true (by rw [Nat.add_comm]; omega))
            have z := q H3 s23
            rw [ek] at z
            rw [show ((i * bs.length + j : Nat) : Int) + 1 = ((1 + (i * bs.length + j) : Nat) : Int) by omega]
            exact z
          · walk_at "go"
            refine ⟨s23, hjb, r, _, by rw [show ((i * bs.length + j : Nat) : Int) + 1 = ((i * bs.length + (j + 1) : Nat) : Int) by omega], hr3, fun k hk2 => ?_⟩
            by_cases z : k = i * bs.length + j
            · rw [z, Nat.add_comm 1]
              exact decide_eq_false (by omega)
            · exact hno k (by omega)
      · obtain ⟨s2, _, t, x4, rfl, ht, hno⟩ := pv
        rw [List.length_map, e3.1] at ht hno
        rw [List.length_map, e3.1]
        have e4 : i * bs.length + bs.length = (i + 1) * bs.length := (Nat.succ_mul _ _).symm
        rw [e4] at ht hno
        rw [e4]
        exact ⟨s2, t, _, _, rfl, ht, hno⟩
    · obtain ⟨s1, t, x3, x4, rfl, ht, hno⟩ := pv
      walk_at "go"
      have z := q H1 s1
      rw [show knownV n bs = .non from fstP_none _ _ 1 hno] at z
      exact z
end

/-! ### evenings so many times; how many bills -/
section
variable {P : Program} {w : World} {K : PySem.W.Frag} {mg : Str → Option Value} {base : Heap} {a : Ad}
def spEvLen (CE CB : Addr) : Sp := fun vs H Q _ => ∃ (p : Addr) (n : Int) (bs : List (Int × List Int)), vs = [.ref p] ∧ EvAt CE CB H p n bs ∧ Q (.int (bs.length : Nat)) H
theorem ok_ev_len (T : Facts K mg a) : FnR P w K mg base (L2.CX P w) 1 a.f_Evening__len_ (spEvLen a.c_Evening a.c_Bill) := by
  obtain ⟨fd, F⟩ := T.u_Evening__len_
  refine fnr_ok F sc_Evening__len_ (F.binds fun _ _ _ _ _ _ us hl => match us, hl with | [_], _ => rfl) (fun vs H Q E h => ?_) (fun cdv A outer s H vs Q E hr h => ?_)
  · obtain ⟨p, n, bs, rfl, _⟩ := h
    rfl
  · obtain ⟨p, n, bs, rfl, ⟨dx, t, ps, e1, e2, e3⟩, q⟩ := h
    refine ⟨_, (pss_one (ps_ret (pe_biA (id := "len") Like.refl pas_main (by rfl) (by decide +kernel) (pa_cons (pe_atA Like.refl pas_main (pv 0)) pa_nil)))), ?_⟩
    walk_at "go"
    refine s_fld e1 T.cl_Evening T.na_Evening_bills look_bills ?_
    walk_at "go"
    refine s_lenT (SqT.of e2) ?_
    rw [List.length_map, e3.1]
    exact q
theorem BisAt.rep {C : Addr} {H : Hp} {ps : List Addr} {bs : List (Int × List Int)} (h : BisAt C H ps bs) : ∀ k : Nat, BisAt C H (List.replicate k ps).flatten (List.replicate k bs).flatten
  | 0 => ⟨rfl, fun i p b z => by simp at z⟩
  | k + 1 => by
    rw [List.replicate_succ, List.replicate_succ, List.flatten_cons, List.flatten_cons]
    exact h.app (h.rep k)
theorem flatMap' {α β : Type} (f : α → β) (l : List α) : ∀ t : Nat, (List.replicate t (l.map f)).flatten = ((List.replicate t l).flatten).map f
  | 0 => rfl
  | t + 1 => by rw [List.replicate_succ, List.replicate_succ, List.flatten_cons, List.flatten_cons, List.map_append, flatMap' f l t]
def spEvMul (CE CB : Addr) : Sp := fun vs H Q _ => ∃ (p : Addr) (k n : Nat) (bs : List (Int × List Int)), vs = [.ref p, .int k] ∧ EvAt CE CB H p n bs ∧ k ≤ 30 ∧ bs.length ≤ 1000 ∧ OkEv n (List.replicate k bs).flatten ∧
  ∀ r H', H r = none → Same H H' → EvAt CE CB H' r n (List.replicate k bs).flatten → Q (.ref r) H'
theorem ok_ev_mul (T : Facts K mg a) : FnR P w K mg base (L2.CX P w) 6 a.f_Evening__mul_ (spEvMul a.c_Evening a.c_Bill) := by
  obtain ⟨fd, F⟩ := T.u_Evening__mul_
  have GB : FnR P w K mg base (L2.CX P w) 1 a.f_is_between spBetween := ok_between T
  have GI : FnR P w K mg base (L2.CX P w) 4 a.f_Evening__init_ (InitE a.c_Evening a.c_Bill) := ok_ev_init T
  refine fnr_ok F sc_Evening__mul_ (F.binds fun _ _ _ _ _ _ us hl => match us, hl with | [_, _], _ => rfl) (fun vs H Q E h => ?_) (fun cdv A outer s H vs Q E hr h => ?_)
  · obtain ⟨p, k, n, bs, rfl, _⟩ := h
    rfl
  · obtain ⟨p, k, n, bs, rfl, hp, hk, hbl, ok, q⟩ := h
    obtain ⟨dx, t, ps, e1, e2, e3⟩ := id hp
    refine ⟨_, (pss_cons (ps_if (pt_not (pt_trA Like.refl pas_main (pe_glA Like.refl pas_main (by rfl) (pa_cons (pv 1) (pa_cons (pe_int) (pa_cons (pe_atA Like.refl pas_main (pe_gvA Like.refl (by rfl))) pa_nil)))))) (pss_one (ps_raA rfl tk_main (by rfl))) pss_nil)
    (pss_cons (ps_set (i := 2) sc_Evening__mul_.nd rfl (Or.inl rfl) (pe_opA Like.refl pas_main (pe_atA Like.refl pas_main (pv 0)) (pv 1)))
    (pss_one (ps_ret (pe_glS2 Like.refl pas_main (by rfl) (pa_cons (pe_atA Like.refl pas_main (pv 0)) (pa_starA Like.refl (pv 2) pa_nil))))))), ?_⟩
    walk_at "go"
    refine s_cval T.cr_Evening T.cv_Evening_MAX_BILLS.choose_spec ?_
    walk_at "go"
    refine s_btwT GB (hr.mono (by decide)) (by omega) (by omega) ?_
    walk_at "go"
    refine s_fld e1 T.cl_Evening T.na_Evening_bills look_bills ?_
    walk_at "go"
    refine s_repT (SqT.of e2) (by omega) (by rw [List.length_map, e3.1]; exact hbl) fun b H1 s1 hb => ?_
    rw [flatMap'] at hb
    walk_at "go"
    refine s_fld (s1 _ _ e1) T.cl_Evening T.na_Evening_seat_count look_count ?_
    refine ⟨.ref b, rfl, b, _, rfl, .inl hb, ?_⟩
    walk_at "go"
    show ∃ r, CaD _ E (.ref a.c_Evening) r ∧ r (.int (n : Nat) :: ((List.replicate k ps).flatten.map V.ref ++ [])) _ _
    rw [List.append_nil]
    exact s_evening T GI (hr.mono (by decide)) ((e3.same s1).rep k) ok fun r H2 hr2 s2 ev => q r H2 (s1.free hr2) (s1.trans s2) ev
end

/-! ### a few bills, and which tell the mark -/
section
variable {P : Program} {w : World} {K : PySem.W.Frag} {mg : Str → Option Value} {base : Heap} {a : Ad}
def spFew (CE CB : Addr) : Sp := fun vs H Q _ => ∃ (n : Nat) (t : Addr) (ps : List Addr) (bs : List (Int × List Int)), vs = [.int n, .ref t] ∧ H t = some (.tup (ps.map V.ref)) ∧ BisAt CB H ps bs ∧ OkEv n bs ∧ bs.length ≤ 6 ∧ ∀ e H', H e = none → Same H H' → EvAt CE CB H' e n bs → Q (.ref e) H'
theorem ok_few (T : Facts K mg a) : FnR P w K mg base (L2.CX P w) 6 a.f_evening_of_few (spFew a.c_Evening a.c_Bill) := by
  obtain ⟨fd, F⟩ := T.u_evening_of_few
  have GI : FnR P w K mg base (L2.CX P w) 4 a.f_Evening__init_ (InitE a.c_Evening a.c_Bill) := ok_ev_init T
  have GL : FnR P w K mg base (L2.CX P w) 1 a.f_Evening__len_ (spEvLen a.c_Evening a.c_Bill) := ok_ev_len T
  refine fnr_ok F sc_evening_of_few (F.binds fun _ _ _ _ _ _ us hl => match us, hl with | [_, _], _ => rfl) (fun vs H Q E h => ?_) (fun cdv A outer s H vs Q E hr h => ?_)
  · obtain ⟨n, t, ps, bs, rfl, _⟩ := h
    rfl
  · obtain ⟨n, t, ps, bs, rfl, ht, hb, ok, h6, q⟩ := h
    refine ⟨_, (pss_cons (ps_set (i := 2) sc_evening_of_few.nd rfl (Or.inl rfl) (pe_glS2 Like.refl pas_main (by rfl) (pa_cons (pv 0) (pa_starA Like.refl (pv 1) pa_nil))))
    (pss_cons (ps_if (pt_cmpA Like.refl pas_main (pe_biA (id := "len") Like.refl pas_main (by rfl) (by decide +kernel) (pa_cons (pv 2) pa_nil)) (pe_gvI Like.refl (by rfl)) (nomark _)) (pss_one (ps_raA rfl tk_main (by rfl))) pss_nil)
    (pss_one (ps_ret (pv 2))))), ?_⟩
    walk_at "go"
    refine ⟨.ref t, rfl, t, _, rfl, .inl (SqT.of ht), ?_⟩
    walk_at "go"
    show ∃ r, CaD _ E (.ref a.c_Evening) r ∧ r (.int (n : Nat) :: (ps.map V.ref ++ [])) _ _
    rw [List.append_nil]
    refine s_evening T GI (hr.mono (by decide)) hb ok fun e H1 he s1 ev => ?_
    walk_at "go"
    obtain ⟨dx, tb, ps', e1, _⟩ := id ev
    refine s_lenI T.m_Evening__len_ GL (hr.mono (by decide)) e1 ⟨e, _, _, rfl, ev, _, rfl, by omega, by omega, ?_⟩
    walk_at "go"
    refine w_gvI T.i_MAX_LISTED_BILLS.choose_spec ?_
    walk_at "go"
    rw [decide_eq_false (by omega)]
    walk_at "go"
    exact q e H1 he s1 ev
def oddB (b : Int × List Int) : Bool := decide (0 < b.1 % (b.2.length : Nat))
/-- the first bill with odd cents, as a list of its index -/
def tellV (bs : List (Int × List Int)) : Option Nat := bs.findIdx? oddB
def spTelling (CB : Addr) : Sp := fun vs H Q _ => ∃ (n : Nat) (t : Addr) (ps : List Addr) (bs : List (Int × List Int)), vs = [.int n, .ref t] ∧ H t = some (.tup (ps.map V.ref)) ∧ BisAt CB H ps bs ∧ OkEv n bs ∧ bs.length ≤ 6 ∧
  (tellV bs = none → ∀ H', Same H H' → Q .non H') ∧ ∀ i, tellV bs = some i → ∀ p H', H p = none → Same H H' → H' p = some (.lst [.int (i : Nat)]) → Q (.ref p) H'
theorem ok_telling (T : Facts K mg a) : FnR P w K mg base (L2.CX P w) 7 a.f_telling (fun vs H Q E => ∃ ws rest, vs = ws ++ rest ∧ ws.length = ["seat_count"].length ∧ rest.length ≤ sizeLine ∧ ∀ p, H p = Option.none → spTelling a.c_Bill (ws ++ [V.ref p]) (upd H p (.tup rest)) Q E) := by
  obtain ⟨fd, F⟩ := T.u_telling
  have GF : FnR P w K mg base (L2.CX P w) 6 a.f_evening_of_few (spFew a.c_Evening a.c_Bill) := ok_few T
  have GB : FnR P w K mg base (L2.CX P w) 1 a.f_Evening_bills (spEvBills a.c_Evening) := ok_ev_bills T
  have GO : FnR P w K mg base (L2.CX P w) 1 a.f_Bill_odd_cents (spBiOdd a.c_Bill) := ok_bi_odd T
  refine fnr_star1 (p1 := "seat_count") (pv := "bills") F sc_telling (fun _ _ _ _ _ _ _ => rfl) (fun _ _ _ _ _ _ _ _ _ => rfl) (fun cdv A outer s H vs Q E hr h => ?_)
  obtain ⟨n, t, ps, bs, rfl, ht, hb, ok, h6, q0, q1⟩ := h
  refine ⟨_, (pss_cons (ps_set (i := 2) sc_telling.nd rfl (Or.inl rfl) (pe_glA Like.refl pas_main (by rfl) (pa_cons (pv 0) (pa_cons (pv 1) pa_nil))))
    (pss_cons (ps_for own_main rfl (pi_enumA (by rfl) T.z_enumerate (pa_cons (pe_atA Like.refl pas_main (pv 2)) pa_nil)) (pg_tup rfl (pgs_cons (pg_name (i := 3) sc_telling.nd rfl (Or.inl rfl)) (pgs_cons (pg_name (i := 4) sc_telling.nd rfl (Or.inl rfl)) pgs_nil))) (pss_one (ps_if (pt_cmpA Like.refl pas_main (pe_atA Like.refl pas_main (pv 4)) (pe_int) (nomark _)) (pss_one (ps_ret (pe_lst (pa_cons (pv 3) pa_nil)))) pss_nil)))
    (pss_one (ps_ret (pe_non))))), ?_⟩
  walk_at "go"
  refine s_fn GF (hr.mono (by decide)) ⟨n, t, ps, bs, rfl, ht, hb, ok, h6, fun e H1 he s1 ev => ?_⟩
  obtain ⟨dx, tb, ps2, e1, e2, e3⟩ := id ev
  walk_at "go"
  refine f_enumT (a := tb) (xs := ps2.map V.ref) (fun k σ H' => Same H1 H' ∧ ∃ x3 x4, σ = [some (.int (n : Nat)), some (.ref t), some (.ref e), x3, x4] ∧ ∀ j b, j < k → bs[j]? = some b → oddB b = false) (fun R k => ?_)
    ⟨Same.refl _, _, _, rfl, fun j b hj _ => absurd hj (Nat.not_lt_zero _)⟩ (fun k σ H' _ pv => SqT.of (pv.1 _ _ e2)) (fun k x σ H' T2 hx pv hT2 => ?_) (fun σ H' pv => ?_)
  · walk_at "go"
    exact s_prop T.cl_Evening T.pr_Evening_bills GB (hr.mono (by decide)) e1 ⟨e, dx, tb, _, rfl, e1, k⟩
  · obtain ⟨s2, x3, x4, rfl, hno⟩ := pv
    rw [List.getElem?_map] at hx
    cases ep : ps2[k]? with
    | none => rw [ep] at hx; cases hx
    | some bp =>
      rw [ep] at hx
      cases hx
      obtain ⟨hk, _⟩ := List.getElem?_eq_some_iff.1 ep
      obtain ⟨b, eb⟩ : ∃ b, bs[k]? = some b := ⟨_, List.getElem?_eq_getElem (by rw [← e3.1]; exact hk)⟩
      have hbk := ok.2.2.2 b (List.mem_of_getElem? eb)
      have sT := same_new (o := .tup [.int (k : Nat), .ref bp]) hT2
      have s3 := s2.trans sT
      have bi := (e3.2 k bp b ep eb).same s3
      obtain ⟨dy, tt, g1, g2⟩ := id bi
      generalize upd H' T2 (.tup [.int (k : Nat), .ref bp]) = H2 at *
      dsimp only [List.set]
      walk_at "go"
      refine s_prop T.cl_Bill T.pr_Bill_odd_cents GO (hr.mono (by decide)) g1 ⟨bp, b, rfl, bi, hbk.1.2.2.2, ?_⟩
      walk_at "go"
      refine ite_d (fun h1 => ?_) (fun h1 => ?_)
      · walk_at "go"
        refine ⟨by show 1 ≤ sizeLine; decide, fun p hp => ?_⟩
        have s4 := same_new (o := .lst [.int (k : Nat)]) hp
        have et : tellV bs = some k := by
          obtain ⟨hkb, ebk⟩ := List.getElem?_eq_some_iff.1 eb
          refine List.findIdx?_eq_some_iff_getElem.2 ⟨hkb, by rw [ebk]; exact decide_eq_true h1, fun j hj => ?_⟩
          have := hno j _ hj (List.getElem?_eq_getElem (by omega))
          rw [this]
          exact Bool.false_ne_true
        exact q1 k et p _ ((s1.trans s3).free hp) ((s1.trans s3).trans s4) upd_same
      · walk_at "go"
        refine ⟨s3, _, _, rfl, fun j c hj ec => ?_⟩
        by_cases z : j = k
        · rw [z, eb] at ec
          cases ec
          exact decide_eq_false h1
        · exact hno j c (by omega) ec
  · obtain ⟨s2, x3, x4, rfl, hno⟩ := pv
    rw [List.length_map, e3.1] at hno
    walk_at "go"
    refine q0 (List.findIdx?_eq_none_iff.2 fun b hb2 => ?_) H' (s1.trans s2)
    obtain ⟨j, ej⟩ := List.mem_iff_getElem?.1 hb2
    exact hno j b (List.getElem?_eq_some_iff.1 ej).1 ej
end

/-! ### the first shortest list of bills that leads to one mark: the search, level by level -/
/-- all ascending lists of places below k -/
def subs : Nat → List (List Nat)
  | 0 => [[]]
  | k + 1 => subs k ++ (subs k).map (· ++ [k])
theorem subs_len : ∀ k, (subs k).length = 2 ^ k
  | 0 => rfl
  | k + 1 => by
    show (subs k ++ (subs k).map (· ++ [k])).length = _
    rw [List.length_append, List.length_map, subs_len k, Nat.pow_succ]
    omega
theorem subs_mem (p : Nat → Bool) : ∀ k, (List.range k).filter p ∈ subs k
  | 0 => by simp [subs]
  | k + 1 => by
    have ih := subs_mem p k
    rw [List.range_succ, List.filter_append]
    show _ ∈ subs k ++ (subs k).map (· ++ [k])
    rw [List.mem_append]
    by_cases h : p k = true
    · refine .inr (List.mem_map.2 ⟨_, ih, ?_⟩)
      simp [h]
    · refine .inl ?_
      have : [k].filter p = [] := by simp [h]
      rw [this, List.append_nil]
      exact ih
theorem nodup_leA {α : Type} [DecidableEq α] : ∀ (l o : List α), l.Nodup → (∀ x ∈ l, x ∈ o) → l.length ≤ o.length
  | [], _, _, _ => Nat.zero_le _
  | x :: l, o, hn, h => by
    have hx := h x (List.mem_cons_self ..)
    have hn' := List.nodup_cons.1 hn
    have i := nodup_leA l (o.erase x) hn'.2 fun y hy => (List.mem_erase_of_ne (fun e : y = x => hn'.1 (by rw [← e]; exact hy))).2 (h y (List.mem_cons_of_mem _ hy))
    rw [List.length_erase_of_mem hx] at i
    have := List.length_pos_of_mem hx
    rw [List.length_cons]
    omega
abbrev Dct := List (List Nat × List Nat)
/-- the list that leads to a set -/
def wayOf (D : Dct) (s : List Nat) : List Nat := ((D.find? fun p => decide (p.1 = s)).map (·.2)).getD []
def seenD (D : Dct) (s : List Nat) : Bool := D.any fun p => decide (p.1 = s)
/-- one bill tried from a set -/
def stepB (n : Nat) (ms w : List Nat) (j : Nat) (b : Int × List Int) (x : Dct × List (List Nat)) : Except (List Nat) (Dct × List (List Nat)) :=
  if (aft n b ms).length = 1 then .error (w ++ [j]) else if seenD x.1 (aft n b ms) = true then .ok x else .ok (x.1 ++ [(aft n b ms, w ++ [j])], x.2 ++ [aft n b ms])
/-- the first k bills tried from a set -/
def stepsB (n : Nat) (bs : List (Int × List Int)) (ms w : List Nat) : Nat → Dct × List (List Nat) → Except (List Nat) (Dct × List (List Nat))
  | 0, x => .ok x
  | k + 1, x => (stepsB n bs ms w k x).bind (stepB n ms w k (bs.getD k (0, [])))
/-- the first i sets of a level taken up -/
def levelB (n : Nat) (bs : List (Int × List Int)) (level : List (List Nat)) (D : Dct) : Nat → Except (List Nat) (Dct × List (List Nat))
  | 0 => .ok (D, [])
  | i + 1 => (levelB n bs level D i).bind fun x => stepsB n bs (level.getD i []) (wayOf x.1 (level.getD i [])) bs.length x
/-- what is known of a state of the search -/
def DOk (n : Nat) (D : Dct) : Prop := (D.map (·.1)).Nodup ∧ ∀ s ∈ D.map (·.1), s ∈ subs n
theorem DOk.len {n : Nat} {D : Dct} (h : DOk n D) : D.length ≤ 2 ^ n := by
  have := nodup_leA (D.map (·.1)) (subs n) h.1 h.2
  rw [List.length_map, subs_len] at this
  exact this
theorem stepB_ok {n : Nat} {ms w : List Nat} {j : Nat} {b : Int × List Int} {x y : Dct × List (List Nat)} (h : DOk n x.1) (e : stepB n ms w j b x = .ok y) : DOk n y.1 ∧ x.1.length ≤ y.1.length ∧ y.1.length + x.2.length = x.1.length + y.2.length := by
  unfold stepB at e
  split at e
  · cases e
  · split at e
    · cases e
      exact ⟨h, Nat.le_refl _, rfl⟩
    · rename_i hs
      cases e
      refine ⟨⟨?_, ?_⟩, ?_, ?_⟩
      · rw [List.map_append, List.nodup_append]
        refine ⟨h.1, by simp, fun s hs1 t ht => ?_⟩
        rw [List.mem_map] at hs1
        obtain ⟨p, hp, rfl⟩ := hs1
        simp only [List.map_cons, List.map_nil, List.mem_singleton] at ht
        subst ht
        intro z
        exact hs (List.any_eq_true.2 ⟨p, hp, decide_eq_true z⟩)
      · intro s hs1
        rw [List.map_append, List.mem_append] at hs1
        rcases hs1 with hs1 | hs1
        · exact h.2 s hs1
        · simp only [List.map_cons, List.map_nil, List.mem_singleton] at hs1
          subst hs1
          exact subs_mem _ _
      · rw [List.length_append]; exact Nat.le_add_right _ _
      · rw [List.length_append, List.length_append]
        simp
        omega
theorem stepsB_ok {n : Nat} {bs : List (Int × List Int)} {ms w : List Nat} : ∀ {k : Nat} {x y : Dct × List (List Nat)}, DOk n x.1 → stepsB n bs ms w k x = .ok y → DOk n y.1 ∧ x.1.length ≤ y.1.length ∧ y.1.length + x.2.length = x.1.length + y.2.length
  | 0, x, y, h, e => by cases e; exact ⟨h, Nat.le_refl _, rfl⟩
  | k + 1, x, y, h, e => by
    unfold stepsB at e
    cases z : stepsB n bs ms w k x with
    | error w' => rw [z] at e; cases e
    | ok v =>
      rw [z] at e
      obtain ⟨a1, a2, a3⟩ := stepsB_ok h z
      obtain ⟨b1, b2, b3⟩ := stepB_ok a1 (show stepB n ms w k (bs.getD k (0, [])) v = .ok y from e)
      exact ⟨b1, by omega, by omega⟩
theorem levelB_ok {n : Nat} {bs : List (Int × List Int)} {level : List (List Nat)} {D : Dct} (h : DOk n D) : ∀ {i : Nat} {y : Dct × List (List Nat)}, levelB n bs level D i = .ok y → DOk n y.1 ∧ D.length ≤ y.1.length ∧ y.1.length = D.length + y.2.length
  | 0, y, e => by cases e; exact ⟨h, Nat.le_refl _, rfl⟩
  | i + 1, y, e => by
    unfold levelB at e
    cases z : levelB n bs level D i with
    | error w' => rw [z] at e; cases e
    | ok v =>
      rw [z] at e
      obtain ⟨a1, a2, a3⟩ := levelB_ok h z
      obtain ⟨b1, b2, b3⟩ := stepsB_ok a1 (show stepsB n bs (level.getD i []) (wayOf v.1 (level.getD i [])) bs.length v = .ok y from e)
      exact ⟨b1, by omega, by omega⟩
/-- the search, at most so many levels -/
def runB (n : Nat) (bs : List (Int × List Int)) : Nat → Dct → List (List Nat) → Option (List Nat)
  | 0, _, _ => none
  | f + 1, D, level => if level = [] then none else match levelB n bs level D level.length with
    | .error w => some w
    | .ok x => runB n bs f x.1 x.2
/-- reset's list, or none -/
def resetV (n : Nat) (bs : List (Int × List Int)) : Option (List Nat) := runB n bs (2 ^ n + 1) [(List.range n, [])] [List.range n]
/-- enough levels: more change nothing -/
theorem runB_more {n : Nat} {bs : List (Int × List Int)} : ∀ (f : Nat) (D : Dct) (level : List (List Nat)), DOk n D → 2 ^ n < f + D.length ∨ level = [] → ∀ g, f ≤ g → runB n bs g D level = runB n bs f D level ∨ f = 0
  | 0, _, _, _, _, _, _ => .inr rfl
  | f + 1, D, level, h, hf, g, hg => by
    obtain ⟨g, rfl⟩ : ∃ g', g = g' + 1 := ⟨g - 1, by omega⟩
    refine .inl ?_
    unfold runB
    by_cases hl : level = []
    · rw [if_pos hl, if_pos hl]
    · rw [if_neg hl, if_neg hl]
      cases z : levelB n bs level D level.length with
      | error w => rfl
      | ok x =>
        obtain ⟨a1, a2, a3⟩ := levelB_ok h z
        show runB n bs g x.1 x.2 = runB n bs f x.1 x.2
        have hlen := a1.len
        rcases hf with hf | hf
        · by_cases hx : x.2 = []
          · cases f with
            | zero =>
              cases g with
              | zero => rfl
              | succ g => show (if x.2 = [] then none else _) = _; rw [if_pos hx]; rfl
            | succ f =>
              cases g with
              | zero => omega
              | succ g =>
                show (if x.2 = [] then none else _) = (if x.2 = [] then none else _)
                rw [if_pos hx, if_pos hx]
          · have hp := List.length_pos_iff.2 hx
            rcases runB_more f x.1 x.2 a1 (.inl (by omega)) g (by omega) with e | e
            · exact e
            · omega
        · exact absurd hf hl

end Odd

namespace Odd
open PySem PySem.Spec PyProof.Rows L2
/-! tactics of this text: st one step, go as many as go -/
local macro_rules | `(tactic| walk_at "ar") => `(tactic| first | assumption | omega | (show (_ : Int) < _; omega) | decide)
local macro_rules | `(tactic| walk_at "st") => `(tactic| first
  | with_reducible refine' w_seq ?_
  | with_reducible refine' w_asg ?_
  | with_reducible refine' w_name ?_
  | with_reducible refine' w_c ?_
  | with_reducible refine' w_op ?_
  | with_reducible refine' w_ix ?_
  | with_reducible refine' w_at ?_
  | with_reducible refine' w_cons ?_
  | with_reducible refine' w_nil ?_
  | with_reducible refine' w_ret ?_
  | with_reducible refine' w_if ?_
  | with_reducible refine' w_test ?_
  | with_reducible refine' w_tr ?_
  | with_reducible refine' w_un ?_
  | with_reducible refine' w_andV ?_
  | with_reducible refine' w_orV ?_
  | with_reducible refine' w_notA ?_
  | with_reducible refine' w_ch ?_
  | with_reducible refine' w_and ?_
  | with_reducible refine' w_or ?_
  | with_reducible refine' w_not ?_
  | with_reducible refine' w_ifx ?_
  | with_reducible refine' w_tup ?_
  | with_reducible refine' w_lst ?_
  | with_reducible refine' w_next ?_
  | with_reducible refine' w_drop ?_
  | with_reducible refine' w_retN ?_
  | ((with_reducible refine' w_var ?h ?_); (case h => exact rfl))
  | ((with_reducible refine' w_bi ?h ?_); (case h => walk_at "mg"))
  | ((with_reducible refine' w_bv ?h ?_); (case h => walk_at "mg"))
  | ((with_reducible refine' w_gv ?h ?_); (case h => walk_at "mg"))
  | ((with_reducible refine' w_gl ?h ?k ?_); (case h => walk_at "mg"); (case k => walk_at "kp"))
  | ((with_reducible refine' w_glS ?h ?k ?_); (case h => walk_at "mg"); (case k => walk_at "kp"))
  | with_reducible refine' bl_ex ?_
  | with_reducible refine' iteT ?_
  | with_reducible refine' iteF ?_
  | with_reducible refine' ite_nf ?_
  | with_reducible refine' ite_nt ?_
  | with_reducible refine' s_add ?_
  | with_reducible refine' s_sub ?_
  | with_reducible refine' s_lt ?_
  | with_reducible refine' s_le ?_
  | with_reducible refine' s_gt ?_
  | with_reducible refine' s_ge ?_
  | with_reducible refine' s_eqI ?_
  | with_reducible refine' s_neI ?_
  | with_reducible refine' s_eqB ?_
  | with_reducible refine' s_neB ?_
  | with_reducible refine' s_truB ?_
  | with_reducible refine' s_truI ?_
  | with_reducible refine' s_neg ?_
  | ((with_reducible refine' s_mod ?h ?_); (case h => walk_at "ar")))
local macro_rules | `(tactic| walk_at "go") => `(tactic| repeat walk_at "st")

local macro_rules | `(tactic| walk_at "mg") => `(tactic| first | assumption | exact Facts.z_TypeError (by assumption) | exact Facts.z_abs (by assumption) | exact Facts.z_bool (by assumption) | exact Facts.z_classmethod (by assumption) | exact Facts.z_divmod (by assumption) | exact Facts.z_enumerate (by assumption) | exact Facts.z_int (by assumption) | exact Facts.z_isinstance (by assumption) | exact Facts.z_len (by assumption) | exact Facts.z_list (by assumption) | exact Facts.z_max (by assumption) | exact Facts.z_min (by assumption) | exact Facts.z_property (by assumption) | exact Facts.z_range (by assumption) | exact Facts.z_sorted (by assumption) | exact Facts.z_sum (by assumption) | exact Facts.z_super (by assumption) | exact Facts.z_tuple (by assumption) | exact Facts.z_zip (by assumption) | exact Facts.g__wall (by assumption) | exact Facts.g_is_between (by assumption) | exact Facts.g_check_seat (by assumption) | exact Facts.g_check_amount (by assumption) | exact Facts.g_check_seats (by assumption) | exact Facts.g_check_seat_count (by assumption) | exact Facts.g_check_bills (by assumption) | exact Facts.g_check_mark (by assumption) | exact Facts.g_check_times (by assumption) | exact Facts.g_no_shares (by assumption) | exact Facts.g_seats_behind (by assumption) | exact Facts.g_split_bill (by assumption) | exact Facts.g_twice (by assumption) | exact Facts.g_repeated (by assumption) | exact Facts.g_lowest_terms (by assumption) | exact Facts.g_long_run (by assumption) | exact Facts.g_marks_after (by assumption) | exact Facts.g_known_after (by assumption) | exact Facts.g_evening_of_few (by assumption) | exact Facts.g_reset (by assumption) | exact Facts.g_telling (by assumption) | exact Facts.g_share_for_bill (by assumption) | exact Facts.g_paid_from_each_mark (by assumption) | exact Facts.g_widest_gap (by assumption) | exact Facts.g_best_mark (by assumption) | exact Facts.g_longer_ways (by assumption) | exact Facts.g_spread_of (by assumption) | exact Facts.g_fairest_order (by assumption) | exact Facts.g__law_start (by assumption) | exact Facts.g__law_drawn (by assumption) | exact Facts.g__law_all_there (by assumption) | exact Facts.g__law_two_and_all (by assumption) | exact Facts.g_law (by assumption) | exact Facts.g_Shares (by assumption) | exact Facts.g_Bill (by assumption) | exact Facts.g_Evening (by assumption) | exact Facts.g_MarkObserver (by assumption))
local macro_rules | `(tactic| walk_at "kp") => `(tactic| first | assumption | exact (Facts.mk_Shares (by assumption)).kp | exact (Facts.mk_Bill (by assumption)).kp | exact (Facts.mk_Evening (by assumption)).kp | exact (Facts.mk_MarkObserver (by assumption)).kp | exact Fun.kp (Facts.u__wall (by assumption)).choose_spec | exact Fun.kp (Facts.u_is_between (by assumption)).choose_spec | exact Fun.kp (Facts.u_check_seat (by assumption)).choose_spec | exact Fun.kp (Facts.u_check_amount (by assumption)).choose_spec | exact Fun.kp (Facts.u_check_seats (by assumption)).choose_spec | exact Fun.kp (Facts.u_check_seat_count (by assumption)).choose_spec | exact Fun.kp (Facts.u_check_bills (by assumption)).choose_spec | exact Fun.kp (Facts.u_check_mark (by assumption)).choose_spec | exact Fun.kp (Facts.u_check_times (by assumption)).choose_spec | exact Fun.kp (Facts.u_no_shares (by assumption)).choose_spec | exact Fun.kp (Facts.u_seats_behind (by assumption)).choose_spec | exact Fun.kp (Facts.u_split_bill (by assumption)).choose_spec | exact Fun.kp (Facts.u_twice (by assumption)).choose_spec | exact Fun.kp (Facts.u_repeated (by assumption)).choose_spec | exact Fun.kp (Facts.u_lowest_terms (by assumption)).choose_spec | exact Fun.kp (Facts.u_long_run (by assumption)).choose_spec | exact Fun.kp (Facts.u_marks_after (by assumption)).choose_spec | exact Fun.kp (Facts.u_known_after (by assumption)).choose_spec | exact Fun.kp (Facts.u_evening_of_few (by assumption)).choose_spec | exact Fun.kp (Facts.u_reset (by assumption)).choose_spec | exact Fun.kp (Facts.u_telling (by assumption)).choose_spec | exact Fun.kp (Facts.u_share_for_bill (by assumption)).choose_spec | exact Fun.kp (Facts.u_paid_from_each_mark (by assumption)).choose_spec | exact Fun.kp (Facts.u_widest_gap (by assumption)).choose_spec | exact Fun.kp (Facts.u_best_mark (by assumption)).choose_spec | exact Fun.kp (Facts.u_longer_ways (by assumption)).choose_spec | exact Fun.kp (Facts.u_spread_of (by assumption)).choose_spec | exact Fun.kp (Facts.u_fairest_order (by assumption)).choose_spec | exact Fun.kp (Facts.u__law_start (by assumption)).choose_spec | exact Fun.kp (Facts.u__law_drawn (by assumption)).choose_spec | exact Fun.kp (Facts.u__law_all_there (by assumption)).choose_spec | exact Fun.kp (Facts.u__law_two_and_all (by assumption)).choose_spec | exact Fun.kp (Facts.u_law (by assumption)).choose_spec)
theorem iteT' {c : Bool} {A B : Prop} (hc : c = true) (h : A) : if c = true then A else B := by rw [if_pos hc]; exact h
theorem iteF' {c : Bool} {A B : Prop} (hc : c = false) (h : B) : if c = true then A else B := by rw [if_neg (by rw [hc]; exact Bool.false_ne_true)]; exact h

/-! ### reset's dict -/
def tkey (s : List Nat) : List Key := s.map fun m : Nat => (Sum.inl (m : Int) : Key)
theorem tkey_V (s : List Nat) : (tkey s).map kV = (nI s).map V.int := by
  unfold tkey nI
  rw [List.map_map, List.map_map]
  rfl
theorem tkey_inj : ∀ {s t : List Nat}, tkey s = tkey t → s = t
  | [], [], _ => rfl
  | [], _ :: _, h => by simp [tkey] at h
  | _ :: _, [], h => by simp [tkey] at h
  | x :: s, y :: t, h => by
    simp only [tkey, List.map_cons, List.cons.injEq] at h
    obtain ⟨h1, h2⟩ := h
    injection h1 with h1
    rw [tkey_inj (s := s) (t := t) h2, show x = y by omega]
/-- the pairs of the dict: sets as keys, lists of ways as values -/
def KvsAt (ok : Addr → Prop) (H : Hp) : Dct → List (List Key × V) → Prop
  | [], [] => True
  | p :: D, kv :: kvs => (∃ l, kv = (tkey p.1, V.ref l) ∧ ok l ∧ H l = some (.lst ((nI p.2).map V.int))) ∧ KvsAt ok H D kvs
  | _, _ => False
section
variable {ok ok' : Addr → Prop} {H H' : Hp}
theorem KvsAt.len : ∀ {D : Dct} {kvs : List (List Key × V)}, KvsAt ok H D kvs → kvs.length = D.length
  | [], [], _ => rfl
  | _ :: _, _ :: _, h => congrArg (· + 1) h.2.len
  | [], _ :: _, h => h.elim
  | _ :: _, [], h => h.elim
theorem KvsAt.keep (k0 : ∀ l, ok l → ok' l) (k : ∀ l ys, ok l → H l = some (.lst ys) → H' l = some (.lst ys)) : ∀ {D : Dct} {kvs : List (List Key × V)}, KvsAt ok H D kvs → KvsAt ok' H' D kvs
  | [], [], _ => True.intro
  | _ :: _, _ :: _, ⟨⟨l, h1, h2, h3⟩, h⟩ => ⟨⟨l, h1, k0 _ h2, k _ _ h2 h3⟩, h.keep k0 k⟩
  | [], _ :: _, h => h.elim
  | _ :: _, [], h => h.elim
theorem KvsAt.snoc {s w : List Nat} {l : Addr} (hl : ok l) (hw : H l = some (.lst ((nI w).map V.int))) : ∀ {D : Dct} {kvs : List (List Key × V)}, KvsAt ok H D kvs → KvsAt ok H (D ++ [(s, w)]) (kvs ++ [(tkey s, .ref l)])
  | [], [], _ => ⟨⟨l, rfl, hl, hw⟩, True.intro⟩
  | _ :: _, _ :: _, ⟨h1, h⟩ => ⟨h1, h.snoc hl hw⟩
  | [], _ :: _, h => h.elim
  | _ :: _, [], h => h.elim
theorem KvsAt.val (s : List Nat) : ∀ {D : Dct} {kvs : List (List Key × V)}, KvsAt ok H D kvs → (seenD D s = false ∧ valV kvs (tkey s) = none) ∨ (seenD D s = true ∧ ∃ l, valV kvs (tkey s) = some (.ref l) ∧ ok l ∧ H l = some (.lst ((nI (wayOf D s)).map V.int)))
  | [], [], _ => .inl ⟨rfl, rfl⟩
  | p :: D, kv :: kvs, ⟨⟨l, h1, h2, h3⟩, h⟩ => by
    subst h1
    by_cases e : p.1 = s
    · refine .inr ⟨by unfold seenD; rw [List.any_cons, decide_eq_true e]; rfl, l, ?_, h2, ?_⟩
      · unfold valV
        rw [List.find?_cons_of_pos (by simp [e])]
        rfl
      · unfold wayOf
        rw [List.find?_cons_of_pos (by simp [e])]
        exact h3
    · have ne : ¬ tkey p.1 = tkey s := fun z => e (tkey_inj z)
      have e1 : seenD (p :: D) s = seenD D s := by unfold seenD; rw [List.any_cons, decide_eq_false e]; rfl
      have e2 : valV ((tkey p.1, V.ref l) :: kvs) (tkey s) = valV kvs (tkey s) := by
        unfold valV
        rw [List.find?_cons_of_neg (by simp [ne])]
      have e3 : wayOf (p :: D) s = wayOf D s := by
        unfold wayOf
        rw [List.find?_cons_of_neg (by simp [e])]
      rw [e1, e2, e3]
      exact h.val s
  | [], _ :: _, h => h.elim
  | _ :: _, [], h => h.elim
end
theorem putK_new {kvs : List (List Key × V)} {key : List Key} {v : V} (h : valV kvs key = none) : putK kvs key v = kvs ++ [(key, v)] := by
  unfold putK
  rw [if_neg]
  intro z
  obtain ⟨kv, h1, h2⟩ := List.any_eq_true.1 z
  unfold valV at h
  rw [Option.map_eq_none_iff, List.find?_eq_none] at h
  exact h kv h1 h2

/-! ### reset -/
/-- sets as tuples at these places -/
def SetsAt (H : Hp) (ts : List Addr) (L : List (List Nat)) : Prop := ts.length = L.length ∧ ∀ (i : Nat) t s, ts[i]? = some t → L[i]? = some s → H t = some (.tup ((nI s).map V.int))
theorem SetsAt.keep {H H' : Hp} {ts : List Addr} {L : List (List Nat)} (h : SetsAt H ts L) (k : ∀ p xs, H p = some (.tup xs) → H' p = some (.tup xs)) : SetsAt H' ts L := ⟨h.1, fun i t s e1 e2 => k _ _ (h.2 i t s e1 e2)⟩
theorem SetsAt.snoc {H : Hp} {ts : List Addr} {L : List (List Nat)} {t : Addr} {s : List Nat} (h : SetsAt H ts L) (h' : H t = some (.tup ((nI s).map V.int))) : SetsAt H (ts ++ [t]) (L ++ [s]) := by
  refine ⟨by rw [List.length_append, List.length_append, h.1]; rfl, fun i t' s' e1 e2 => ?_⟩
  rcases Nat.lt_trichotomy i ts.length with z | z | z
  · rw [List.getElem?_append_left z] at e1
    rw [List.getElem?_append_left (by rw [← h.1]; exact z)] at e2
    exact h.2 i t' s' e1 e2
  · rw [z, List.getElem?_concat_length] at e1
    rw [z, h.1, List.getElem?_concat_length] at e2
    cases e1
    cases e2
    exact h'
  · rw [List.getElem?_eq_none (by rw [List.length_append]; show ts.length + 1 ≤ i; omega)] at e1
    cases e1
theorem stepsB_err {n : Nat} {bs : List (Int × List Int)} {ms w : List Nat} {x : Dct × List (List Nat)} {v : List Nat} : ∀ {k j : Nat}, stepsB n bs ms w k x = .error v → stepsB n bs ms w (k + j) x = .error v
  | _, 0, h => h
  | k, j + 1, h => by
    show (stepsB n bs ms w (k + j) x).bind _ = _
    rw [stepsB_err (j := j) h]
    rfl
theorem levelB_err {n : Nat} {bs : List (Int × List Int)} {L : List (List Nat)} {D : Dct} {v : List Nat} : ∀ {i j : Nat}, levelB n bs L D i = .error v → levelB n bs L D (i + j) = .error v
  | _, 0, h => h
  | i, j + 1, h => by
    show (levelB n bs L D (i + j)).bind _ = _
    rw [levelB_err (j := j) h]
    rfl
theorem way_app {D E : Dct} {s : List Nat} (h : seenD D s = true) : wayOf (D ++ E) s = wayOf D s := by
  unfold wayOf
  rw [List.find?_append]
  cases z : D.find? fun p => decide (p.1 = s) with
  | some p => rfl
  | none =>
    rw [List.find?_eq_none] at z
    obtain ⟨p, h1, h2⟩ := List.any_eq_true.1 h
    exact absurd h2 (z p h1)
theorem seen_app {D E : Dct} {s : List Nat} (h : seenD D s = true) : seenD (D ++ E) s = true := by
  unfold seenD at h ⊢
  rw [List.any_append, h, Bool.true_or]
theorem seen_mem {D : Dct} {s w : List Nat} (h : (s, w) ∈ D) : seenD D s = true := List.any_eq_true.2 ⟨_, h, decide_eq_true rfl⟩
/-- what is known of the sets under way -/
def LvOk (n : Nat) (D : Dct) (L : List (List Nat)) : Prop := ∀ s ∈ L, (∀ m ∈ s, m < n) ∧ s.length ≤ n ∧ seenD D s = true
theorem LvOk.app {n : Nat} {D E : Dct} {L : List (List Nat)} (h : LvOk n D L) : LvOk n (D ++ E) L := fun s hs => ⟨(h s hs).1, (h s hs).2.1, seen_app (h s hs).2.2⟩
theorem LvOk.snoc {n : Nat} {D : Dct} {L : List (List Nat)} {s : List Nat} (h : LvOk n D L) (h1 : (∀ m ∈ s, m < n) ∧ s.length ≤ n ∧ seenD D s = true) : LvOk n D (L ++ [s]) := fun t ht => by
  rcases List.mem_append.1 ht with z | z
  · exact h t z
  · rw [List.mem_singleton.1 z]; exact h1
theorem pow8 {n : Nat} (h : n ≤ 8) : 2 ^ n ≤ 256 := Nat.le_trans (Nat.pow_le_pow_right (by decide) h) (by decide)
theorem KvsAt.fresh {ok : Addr → Prop} {H : Hp} {la : Addr} (hla : H la = none) : ∀ {D : Dct} {kvs : List (List Key × V)}, KvsAt ok H D kvs → KvsAt (fun l => l ≠ la) H D kvs
  | [], [], _ => True.intro
  | _ :: _, _ :: _, ⟨⟨l, h1, _, h3⟩, h⟩ => ⟨⟨l, h1, ne_of_none h3 hla, h3⟩, h.fresh hla⟩
  | [], _ :: _, h => h.elim
  | _ :: _, [], h => h.elim
/-- a way is shorter than the dict is long -/
def WLen (D : Dct) : Prop := ∀ p ∈ D, p.2.length < D.length
theorem WLen.way {D : Dct} (h : WLen D) (s : List Nat) : (wayOf D s).length ≤ D.length := by
  unfold wayOf
  cases z : D.find? fun p => decide (p.1 = s) with
  | none => exact Nat.zero_le _
  | some p => exact Nat.le_of_lt (h p (List.mem_of_find?_eq_some z))
theorem WLen.snoc {D : Dct} (h : WLen D) {s w : List Nat} (hw : w.length ≤ D.length) : WLen (D ++ [(s, w)]) := fun p hp => by
  rw [List.length_append, List.length_singleton]
  rcases List.mem_append.1 hp with z | z
  · have := h p z
    omega
  · rw [List.mem_singleton.1 z]
    show w.length < _
    omega
theorem WLen.lt {D : Dct} (h : WLen D) {s : List Nat} (hs : seenD D s = true) : (wayOf D s).length < D.length := by
  unfold wayOf
  cases z : D.find? fun p => decide (p.1 = s) with
  | none =>
    rw [List.find?_eq_none] at z
    obtain ⟨p, h1, h2⟩ := List.any_eq_true.1 hs
    exact absurd h2 (z p h1)
  | some p => exact h p (List.mem_of_find?_eq_some z)
theorem run_err {n : Nat} {bs : List (Int × List Int)} {f : Nat} {D : Dct} {L : List (List Nat)} {v : List Nat} (hL : L ≠ []) {i k : Nat} (hi : i < L.length) (hk : k < bs.length) {x : Dct × List (List Nat)} (h1 : levelB n bs L D i = .ok x)
    (h2 : stepsB n bs (L.getD i []) (wayOf x.1 (L.getD i [])) (k + 1) x = .error v) : runB n bs (f + 1) D L = some v := by
  have a1 := stepsB_err (j := bs.length - (k + 1)) h2
  rw [show k + 1 + (bs.length - (k + 1)) = bs.length by omega] at a1
  have a2 : levelB n bs L D (i + 1) = .error v := by
    show (levelB n bs L D i).bind _ = _
    rw [h1]
    exact a1
  have a3 := levelB_err (j := L.length - (i + 1)) a2
  rw [show i + 1 + (L.length - (i + 1)) = L.length by omega] at a3
  unfold runB
  rw [if_neg hL, a3]
theorem run_ok {n : Nat} {bs : List (Int × List Int)} {f : Nat} {D : Dct} {L : List (List Nat)} {x : Dct × List (List Nat)} (hL : L ≠ []) (h1 : levelB n bs L D L.length = .ok x) : runB n bs (f + 1) D L = runB n bs f x.1 x.2 := by
  show (if L = [] then none else _) = _
  rw [if_neg hL, h1]
/-- the search within a level -/
def MidR (n : Nat) (H1 : Hp) (d lv la : Addr) (ts : List Addr) (L : List (List Nat)) (H' : Hp) (D : Dct) (Lt : List (List Nat)) (kvs : List (List Key × V)) (tl : List Addr) : Prop :=
  Same H1 H' ∧ H' d = some (.dT kvs) ∧ KvsAt (fun l => l ≠ la) H' D kvs ∧ DOk n D ∧ LvOk n D L ∧ LvOk n D Lt ∧ H' lv = some (.lst (ts.map V.ref)) ∧ SetsAt H' ts L ∧ H' la = some (.lst (tl.map V.ref)) ∧ SetsAt H' tl Lt ∧ WLen D
theorem MidR.same {n : Nat} {H1 : Hp} {d lv la : Addr} {ts : List Addr} {L : List (List Nat)} {H' H2 : Hp} {D : Dct} {Lt : List (List Nat)} {kvs : List (List Key × V)} {tl : List Addr} (h : MidR n H1 d lv la ts L H' D Lt kvs tl) (s : Same H' H2) : MidR n H1 d lv la ts L H2 D Lt kvs tl :=
  let ⟨a1, a2, a3, a4, a5, a6, a7, a8, a9, a10, a11⟩ := h
  ⟨a1.trans s, s _ _ a2, a3.keep (fun _ z => z) fun _ _ _ z => s _ _ z, a4, a5, a6, s _ _ a7, a8.keep fun _ _ z => s _ _ z, s _ _ a9, a10.keep fun _ _ z => s _ _ z, a11⟩
theorem MidR.put {n : Nat} {H1 : Hp} {d lv la : Addr} {ts : List Addr} {L : List (List Nat)} {H' : Hp} {D : Dct} {Lt : List (List Nat)} {kvs : List (List Key × V)} {tl : List Addr} (h : MidR n H1 d lv la ts L H' D Lt kvs tl) {s w : List Nat} {p r : Addr}
    (hp : H' p = some (.lst ((nI w).map V.int))) (hpl : p ≠ la) (hr : H' r = some (.tup ((nI s).map V.int))) (hs : (∀ m ∈ s, m < n) ∧ s.length ≤ n) (dok : DOk n (D ++ [(s, w)])) (hd1 : H1 d = none) (hla1 : H1 la = none) (nlv : lv ≠ la) (hw : w.length ≤ D.length) :
    MidR n H1 d lv la ts L (upd (upd H' d (.dT (kvs ++ [(tkey s, .ref p)]))) la (.lst (tl.map V.ref ++ [.ref r]))) (D ++ [(s, w)]) (Lt ++ [s]) (kvs ++ [(tkey s, .ref p)]) (tl ++ [r]) := by
  obtain ⟨a1, a2, a3, a4, a5, a6, a7, a8, a9, a10, a11⟩ := h
  have nd : d ≠ la := ne_of a2 a9 (fun z => nomatch z)
  have kt : ∀ q xs, H' q = some (.tup xs) → (upd (upd H' d (.dT (kvs ++ [(tkey s, .ref p)]))) la (.lst (tl.map V.ref ++ [.ref r]))) q = some (.tup xs) := fun q xs z => by
    rw [upd_ne (ne_of z a9 (fun y => nomatch y)), upd_ne (ne_of z a2 (fun y => nomatch y))]
    exact z
  have kl : ∀ q xs, q ≠ la → H' q = some (.lst xs) → (upd (upd H' d (.dT (kvs ++ [(tkey s, .ref p)]))) la (.lst (tl.map V.ref ++ [.ref r]))) q = some (.lst xs) := fun q xs y z => by
    rw [upd_ne y, upd_ne (ne_of z a2 (fun y => nomatch y))]
    exact z
  have hseen : seenD (D ++ [(s, w)]) s = true := seen_mem (w := w) (List.mem_append_right _ (List.mem_singleton_self _))
  refine ⟨same_mut (same_mut a1 hd1) hla1, by rw [upd_ne nd, upd_same], (a3.keep (fun _ z => z) fun l ys y z => kl l ys y z).snoc (l := p) (s := s) (w := w) hpl (kl p _ hpl hp), dok, a5.app, a6.app.snoc ⟨hs.1, hs.2, hseen⟩, kl _ _ nlv a7, a8.keep kt, by rw [upd_same, List.map_append]; rfl, (a10.keep kt).snoc (kt _ _ hr), a11.snoc hw⟩
section
variable {P : Program} {w : World} {K : PySem.W.Frag} {mg : Str → Option Value} {base : Heap} {a : Ad}
def spReset (CB : Addr) : Sp := fun vs H Q _ => ∃ (n : Nat) (t : Addr) (ps : List Addr) (bs : List (Int × List Int)), vs = [.int n, .ref t] ∧ H t = some (.tup (ps.map V.ref)) ∧ BisAt CB H ps bs ∧ OkEv n bs ∧ bs.length ≤ 6 ∧
  (resetV n bs = none → ∀ H', Same H H' → Q .non H') ∧ ∀ ks, resetV n bs = some ks → ∀ p H', H p = none → Same H H' → H' p = some (.lst ((nI ks).map V.int)) → Q (.ref p) H'
abbrev StarS (p1 : Str) (sp : Sp) : Sp := fun vs H Q E => ∃ ws rest, vs = ws ++ rest ∧ ws.length = [p1].length ∧ rest.length ≤ sizeLine ∧ ∀ p, H p = Option.none → sp (ws ++ [V.ref p]) (upd H p (.tup rest)) Q E
theorem ok_reset (T : Facts K mg a) : FnR P w K mg base (L2.CX P w) 7 a.f_reset (StarS "seat_count" (spReset a.c_Bill)) := by
  obtain ⟨fd, F⟩ := T.u_reset
  have GF : FnR P w K mg base (L2.CX P w) 6 a.f_evening_of_few (spFew a.c_Evening a.c_Bill) := ok_few T
  have GB : FnR P w K mg base (L2.CX P w) 1 a.f_Evening_bills (spEvBills a.c_Evening) := ok_ev_bills T
  have GA : FnR P w K mg base (L2.CX P w) 4 a.f_marks_after (spAfter a.c_Bill) := ok_after T
  refine fnr_star1 (p1 := "seat_count") (pv := "bills") F sc_reset (fun _ _ _ _ _ _ _ => rfl) (fun _ _ _ _ _ _ _ _ _ => rfl) (fun cdv A outer s H0 vs Q E hr h => ?_)
  obtain ⟨n, t, ps, bs, rfl, ht, hb, ok, h6, q0, q1⟩ := h
  have hr' := hr.units
  have hn2 := ok.1
  have hn8 := ok.2.1
  have h256 := pow8 hn8
  have hsz : (1000 : Nat) ≤ sizeLine := by decide
  refine ⟨_, (pss_cons (ps_set (i := 2) sc_reset.nd rfl (Or.inl rfl) (pe_glA Like.refl pas_main (by rfl) (pa_cons (pv 0) (pa_cons (pv 1) pa_nil))))
    (pss_cons (ps_set (i := 3) sc_reset.nd rfl (Or.inl rfl) (pe_tupRg rfl (by rfl) T.z_tuple (prg_1 (by rfl) T.z_range (pv 0))))
    (pss_cons (ps_set (i := 4) sc_reset.nd rfl (Or.inl rfl) (pe_dispT Like.refl (pv 3) (pe_lst pa_nil)))
    (pss_cons (ps_set (i := 5) sc_reset.nd rfl (Or.inl rfl) (pe_lst (pa_cons (pv 3) pa_nil)))
    (pss_cons (ps_while own_main (pt_trA Like.refl pas_main (pv 5)) (pss_cons (ps_set (i := 6) sc_reset.nd rfl (Or.inl rfl) (pe_lst pa_nil))
    (pss_cons (ps_for own_main rfl (pi_seqA Like.refl (pv 5)) (pg_name (i := 7) sc_reset.nd rfl (Or.inl rfl)) (pss_one (ps_for own_main rfl (pi_enumA (by rfl) T.z_enumerate (pa_cons (pe_atA Like.refl pas_main (pv 2)) pa_nil)) (pg_tup rfl (pgs_cons (pg_name (i := 8) sc_reset.nd rfl (Or.inl rfl)) (pgs_cons (pg_name (i := 9) sc_reset.nd rfl (Or.inl rfl)) pgs_nil))) (pss_cons (ps_set (i := 10) sc_reset.nd rfl (Or.inl rfl) (pe_glA Like.refl pas_main (by rfl) (pa_cons (pv 9) (pa_cons (pv 7) (pa_cons (pv 0) pa_nil)))))
    (pss_cons (ps_if (pt_cmpA Like.refl pas_main (pe_biA (id := "len") Like.refl pas_main (by rfl) (by decide +kernel) (pa_cons (pv 10) pa_nil)) (pe_int) (nomark _)) (pss_one (ps_ret (pe_opA Like.refl pas_main (pe_ixA Like.refl pas_main (pv 4) (pv 7)) (pe_lst (pa_cons (pv 8) pa_nil))))) pss_nil)
    (pss_one (ps_if (pt_cmpA Like.refl pas_main (pv 10) (pv 4) (by with_unfolding_all rfl)) (pss_cons (ps_asg (pe_opA Like.refl pas_main (pe_ixA Like.refl pas_main (pv 4) (pv 7)) (pe_lst (pa_cons (pv 8) pa_nil))) (pg_sub (pv 4) (pv 10) (set_dict (hu1 hr))))
    (pss_one (ps_expr (pe_bm PySem.F.plainAttrs_list PySem.F.slot_list_append PySem.F.type_list_append mt_append (pv 6) (pa_cons (pv 10) pa_nil))))) pss_nil)))))))
    (pss_one (ps_set (i := 5) sc_reset.nd rfl (Or.inl rfl) (pv 6))))))
    (pss_one (ps_ret (pe_non)))))))), ?_⟩
  walk_at "go"
  refine s_fn GF (hr.mono (by decide)) ⟨n, t, ps, bs, rfl, ht, hb, ok, h6, fun e H1 he s1 ev => ?_⟩
  obtain ⟨dx, tb, ps2, e1, e2, e3⟩ := id ev
  walk_at "go"
  refine w_tupRg1 ?_
  walk_at "go"
  refine ⟨_, rfl, RgOk.of_le (by decide) (by omega) (by decide) (by omega), fun t0 ht0 => ?_⟩
  rw [rgV_nI]
  have s2 := same_new (o := .tup ((nI (List.range n)).map V.int)) ht0
  have g0 : (upd H1 t0 (.tup ((nI (List.range n)).map V.int))) t0 = some (.tup ((nI (List.range n)).map V.int)) := upd_same
  generalize upd H1 t0 (.tup ((nI (List.range n)).map V.int)) = H2 at *
  walk_at "go"
  refine w_dispT hr' fun d hd => ?_
  walk_at "go"
  refine ⟨by show 0 ≤ sizeLine; decide, fun l0 hl0 => ?_⟩
  have nd0 : d ≠ l0 := fun z => by rw [← z, upd_same] at hl0; cases hl0
  have hl0' : H2 l0 = none := by rw [upd_ne (fun z => nd0 z.symm)] at hl0; exact hl0
  have nt0 : t0 ≠ d := ne_of_none g0 hd
  have nt1 : t0 ≠ l0 := ne_of_none g0 hl0'
  refine ⟨t0, tkey (List.range n), .ref l0, rfl, by rw [upd_ne nt1, upd_ne nt0, g0, tkey_V], by rw [upd_ne nd0, upd_same], ?_⟩
  have gd : (upd (upd (upd H2 d (.dT [])) l0 (.lst [])) d (.dT [(tkey (List.range n), .ref l0)])) d = some (.dT [(tkey (List.range n), .ref l0)]) := upd_same
  have gl0 : (upd (upd (upd H2 d (.dT [])) l0 (.lst [])) d (.dT [(tkey (List.range n), .ref l0)])) l0 = some (.lst []) := by rw [upd_ne (fun z => nd0 z.symm), upd_same]
  have s3 : Same H2 (upd (upd (upd H2 d (.dT [])) l0 (.lst [])) d (.dT [(tkey (List.range n), .ref l0)])) := same_mut (same_mut (same_mut (Same.refl H2) hd) hl0') hd
  generalize upd (upd (upd H2 d (.dT [])) l0 (.lst [])) d (.dT [(tkey (List.range n), .ref l0)]) = H3 at *
  walk_at "go"
  refine ⟨by show 1 ≤ sizeLine; decide, fun lv hlv => ?_⟩
  have s4 := same_new (o := .lst [.ref t0]) hlv
  have glv : (upd H3 lv (.lst [.ref t0])) lv = some (.lst [.ref t0]) := upd_same
  have gd4 := s4 _ _ gd
  have gl4 := s4 _ _ gl0
  have g04 := s4 _ _ (s3 _ _ g0)
  generalize upd H3 lv (.lst [.ref t0]) = H4 at *
  have s12 : Same H1 H4 := (s2.trans s3).trans s4
  walk_at "go"
  have hd1 : H1 d = none := s2.free hd
  have hfr : (List.range n).filter (fun _ => true) = List.range n := List.filter_eq_self.2 fun _ _ => rfl
  have dok0 : DOk n [(List.range n, [])] := ⟨by simp, fun s hs => by
    simp only [List.map_cons, List.map_nil, List.mem_singleton] at hs
    subst hs
    rw [← hfr]
    exact subs_mem _ _⟩
  refine ⟨fun f σ H => Same H1 H ∧ ∃ (D : Dct) (L : List (List Nat)) (kvs : List (List Key × V)) (lv : Addr) (ts : List Addr) (x6 x7 x8 x9 x10 : Option V),
      σ = [some (.int n), some (.ref t), some (.ref e), some (.ref t0), some (.ref d), some (.ref lv), x6, x7, x8, x9, x10] ∧ H d = some (.dT kvs) ∧ KvsAt (fun _ => True) H D kvs ∧ DOk n D ∧ LvOk n D L ∧
      H lv = some (.lst (ts.map V.ref)) ∧ SetsAt H ts L ∧ L.length ≤ D.length ∧ WLen D ∧ (2 ^ n < f + D.length ∨ L = []) ∧ resetV n bs = runB n bs f D L, ⟨2 ^ n + 1, s12, [(List.range n, [])], [List.range n], _, lv, [t0], _, _, _, _, _, rfl, gd4, ⟨⟨l0, rfl, True.intro, gl4⟩, True.intro⟩, dok0, fun s hs => ?_, glv, ⟨rfl, fun i t' s' e1 e2 => ?_⟩, Nat.le_refl _, fun p hp => (by rw [List.mem_singleton.1 hp]; exact Nat.one_pos), .inl (by show 2 ^ n < 2 ^ n + 1 + 1; omega), rfl⟩, ?_⟩
  · rw [List.mem_singleton.1 hs]
    exact ⟨fun m hm => List.mem_range.1 hm, by rw [List.length_range]; exact Nat.le_refl _, by unfold seenD; simp⟩
  · cases i with
    | zero => cases e1; cases e2; exact g04
    | succ i => cases e1
  · rintro f σ H ⟨sA, D, L, kvs, lv, ts, x6, x7, x8, x9, x10, rfl, gd, hkv, dok, lok, glv, hts, hLD, hwl, hf, hres⟩
    walk_at "go"
    refine s_truL (SqL.of glv) ?_
    have hemp : (ts.map V.ref).isEmpty = decide (L = []) := by
      cases L with
      | nil => rw [List.length_eq_zero_iff.1 hts.1]; rfl
      | cons s L =>
        cases ts with
        | nil => cases hts.1
        | cons t ts => rfl
    rw [hemp]
    by_cases hL : L = []
    · rw [decide_eq_true hL]
      walk_at "go"
      have hn : resetV n bs = none := by
        rw [hres]
        cases f with
        | zero => rfl
        | succ f => exact if_pos hL
      exact q0 hn _ (s1.trans sA)
    · rw [decide_eq_false hL]
      have hDl := dok.len
      have hf' : 2 ^ n < f + D.length := hf.resolve_right hL
      obtain ⟨f, rfl⟩ : ∃ f', f = f' + 1 := ⟨f - 1, by omega⟩
      refine iteT ?_
      refine ⟨fun σ' H' => ∃ m', m' < f + 1 ∧ (Same H1 H' ∧ ∃ (D : Dct) (L : List (List Nat)) (kvs : List (List Key × V)) (lv : Addr) (ts : List Addr) (x6 x7 x8 x9 x10 : Option V),
        σ' = [some (.int n), some (.ref t), some (.ref e), some (.ref t0), some (.ref d), some (.ref lv), x6, x7, x8, x9, x10] ∧ H' d = some (.dT kvs) ∧ KvsAt (fun _ => True) H' D kvs ∧ DOk n D ∧ LvOk n D L ∧
        H' lv = some (.lst (ts.map V.ref)) ∧ SetsAt H' ts L ∧ L.length ≤ D.length ∧ WLen D ∧ (2 ^ n < m' + D.length ∨ L = []) ∧ resetV n bs = runB n bs m' D L), fun _ _ h => h, ?_⟩
      walk_at "go"
      refine ⟨by show 0 ≤ sizeLine; decide, fun la hla => ?_⟩
      have sL := same_new (o := .lst ([] : List V)) hla
      have gla : (upd H la (.lst ([] : List V))) la = some (.lst []) := upd_same
      have nlv : lv ≠ la := ne_of_none glv hla
      have gd5 := sL _ _ gd
      have glv5 := sL _ _ glv
      have hts5 := hts.keep fun p xs z => sL _ _ z
      have hkv5 : KvsAt (fun l => l ≠ la) (upd H la (.lst ([] : List V))) D kvs := (hkv.fresh hla).keep (fun _ z => z) fun l ys _ z => sL _ _ z
      have hla1 : H1 la = none := sA.free hla
      have sB := sA.trans sL
      generalize upd H la (.lst ([] : List V)) = H5 at *
      dsimp only [List.set]
      walk_at "go"
      refine f_lst (a := lv) (xs := ts.map V.ref) (fun i σ H' => ∃ (D' : Dct) (Lt : List (List Nat)) (kvs' : List (List Key × V)) (tl : List Addr) (x7 x8 x9 x10 : Option V), MidR n H1 d lv la ts L H' D' Lt kvs' tl ∧ levelB n bs L D i = .ok (D', Lt) ∧
          σ = [some (.int n), some (.ref t), some (.ref e), some (.ref t0), some (.ref d), some (.ref lv), some (.ref la), x7, x8, x9, x10]) (fun R k => ?_)
        ⟨D, [], kvs, [], x7, x8, x9, x10, ⟨sB, gd5, hkv5, dok, lok, fun s hs => (by cases hs), glv5, hts5, gla, ⟨rfl, fun i t' s' z => (by cases z)⟩, hwl⟩, rfl, rfl⟩ (fun i σ H' _ pv => ?_) (fun i x σ H6 hx pv => ?_) (fun σ H6 pv => ?_)
      · walk_at "go"
        exact k
      · obtain ⟨D', Lt, kvs', tl, x7, x8, x9, x10, mid, _⟩ := pv
        exact SqL.of mid.2.2.2.2.2.2.1
      · obtain ⟨D', Lt, kvs', tl, x7, x8, x9, x10, mid, hlev, rfl⟩ := pv
        rw [List.getElem?_map] at hx
        cases et : ts[i]? with
        | none => rw [et] at hx; cases hx
        | some tm =>
          rw [et] at hx
          cases hx
          obtain ⟨hi, _⟩ := List.getElem?_eq_some_iff.1 et
          have hiL : i < L.length := by rw [← hts.1]; exact hi
          obtain ⟨ms, eL⟩ : ∃ s, L[i]? = some s := ⟨_, List.getElem?_eq_getElem hiL⟩
          have eLD : L.getD i [] = ms := by rw [List.getD_eq_getElem?_getD, eL]; rfl
          have hmsL : ms ∈ L := List.mem_of_getElem? eL
          refine w_name ?_
          dsimp only [List.set]
          walk_at "go"
          have s6 := mid.1
          refine f_enumT (a := tb) (xs := ps2.map V.ref) (fun k σ H' => ∃ (D2 : Dct) (Lt2 : List (List Nat)) (kvs2 : List (List Key × V)) (tl2 : List Addr) (x8 x9 x10 : Option V), MidR n H1 d lv la ts L H' D2 Lt2 kvs2 tl2 ∧ k ≤ bs.length ∧ stepsB n bs ms (wayOf D' ms) k (D', Lt) = .ok (D2, Lt2) ∧ wayOf D2 ms = wayOf D' ms ∧
              σ = [some (.int n), some (.ref t), some (.ref e), some (.ref t0), some (.ref d), some (.ref lv), some (.ref la), some (.ref tm), x8, x9, x10]) (fun R k => ?_)
            ⟨D', Lt, kvs', tl, x8, x9, x10, mid, Nat.zero_le _, rfl, rfl, rfl⟩ (fun k σ H' _ pv => ?_) (fun k x σ H7 T2 hx pv hT2 => ?_) (fun σ H7 pv => ?_)
          · walk_at "go"
            exact s_prop T.cl_Evening T.pr_Evening_bills GB (hr.mono (by decide)) (s6 _ _ e1) ⟨e, dx, tb, _, rfl, s6 _ _ e1, k⟩
          · obtain ⟨D2, Lt2, kvs2, tl2, x8, x9, x10, mid2, _⟩ := pv
            exact SqT.of (mid2.1 _ _ e2)
          · obtain ⟨D2, Lt2, kvs2, tl2, x8, x9, x10, mid2, _, hst, hway, rfl⟩ := pv
            rw [List.getElem?_map] at hx
            cases ep : ps2[k]? with
            | none => rw [ep] at hx; cases hx
            | some bp =>
              rw [ep] at hx
              cases hx
              obtain ⟨hk, _⟩ := List.getElem?_eq_some_iff.1 ep
              have hkb : k < bs.length := by rw [← e3.1]; exact hk
              obtain ⟨b, eb⟩ : ∃ b, bs[k]? = some b := ⟨_, List.getElem?_eq_getElem hkb⟩
              have ebD : bs.getD k (0, []) = b := by rw [List.getD_eq_getElem?_getD, eb]; rfl
              have hbk := ok.2.2.2 b (List.mem_of_getElem? eb)
              have mid3 := mid2.same (same_new (o := .tup [.int (k : Nat), .ref bp]) hT2)
              generalize upd H7 T2 (.tup [.int (k : Nat), .ref bp]) = H8 at *
              dsimp only [List.set]
              walk_at "go"
              have g3 := id mid3
              obtain ⟨m1, m2, m3, m4, m5, m6, m7, m8, m9, m10, m11⟩ := g3
              obtain ⟨l1, l2, l3⟩ := m5 ms hmsL
              refine s_fn GA (hr.mono (by decide)) ⟨bp, tm, n, b, ms, rfl, (e3.2 k bp b ep eb).same m1, hbk.1, hbk.2, hn8, m8.2 i tm ms et eL, l1, by omega, fun r H9 s9 hr9 => ?_⟩
              have mid4 := mid3.same s9
              have g4 := id mid4
              obtain ⟨m1, m2, m3, m4, m5, m6, m7, m8, m9, m10, m11⟩ := g4
              walk_at "go"
              refine s_lenT (SqT.of hr9) ?_
              rw [List.length_map, show (nI (aft n b ms)).length = (aft n b ms).length by unfold nI; rw [List.length_map]]
              walk_at "go"
              have hstep : stepsB n bs ms (wayOf D' ms) (k + 1) (D', Lt) = stepB n ms (wayOf D' ms) k b (D2, Lt2) := by
                show (stepsB n bs ms (wayOf D' ms) k (D', Lt)).bind (stepB n ms (wayOf D' ms) k (bs.getD k (0, []))) = _
                rw [hst, ebD]
                rfl
              have hnl : ∀ (w : List Nat), (nI w).map V.int ++ [V.int (k : Nat)] = (nI (w ++ [k])).map V.int := fun w => by unfold nI; rw [List.map_append, List.map_append]; rfl
              have hmt : H9 tm = some (.tup ((tkey ms).map kV)) := by rw [tkey_V]; exact m8.2 i tm ms et eL
              have hrt : H9 r = some (.tup ((tkey (aft n b ms)).map kV)) := by rw [tkey_V]; exact hr9
              have hD2 := m4.len
              obtain ⟨lw, hlv, hlne, hlw⟩ : ∃ l, valV kvs2 (tkey ms) = some (.ref l) ∧ l ≠ la ∧ H9 l = some (.lst ((nI (wayOf D' ms)).map V.int)) := by
                rcases m3.val ms with ⟨z, _⟩ | ⟨_, l, h1, h2, h3⟩
                · rw [l3] at z; cases z
                · exact ⟨l, h1, h2, by rw [← hway]; exact h3⟩
              have hwlen : (wayOf D' ms).length < D2.length := by rw [← hway]; exact m11.lt l3
              have hcat : ((nI (wayOf D' ms)).map V.int).length + 1 ≤ sizeLine := by
                rw [List.length_map]
                unfold nI
                rw [List.length_map]
                exact Nat.le_trans (show _ + 1 ≤ 1000 by omega) hsz
              refine ite_d (fun h1 => ?_) (fun h1 => ?_)
              · have h1' : (aft n b ms).length = 1 := by omega
                walk_at "go"
                refine s_ixDT hr m2 hmt hlv ?_
                walk_at "go"
                refine ⟨by show 1 ≤ sizeLine; decide, fun li hli => ?_⟩
                have sI := same_new (o := .lst [.int (k : Nat)]) hli
                walk_at "go"
                refine s_cat (sI _ _ hlw) upd_same hcat fun p hp => ?_
                rw [hnl]
                have sP := same_new (o := .lst ((nI (wayOf D' ms ++ [k])).map V.int)) hp
                have hres' : resetV n bs = some (wayOf D' ms ++ [k]) := by
                  rw [hres]
                  refine run_err hL hiL hkb hlev ?_
                  rw [eLD, hstep]
                  exact if_pos h1'
                exact q1 _ hres' p _ ((s1.trans (m1.trans sI)).free hp) ((s1.trans (m1.trans sI)).trans sP) upd_same
              · have h1' : ¬ (aft n b ms).length = 1 := by omega
                walk_at "go"
                refine s_notInDT hr m2 hrt ?_
                rcases m3.val (aft n b ms) with ⟨hs, hv⟩ | ⟨hs, l, hv, _⟩
                · rw [hv]
                  walk_at "go"
                  refine iteT' rfl ?_
                  walk_at "go"
                  refine s_ixDT hr m2 hmt hlv ?_
                  walk_at "go"
                  refine ⟨by show 1 ≤ sizeLine; decide, fun li hli => ?_⟩
                  have sI := same_new (o := .lst [.int (k : Nat)]) hli
                  walk_at "go"
                  refine s_cat (sI _ _ hlw) upd_same hcat fun p hp => ?_
                  rw [hnl]
                  have sP := same_new (o := .lst ((nI (wayOf D' ms ++ [k])).map V.int)) hp
                  have mid5 := (mid4.same sI).same sP
                  have sIP := sI.trans sP
                  have gp : (upd (upd H9 li (.lst [.int (k : Nat)])) p (.lst ((nI (wayOf D' ms ++ [k])).map V.int))) p = some (.lst ((nI (wayOf D' ms ++ [k])).map V.int)) := upd_same
                  have hpla : p ≠ la := fun z => ne_of_none m9 (sI.free hp) z.symm
                  generalize upd (upd H9 li (.lst [.int (k : Nat)])) p (.lst ((nI (wayOf D' ms ++ [k])).map V.int)) = H10 at *
                  obtain ⟨n1, n2, n3, n4, n5, n6, n7, n8, n9, n10, n11⟩ := id mid5
                  walk_at "go"
                  refine w_gsub ?_
                  walk_at "go"
                  have hkl := n3.len
                  refine ⟨d, _, rfl, DPut.t n2 (sIP _ _ hrt) (Nat.lt_of_lt_of_le (show _ < 1000 by omega) hsz), ?_⟩
                  rw [putK_new hv]
                  have nda : la ≠ d := ne_of n9 n2 (fun z => nomatch z)
                  have htl := n10.1
                  have hkeq : stepB n ms (wayOf D' ms) k b (D2, Lt2) = .ok (D2 ++ [(aft n b ms, wayOf D' ms ++ [k])], Lt2 ++ [aft n b ms]) := by
                    unfold stepB
                    rw [if_neg h1', if_neg (by rw [hs]; exact Bool.false_ne_true)]
                  obtain ⟨d1, d2, d3⟩ := stepB_ok (x := (D2, Lt2)) m4 hkeq
                  have n5s : seenD D2 ms = true := l3
                  have c1 := stepsB_ok (x := (D', Lt)) mid.2.2.2.1 hst
                  have c2 := levelB_ok dok hlev
                  walk_at "go"
                  refine w_bm ?_
                  walk_at "go"
                  refine ⟨.inl ⟨rfl, _, SqL.of (by rw [upd_ne nda]; exact n9)⟩, ?_⟩
                  walk_at "go"
                  refine ⟨la, _, _, rfl, rfl, by rw [upd_ne nda]; exact n9, by rw [List.length_map, htl]; exact Nat.lt_of_lt_of_le (show _ < 1000 by have := c1.2.2; have := c2.2.2; dsimp only at *; omega) hsz, ?_⟩
                  walk_at "go"
                  exact ⟨_, _, _, _, _, _, _, mid5.put gp hpla (sIP _ _ hr9) ⟨aft_lt, aft_len⟩ d1 hd1 hla1 nlv (by rw [List.length_append, List.length_singleton]; omega), hkb, hstep.trans hkeq, (way_app n5s).trans hway, rfl⟩
                · rw [hv]
                  walk_at "go"
                  refine iteF' rfl ?_
                  walk_at "go"
                  refine ⟨_, _, _, _, _, _, _, mid4, hkb, hstep.trans ?_, hway, rfl⟩
                  unfold stepB
                  rw [if_neg h1', if_pos hs]
          · obtain ⟨D2, Lt2, kvs2, tl2, x8, x9, x10, mid2, _, hst, hway, rfl⟩ := pv
            rw [List.length_map, e3.1] at hst
            refine ⟨D2, Lt2, kvs2, tl2, some (.ref tm), x8, x9, x10, mid2, ?_, rfl⟩
            show (levelB n bs L D i).bind _ = _
            rw [hlev]
            show stepsB n bs (L.getD i []) (wayOf D' (L.getD i [])) bs.length (D', Lt) = _
            rw [eLD]
            exact hst
      · obtain ⟨D', Lt, kvs', tl, x7, x8, x9, x10, mid, hlev, rfl⟩ := pv
        rw [List.length_map, hts.1] at hlev
        obtain ⟨m1, m2, m3, m4, m5, m6, m7, m8, m9, m10, m11⟩ := mid
        obtain ⟨d1, d2, d3⟩ := levelB_ok dok hlev
        have d3 : D'.length = D.length + Lt.length := d3
        walk_at "go"
        refine ⟨f, Nat.lt_succ_self f, m1, D', Lt, kvs', la, tl, some (.ref la), x7, x8, x9, x10, rfl, m2, m3.keep (fun _ _ => True.intro) (fun _ _ _ z => z), m4, m6, m9, m10, by omega, m11, ?_, by rw [hres, run_ok hL hlev]⟩
        cases Lt with
        | nil => exact .inr rfl
        | cons s Lt => exact .inl (by rw [d3, List.length_cons]; omega)
end

end Odd

namespace Odd
open PySem PySem.Spec PyProof.Rows L2
/-! tactics of this text: st one step, go as many as go -/
local macro_rules | `(tactic| walk_at "ar") => `(tactic| first | assumption | omega | (show (_ : Int) < _; omega) | decide)
local macro_rules | `(tactic| walk_at "st") => `(tactic| first
  | with_reducible refine' w_seq ?_
  | with_reducible refine' w_asg ?_
  | with_reducible refine' w_name ?_
  | with_reducible refine' w_c ?_
  | with_reducible refine' w_op ?_
  | with_reducible refine' w_ix ?_
  | with_reducible refine' w_at ?_
  | with_reducible refine' w_cons ?_
  | with_reducible refine' w_nil ?_
  | with_reducible refine' w_ret ?_
  | with_reducible refine' w_if ?_
  | with_reducible refine' w_test ?_
  | with_reducible refine' w_tr ?_
  | with_reducible refine' w_un ?_
  | with_reducible refine' w_andV ?_
  | with_reducible refine' w_orV ?_
  | with_reducible refine' w_notA ?_
  | with_reducible refine' w_ch ?_
  | with_reducible refine' w_and ?_
  | with_reducible refine' w_or ?_
  | with_reducible refine' w_not ?_
  | with_reducible refine' w_ifx ?_
  | with_reducible refine' w_tup ?_
  | with_reducible refine' w_lst ?_
  | with_reducible refine' w_next ?_
  | with_reducible refine' w_drop ?_
  | with_reducible refine' w_retN ?_
  | ((with_reducible refine' w_var ?h ?_); (case h => exact rfl))
  | ((with_reducible refine' w_bi ?h ?_); (case h => walk_at "mg"))
  | ((with_reducible refine' w_bv ?h ?_); (case h => walk_at "mg"))
  | ((with_reducible refine' w_gv ?h ?_); (case h => walk_at "mg"))
  | ((with_reducible refine' w_gl ?h ?k ?_); (case h => walk_at "mg"); (case k => walk_at "kp"))
  | ((with_reducible refine' w_glS ?h ?k ?_); (case h => walk_at "mg"); (case k => walk_at "kp"))
  | with_reducible refine' bl_ex ?_
  | with_reducible refine' iteT ?_
  | with_reducible refine' iteF ?_
  | with_reducible refine' ite_nf ?_
  | with_reducible refine' ite_nt ?_
  | with_reducible refine' s_add ?_
  | with_reducible refine' s_sub ?_
  | with_reducible refine' s_lt ?_
  | with_reducible refine' s_le ?_
  | with_reducible refine' s_gt ?_
  | with_reducible refine' s_ge ?_
  | with_reducible refine' s_eqI ?_
  | with_reducible refine' s_neI ?_
  | with_reducible refine' s_eqB ?_
  | with_reducible refine' s_neB ?_
  | with_reducible refine' s_truB ?_
  | with_reducible refine' s_truI ?_
  | with_reducible refine' s_neg ?_
  | ((with_reducible refine' s_mod ?h ?_); (case h => walk_at "ar")))
local macro_rules | `(tactic| walk_at "go") => `(tactic| repeat walk_at "st")

local macro_rules | `(tactic| walk_at "mg") => `(tactic| first | assumption | exact Facts.z_TypeError (by assumption) | exact Facts.z_abs (by assumption) | exact Facts.z_bool (by assumption) | exact Facts.z_classmethod (by assumption) | exact Facts.z_divmod (by assumption) | exact Facts.z_enumerate (by assumption) | exact Facts.z_int (by assumption) | exact Facts.z_isinstance (by assumption) | exact Facts.z_len (by assumption) | exact Facts.z_list (by assumption) | exact Facts.z_max (by assumption) | exact Facts.z_min (by assumption) | exact Facts.z_property (by assumption) | exact Facts.z_range (by assumption) | exact Facts.z_sorted (by assumption) | exact Facts.z_sum (by assumption) | exact Facts.z_super (by assumption) | exact Facts.z_tuple (by assumption) | exact Facts.z_zip (by assumption) | exact Facts.g__wall (by assumption) | exact Facts.g_is_between (by assumption) | exact Facts.g_check_seat (by assumption) | exact Facts.g_check_amount (by assumption) | exact Facts.g_check_seats (by assumption) | exact Facts.g_check_seat_count (by assumption) | exact Facts.g_check_bills (by assumption) | exact Facts.g_check_mark (by assumption) | exact Facts.g_check_times (by assumption) | exact Facts.g_no_shares (by assumption) | exact Facts.g_seats_behind (by assumption) | exact Facts.g_split_bill (by assumption) | exact Facts.g_twice (by assumption) | exact Facts.g_repeated (by assumption) | exact Facts.g_lowest_terms (by assumption) | exact Facts.g_long_run (by assumption) | exact Facts.g_marks_after (by assumption) | exact Facts.g_known_after (by assumption) | exact Facts.g_evening_of_few (by assumption) | exact Facts.g_reset (by assumption) | exact Facts.g_telling (by assumption) | exact Facts.g_share_for_bill (by assumption) | exact Facts.g_paid_from_each_mark (by assumption) | exact Facts.g_widest_gap (by assumption) | exact Facts.g_best_mark (by assumption) | exact Facts.g_longer_ways (by assumption) | exact Facts.g_spread_of (by assumption) | exact Facts.g_fairest_order (by assumption) | exact Facts.g__law_start (by assumption) | exact Facts.g__law_drawn (by assumption) | exact Facts.g__law_all_there (by assumption) | exact Facts.g__law_two_and_all (by assumption) | exact Facts.g_law (by assumption) | exact Facts.g_Shares (by assumption) | exact Facts.g_Bill (by assumption) | exact Facts.g_Evening (by assumption) | exact Facts.g_MarkObserver (by assumption))
local macro_rules | `(tactic| walk_at "kp") => `(tactic| first | assumption | exact (Facts.mk_Shares (by assumption)).kp | exact (Facts.mk_Bill (by assumption)).kp | exact (Facts.mk_Evening (by assumption)).kp | exact (Facts.mk_MarkObserver (by assumption)).kp | exact Fun.kp (Facts.u__wall (by assumption)).choose_spec | exact Fun.kp (Facts.u_is_between (by assumption)).choose_spec | exact Fun.kp (Facts.u_check_seat (by assumption)).choose_spec | exact Fun.kp (Facts.u_check_amount (by assumption)).choose_spec | exact Fun.kp (Facts.u_check_seats (by assumption)).choose_spec | exact Fun.kp (Facts.u_check_seat_count (by assumption)).choose_spec | exact Fun.kp (Facts.u_check_bills (by assumption)).choose_spec | exact Fun.kp (Facts.u_check_mark (by assumption)).choose_spec | exact Fun.kp (Facts.u_check_times (by assumption)).choose_spec | exact Fun.kp (Facts.u_no_shares (by assumption)).choose_spec | exact Fun.kp (Facts.u_seats_behind (by assumption)).choose_spec | exact Fun.kp (Facts.u_split_bill (by assumption)).choose_spec | exact Fun.kp (Facts.u_twice (by assumption)).choose_spec | exact Fun.kp (Facts.u_repeated (by assumption)).choose_spec | exact Fun.kp (Facts.u_lowest_terms (by assumption)).choose_spec | exact Fun.kp (Facts.u_long_run (by assumption)).choose_spec | exact Fun.kp (Facts.u_marks_after (by assumption)).choose_spec | exact Fun.kp (Facts.u_known_after (by assumption)).choose_spec | exact Fun.kp (Facts.u_evening_of_few (by assumption)).choose_spec | exact Fun.kp (Facts.u_reset (by assumption)).choose_spec | exact Fun.kp (Facts.u_telling (by assumption)).choose_spec | exact Fun.kp (Facts.u_share_for_bill (by assumption)).choose_spec | exact Fun.kp (Facts.u_paid_from_each_mark (by assumption)).choose_spec | exact Fun.kp (Facts.u_widest_gap (by assumption)).choose_spec | exact Fun.kp (Facts.u_best_mark (by assumption)).choose_spec | exact Fun.kp (Facts.u_longer_ways (by assumption)).choose_spec | exact Fun.kp (Facts.u_spread_of (by assumption)).choose_spec | exact Fun.kp (Facts.u_fairest_order (by assumption)).choose_spec | exact Fun.kp (Facts.u__law_start (by assumption)).choose_spec | exact Fun.kp (Facts.u__law_drawn (by assumption)).choose_spec | exact Fun.kp (Facts.u__law_all_there (by assumption)).choose_spec | exact Fun.kp (Facts.u__law_two_and_all (by assumption)).choose_spec | exact Fun.kp (Facts.u_law (by assumption)).choose_spec)
/-! ### shares and evenings used by signs -/
section
variable {a : Ad} {X0 : Cx} {E : XK} {H : Hp} {Q : VK}
theorem s_evc {e : Addr} {m : Int} {n : Nat} {bs : List (Int × List Int)} (T : Facts X0.K X0.mg a) (GC : Fn X0 4 a.f_Evening__call_ (spEvCall a.c_Evening a.c_Bill a.c_Shares)) (hr : Room 5 X0.A) (ev : EvAt a.c_Evening a.c_Bill H e n bs) (ok : OkEv n bs) (m0 : 0 ≤ m) (m1 : m < (n : Int))
    (q : ∀ T2 r2 H2, H T2 = none → Same H H2 → H2 T2 = some (.tup [.ref r2, .int (evRun n m bs).2]) → ShAt a.c_Shares H2 r2 (evRun n m bs).1 → Q (.ref T2) H2) : (∃ C dx fs, H e = some (.ins C dx fs)) ∧ ∃ r, CaD X0 E (.ref e) r ∧ r [.int m] H Q := by
  obtain ⟨dx, tb, ps, e1, e2, e3⟩ := id ev
  exact ⟨⟨_, _, _, e1⟩, s_callO e1 T.co_Evening GC (hr.mono (by decide)) ⟨e, m, n, bs, rfl, ev, ok, m0, m1, q⟩⟩
theorem s_neSh {r1 r2 : Addr} {cs ds : List Int} (T : Facts X0.K X0.mg a) (GEq : Fn X0 1 a.f_Shares__eq_ (spShEq X0.K a.c_Shares)) (hr : Room 3 X0.A) (h1 : ShAt a.c_Shares H r1 cs) (h2 : ShAt a.c_Shares H r2 ds) (q : Q (.bl (!decide (cs = ds))) H) : ∃ r, OpD X0 E (compareOp .NotEq) r ∧ r (.ref r1) (.ref r2) H Q := by
  obtain ⟨d1, t1, i1, i2⟩ := id h1
  obtain ⟨d2, t2, j1, j2⟩ := id h2
  exact s_neOwn T.ne_Shares__eq_ T.ob_Shares T.m_Shares__eq_ GEq (hr.mono (by decide)) i1 (tyx_ins j1 T.cl_Shares T.si_Shares) T.ne_Shares__eq_.own ⟨r1, _, _, rfl, h1, .inl ⟨r2, _, rfl, h2, _, rfl, q⟩⟩
theorem s_addSh {r1 r2 : Addr} {cs ds : List Int} (T : Facts X0.K X0.mg a) (GA : Fn X0 3 a.f_Shares__add_ (spShAdd a.c_Shares a.c_OtherTable)) (hr : Room 5 X0.A) (h1 : ShAt a.c_Shares H r1 cs) (h2 : ShAt a.c_Shares H r2 ds) (hl : cs.length ≤ 1000) (he : cs.length = ds.length)
    (q : ∀ r H', H r = none → Same H H' → ShAt a.c_Shares H' r (zadd cs ds) → Q (.ref r) H') : ∃ r, OpD X0 E (binaryOp .Add) r ∧ r (.ref r1) (.ref r2) H Q := by
  obtain ⟨d1, t1, i1, i2⟩ := id h1
  obtain ⟨d2, t2, j1, j2⟩ := id h2
  exact s_opSame T.sf_Shares T.m_Shares__add_ (by decide +kernel) GA (hr.mono (by decide)) i1 j1 ⟨r1, r2, _, _, rfl, h1, h2, hl, fun _ => q, fun hh => absurd he hh⟩
theorem s_addEv {e1 e2 : Addr} {n : Nat} {bs cs : List (Int × List Int)} (T : Facts X0.K X0.mg a) (GE : Fn X0 6 a.f_Evening__add_ (spEvAdd a.c_Evening a.c_Bill)) (hr : Room 8 X0.A) (h1 : EvAt a.c_Evening a.c_Bill H e1 n bs) (h2 : EvAt a.c_Evening a.c_Bill H e2 n cs) (ok : OkEv n (bs ++ cs))
    (q : ∀ r H', H r = none → Same H H' → EvAt a.c_Evening a.c_Bill H' r n (bs ++ cs) → Q (.ref r) H') : ∃ r, OpD X0 E (binaryOp .Add) r ∧ r (.ref e1) (.ref e2) H Q := by
  obtain ⟨d1, t1, ps1, i1, i2, i3⟩ := id h1
  obtain ⟨d2, t2, ps2, j1, j2, j3⟩ := id h2
  exact s_opSame T.sf_Evening T.m_Evening__add_ (by decide +kernel) GE (hr.mono (by decide)) i1 j1 ⟨e1, e2, n, bs, cs, rfl, h1, h2, ok, q⟩
theorem s_mulEv {e1 : Addr} {n k : Nat} {bs : List (Int × List Int)} (T : Facts X0.K X0.mg a) (GE : Fn X0 6 a.f_Evening__mul_ (spEvMul a.c_Evening a.c_Bill)) (hr : Room 8 X0.A) (h1 : EvAt a.c_Evening a.c_Bill H e1 n bs) (hk : k ≤ 30) (hl : bs.length ≤ 1000) (ok : OkEv n (List.replicate k bs).flatten)
    (q : ∀ r H', H r = none → Same H H' → EvAt a.c_Evening a.c_Bill H' r n (List.replicate k bs).flatten → Q (.ref r) H') : ∃ r, OpD X0 E (binaryOp .Mult) r ∧ r (.ref e1) (.int k) H Q := by
  obtain ⟨d1, t1, ps1, i1, i2, i3⟩ := id h1
  exact s_opInt T.sf_Evening T.m_Evening__mul_ T.oi_Evening__mul_ (by decide +kernel) (by decide +kernel) GE (hr.mono (by decide)) i1 ⟨e1, k, n, bs, rfl, h1, hk, hl, ok, q⟩
end

/-! ### orders of the bills -/
section
variable {P : Program} {w : World} {K : PySem.W.Frag} {mg : Str → Option Value} {base : Heap} {a : Ad}
def pick (bs : List (Int × List Int)) (o : List Nat) : List (Int × List Int) := o.map fun i => bs.getD i (0, [])
theorem pick_snoc (bs : List (Int × List Int)) (o : List Nat) {i : Nat} {b : Int × List Int} (h : bs[i]? = some b) : pick bs (o ++ [i]) = pick bs o ++ [b] := by
  unfold pick
  rw [List.map_append, List.map_singleton, List.getD_eq_getElem?_getD, h]
  rfl
def extsK (k : Nat) (o : List Nat) : List (List Nat) := ((List.range k).filter fun i => !decide (i ∈ o)).map fun i => o ++ [i]
theorem extsK_next (k : Nat) (o : List Nat) : extsK (k + 1) o = extsK k o ++ (if k ∈ o then [] else [o ++ [k]]) := by
  unfold extsK
  rw [List.range_succ, List.filter_append, List.map_append]
  by_cases h : k ∈ o
  · rw [if_pos h]; simp [List.filter_cons, h]
  · rw [if_neg h]; simp [List.filter_cons, h]
/-- the orders of k of N bills, as they come -/
def ords (N : Nat) : Nat → List (List Nat)
  | 0 => [[]]
  | k + 1 => ((ords N k).map (extsK N)).flatten
def oI (o : List Nat) : List Int := o.map fun i : Nat => (i : Int)
theorem oI_mem {o : List Nat} {i : Nat} : (i : Int) ∈ oI o ↔ i ∈ o := by
  unfold oI
  rw [List.mem_map]
  constructor
  · rintro ⟨j, hj, e⟩
    rw [← show j = i by omega]
    exact hj
  · exact fun h => ⟨i, h, rfl⟩
def OrdOk (N k : Nat) (o : List Nat) : Prop := o.length = k ∧ (∀ i ∈ o, i < N) ∧ o.Nodup
theorem ords_ok (N : Nat) : ∀ k, ∀ o ∈ ords N k, OrdOk N k o
  | 0, o, h => by
    rw [List.mem_singleton.1 h]
    exact ⟨rfl, by simp, List.nodup_nil⟩
  | k + 1, o, h => by
    obtain ⟨l, hl, ho⟩ := List.mem_flatten.1 h
    obtain ⟨o', ho', rfl⟩ := List.mem_map.1 hl
    obtain ⟨h1, h2, h3⟩ := ords_ok N k o' ho'
    obtain ⟨i, hi, rfl⟩ := List.mem_map.1 ho
    obtain ⟨hi1, hi2⟩ := List.mem_filter.1 hi
    have hin : i ∉ o' := by simpa using hi2
    refine ⟨by rw [List.length_append, h1]; rfl, fun j hj => ?_, ?_⟩
    · rcases List.mem_append.1 hj with z | z
      · exact h2 j z
      · rw [List.mem_singleton.1 z]; exact List.mem_range.1 hi1
    · rw [List.nodup_append]
      refine ⟨h3, by simp, fun x hx y hy => ?_⟩
      rw [List.mem_singleton.1 hy]
      exact fun e => hin (e ▸ hx)
theorem extsK_len (N : Nat) (o : List Nat) : (extsK N o).length ≤ N := by
  unfold extsK
  rw [List.length_map]
  have := List.length_filter_le (fun i => !decide (i ∈ o)) (List.range N)
  rw [List.length_range] at this
  exact this
theorem flat_le {α : Type} {f : List Nat → List α} {N : Nat} (h : ∀ o, (f o).length ≤ N) : ∀ l : List (List Nat), ((l.map f).flatten).length ≤ l.length * N
  | [] => by simp
  | o :: l => by
    have := flat_le h l
    have := h o
    rw [List.map_cons, List.flatten_cons, List.length_append, List.length_cons, Nat.succ_mul]
    omega
theorem ords_len (N : Nat) : ∀ k, (ords N k).length ≤ N ^ k
  | 0 => Nat.le_refl _
  | k + 1 => by
    show ((ords N k).map (extsK N)).flatten.length ≤ _
    refine Nat.le_trans (flat_le (extsK_len N) _) ?_
    rw [Nat.pow_succ]
    exact Nat.mul_le_mul_right _ (ords_len N k)
theorem ords_few {N k : Nat} (hN : N ≤ 7) (hk : k ≤ N) : N ^ k ≤ 823543 := by
  rcases Nat.eq_zero_or_pos N with z | z
  · have : k = 0 := by omega
    rw [z, this]
    decide
  · exact Nat.le_trans (Nat.pow_le_pow_right z (show k ≤ 7 by omega)) (Nat.le_trans (Nat.pow_le_pow_left hN 7) (by decide))
theorem nodup_le : ∀ (l o : List Nat), l.Nodup → (∀ x ∈ l, x ∈ o) → l.length ≤ o.length
  | [], _, _, _ => Nat.zero_le _
  | x :: l, o, hn, h => by
    have hx := h x (List.mem_cons_self ..)
    have hn' := List.nodup_cons.1 hn
    have i := nodup_le l (o.erase x) hn'.2 fun y hy => (List.mem_erase_of_ne (fun e : y = x => hn'.1 (by rw [← e]; exact hy))).2 (h y (List.mem_cons_of_mem _ hy))
    rw [List.length_erase_of_mem hx] at i
    have := List.length_pos_of_mem hx
    rw [List.length_cons]
    omega
/-- there is a next bill while there are fewer -/
theorem ords_ne (N : Nat) : ∀ k, k ≤ N → ords N k ≠ []
  | 0, _ => by simp [ords]
  | k + 1, h => by
    obtain ⟨o, ho⟩ := List.exists_mem_of_ne_nil _ (ords_ne N k (by omega))
    have ok := ords_ok N k o ho
    obtain ⟨i, hi, hn⟩ : ∃ i, i < N ∧ i ∉ o := by
      refine Classical.byContradiction fun c => ?_
      have hall : ∀ i, i < N → i ∈ o := fun i hi => Classical.byContradiction fun z => c ⟨i, hi, z⟩
      have := nodup_le (List.range N) o List.nodup_range fun i hi => hall i (List.mem_range.1 hi)
      rw [List.length_range, ok.1] at this
      omega
    intro z
    have hm : o ++ [i] ∈ ords N (k + 1) := by
      show _ ∈ ((ords N k).map (extsK N)).flatten
      refine List.mem_flatten.2 ⟨extsK N o, List.mem_map.2 ⟨o, ho, rfl⟩, ?_⟩
      exact List.mem_map.2 ⟨i, List.mem_filter.2 ⟨List.mem_range.2 hi, by simpa using hn⟩, rfl⟩
    rw [z] at hm
    simp at hm
/-- a way stands at w: an order, its shares, the mark after it -/
def WayAt (C : Addr) (n : Nat) (bs : List (Int × List Int)) (m : Int) (ok : Addr → Prop) (H : Hp) (w : Addr) (o : List Nat) : Prop := ∃ ol sh, H w = some (.tup [.ref ol, .ref sh, .int (evRun n m (pick bs o)).2]) ∧ H ol = some (.lst ((oI o).map V.int)) ∧ ShAt C H sh (evRun n m (pick bs o)).1 ∧ ok ol
def WaysAt (C : Addr) (n : Nat) (bs : List (Int × List Int)) (m : Int) (ok : Addr → Prop) (H : Hp) (ws : List Addr) (os : List (List Nat)) : Prop := ws.length = os.length ∧ ∀ (i : Nat) w o, ws[i]? = some w → os[i]? = some o → WayAt C n bs m ok H w o
section
variable {C : Addr} {n : Nat} {bs : List (Int × List Int)} {m : Int} {ok ok' : Addr → Prop} {H H' : Hp} {w : Addr} {o : List Nat} {ws vs : List Addr} {os us : List (List Nat)}
theorem WayAt.same (h : WayAt C n bs m ok H w o) (s : Same H H') : WayAt C n bs m ok H' w o := let ⟨ol, sh, h1, h2, h3, h4⟩ := h; ⟨ol, sh, s _ _ h1, s _ _ h2, h3.same s, h4⟩
theorem WayAt.imp (h : WayAt C n bs m ok H w o) (k : ∀ x, ok x → ok' x) : WayAt C n bs m ok' H w o := let ⟨ol, sh, h1, h2, h3, h4⟩ := h; ⟨ol, sh, h1, h2, h3, k _ h4⟩
/-- a list changed that no way's order is -/
theorem WayAt.upd {p : Addr} {l l' : List V} (h : WayAt C n bs m ok H w o) (hp : H p = some (.lst l)) (k : ∀ x, ok x → x ≠ p) : WayAt C n bs m ok (upd H p (.lst l')) w o := by
  obtain ⟨ol, sh, h1, h2, ⟨dx, t, h3, h4⟩, h5⟩ := h
  exact ⟨ol, sh, by rw [upd_ne (fun z => by rw [z, hp] at h1; cases h1)]; exact h1, by rw [upd_ne (k _ h5)]; exact h2, ⟨dx, t, by rw [upd_ne (fun z => by rw [z, hp] at h3; cases h3)]; exact h3, by rw [upd_ne (fun z => by rw [z, hp] at h4; cases h4)]; exact h4⟩, h5⟩
theorem WaysAt.same (h : WaysAt C n bs m ok H ws os) (s : Same H H') : WaysAt C n bs m ok H' ws os := ⟨h.1, fun i w o e1 e2 => (h.2 i w o e1 e2).same s⟩
theorem WaysAt.imp (h : WaysAt C n bs m ok H ws os) (k : ∀ x, ok x → ok' x) : WaysAt C n bs m ok' H ws os := ⟨h.1, fun i w o e1 e2 => (h.2 i w o e1 e2).imp k⟩
theorem WaysAt.upd {p : Addr} {l l' : List V} (h : WaysAt C n bs m ok H ws os) (hp : H p = some (.lst l)) (k : ∀ x, ok x → x ≠ p) : WaysAt C n bs m ok (upd H p (.lst l')) ws os := ⟨h.1, fun i w o e1 e2 => (h.2 i w o e1 e2).upd hp k⟩
theorem WaysAt.app (h : WaysAt C n bs m ok H ws os) (h' : WaysAt C n bs m ok H vs us) : WaysAt C n bs m ok H (ws ++ vs) (os ++ us) := by
  refine ⟨by rw [List.length_append, List.length_append, h.1, h'.1], fun i p b e1 e2 => ?_⟩
  by_cases hi : i < ws.length
  · rw [List.getElem?_append_left hi] at e1
    rw [List.getElem?_append_left (by rw [← h.1]; exact hi)] at e2
    exact h.2 i p b e1 e2
  · rw [List.getElem?_append_right (by omega)] at e1
    rw [List.getElem?_append_right (by rw [← h.1]; omega), ← h.1] at e2
    exact h'.2 _ p b e1 e2
theorem WaysAt.one (h : WayAt C n bs m ok H w o) : WaysAt C n bs m ok H [w] [o] := ⟨rfl, fun i p b e1 e2 => by
  cases i with
  | zero => cases e1; cases e2; exact h
  | succ i => simp at e1⟩
theorem WaysAt.nil : WaysAt C n bs m ok H [] [] := ⟨rfl, fun i p b e1 e2 => by simp at e1⟩
end
theorem pick_ok {n : Nat} {bs : List (Int × List Int)} (hb : ∀ b ∈ bs, RowOk n b) {o : List Nat} (ho : ∀ i ∈ o, i < bs.length) : ∀ b ∈ pick bs o, RowOk n b := fun b hb' => by
  obtain ⟨i, hi, rfl⟩ := List.mem_map.1 hb'
  rw [List.getD_eq_getElem?_getD, List.getElem?_eq_getElem (ho i hi)]
  exact hb _ (List.getElem_mem _)
def spLonger (CE CB CS : Addr) : Sp := fun vs H Q _ => ∃ (e w : Addr) (n : Nat) (bs : List (Int × List Int)) (m : Int) (o : List Nat), vs = [.ref e, .ref w] ∧ EvAt CE CB H e n bs ∧ OkEv n bs ∧ 0 ≤ m ∧ m < (n : Int) ∧ WayAt CS n bs m (fun _ => True) H w o ∧ (∀ i ∈ o, i < bs.length) ∧ o.length ≤ 1000 ∧
  ∀ p ws H', H p = none → Same H H' → H' p = some (.lst (ws.map V.ref)) → WaysAt CS n bs m (fun x => H x = none) H' ws (extsK bs.length o) → Q (.ref p) H'
theorem ok_longer (T : Facts K mg a) : FnR P w K mg base (L2.CX P w) 6 a.f_longer_ways (spLonger a.c_Evening a.c_Bill a.c_Shares) := by
  obtain ⟨fd, F⟩ := T.u_longer_ways
  have GS : FnR P w K mg base (L2.CX P w) 3 a.f_split_bill (spSplit a.c_Bill a.c_Shares) := ok_split T
  have GA : FnR P w K mg base (L2.CX P w) 3 a.f_Shares__add_ (spShAdd a.c_Shares a.c_OtherTable) := ok_sh_add T
  have GE : FnR P w K mg base (L2.CX P w) 1 a.f_Evening_seat_count (spEvCount a.c_Evening) := ok_ev_count T
  have GB : FnR P w K mg base (L2.CX P w) 1 a.f_Evening_bills (spEvBills a.c_Evening) := ok_ev_bills T
  refine fnr_ok F sc_longer_ways (F.binds fun _ _ _ _ _ _ us hl => match us, hl with | [_, _], _ => rfl) (fun vs H Q E h => ?_) (fun cdv A outer s H vs Q E hr h => ?_)
  · obtain ⟨e, w, n, bs, m, o, rfl, _⟩ := h
    rfl
  · obtain ⟨e, w, n, bs, m, o, rfl, hev, ok, m0, m1, ⟨ol, sh, g1, g2, g3, _⟩, ho, hol, q⟩ := h
    obtain ⟨dx, tb, ps, e1, e2, e3⟩ := id hev
    have hn8 : n ≤ 8 := ok.2.1
    have hpk := pick_ok ok.2.2.2 ho
    have hend := evRun_range hpk m0 m1 (pick bs o).length
    rw [List.take_of_length_le (Nat.le_refl _)] at hend
    refine ⟨_, (pss_cons (ps_asg (pv 1) (pg_tup rfl (pgs_cons (pg_name (i := 2) sc_longer_ways.nd rfl (Or.inl rfl)) (pgs_cons (pg_name (i := 3) sc_longer_ways.nd rfl (Or.inl rfl)) (pgs_cons (pg_name (i := 4) sc_longer_ways.nd rfl (Or.inl rfl)) pgs_nil)))))
    (pss_cons (ps_set (i := 5) sc_longer_ways.nd rfl (Or.inl rfl) (pe_lst pa_nil))
    (pss_cons (ps_for own_main rfl (pi_enumA (by rfl) T.z_enumerate (pa_cons (pe_atA Like.refl pas_main (pv 0)) pa_nil)) (pg_tup rfl (pgs_cons (pg_name (i := 6) sc_longer_ways.nd rfl (Or.inl rfl)) (pgs_cons (pg_name (i := 7) sc_longer_ways.nd rfl (Or.inl rfl)) pgs_nil))) (pss_one (ps_if (pt_cmpA Like.refl pas_main (pv 6) (pv 2) (by with_unfolding_all rfl)) (pss_cons (ps_asg (pe_glA Like.refl pas_main (by rfl) (pa_cons (pv 7) (pa_cons (pv 4) (pa_cons (pe_atA Like.refl pas_main (pv 0)) pa_nil)))) (pg_tup rfl (pgs_cons (pg_name (i := 8) sc_longer_ways.nd rfl (Or.inl rfl)) (pgs_cons (pg_name (i := 9) sc_longer_ways.nd rfl (Or.inl rfl)) pgs_nil))))
    (pss_one (ps_expr (pe_bm PySem.F.plainAttrs_list PySem.F.slot_list_append PySem.F.type_list_append mt_append (pv 5) (pa_cons (pe_tup (pa_cons (pe_opA Like.refl pas_main (pv 2) (pe_lst (pa_cons (pv 6) pa_nil))) (pa_cons (pe_opA Like.refl pas_main (pv 3) (pv 8)) (pa_cons (pv 9) pa_nil)))) pa_nil))))) pss_nil)))
    (pss_one (ps_ret (pv 5)))))), ?_⟩
    walk_at "go"
    refine g_trip (SqT.of g1) ?_
    dsimp only [List.set]
    walk_at "go"
    refine ⟨by show 0 ≤ sizeLine; decide, fun p hp => ?_⟩
    have s0 := same_new (o := .lst []) hp
    walk_at "go"
    refine f_enumT (a := tb) (xs := ps.map V.ref) (fun k σ H' => Same H H' ∧ ∃ ws x6 x7 x8 x9, σ = [some (.ref e), some (.ref w), some (.ref ol), some (.ref sh), some (.int (evRun n m (pick bs o)).2), some (.ref p), x6, x7, x8, x9] ∧ H' p = some (.lst (ws.map V.ref)) ∧ WaysAt a.c_Shares n bs m (fun x => H x = none ∧ x ≠ p) H' ws (extsK k o)) (fun R k => ?_)
      ⟨s0, [], none, none, none, none, rfl, upd_same, WaysAt.nil⟩ (fun k σ H' _ pv => SqT.of (pv.1 _ _ e2)) (fun k x σ H' T2 hx pv hT2 => ?_) (fun σ H' pv => ?_)
    · walk_at "go"
      exact s_prop T.cl_Evening T.pr_Evening_bills GB (hr.mono (by decide)) (s0 _ _ e1) ⟨e, dx, tb, _, rfl, s0 _ _ e1, k⟩
    · obtain ⟨s1, ws, x6, x7, x8, x9, rfl, hpl, hws⟩ := pv
      rw [List.getElem?_map] at hx
      cases ep : ps[k]? with
      | none => rw [ep] at hx; cases hx
      | some bp =>
        rw [ep] at hx
        cases hx
        obtain ⟨hk, _⟩ := List.getElem?_eq_some_iff.1 ep
        have hk30 : k < 30 := by have := e3.1; have := ok.2.2.1; omega
        obtain ⟨b, eb⟩ : ∃ b, bs[k]? = some b := ⟨_, List.getElem?_eq_getElem (by rw [← e3.1]; exact hk)⟩
        have hb := ok.2.2.2 b (List.mem_of_getElem? eb)
        have sT := same_new (o := .tup [.int (k : Nat), .ref bp]) hT2
        have s2 := s1.trans sT
        have hpl2 := sT _ _ hpl
        have hws2 := hws.same sT
        generalize upd H' T2 (.tup [.int (k : Nat), .ref bp]) = H2 at *
        have bi := (e3.2 k bp b ep eb).same s2
        dsimp only [List.set]
        walk_at "go"
        refine s_notIn (.inl (SqL.of (s2 _ _ g2))) ?_
        walk_at "go"
        rw [extsK_next]
        refine ite_n (fun hnin => ?_) (fun hin => ?_)
        · have hnin' : k ∉ o := fun z => hnin (oI_mem.2 z)
          walk_at "go"
          refine s_prop T.cl_Evening T.pr_Evening_seat_count GE (hr.mono (by decide)) (s2 _ _ e1) ⟨e, dx, tb, _, rfl, s2 _ _ e1, ?_⟩
          refine s_fn GS (hr.mono (by decide)) ⟨bp, _, n, b, rfl, bi, hb.1, hn8, hb.2, fun T3 r3 H3 hT3 s3 h3 sh3 => ?_⟩
          refine g_pair (SqT.of h3) ?_
          dsimp only [List.set]
          walk_at "go"
          refine w_bm ?_
          walk_at "go"
          have hpl3 := s3 _ _ hpl2
          refine ⟨.inl ⟨rfl, _, SqL.of hpl3⟩, ?_⟩
          walk_at "go"
          refine ⟨by show 1 ≤ sizeLine; decide, fun l1 hl1 => ?_⟩
          have s4 := same_new (o := .lst [.int (k : Nat)]) hl1
          walk_at "go"
          refine s_cat (s4 _ _ (s3 _ _ (s2 _ _ g2))) upd_same (by rw [List.length_map]; unfold oI; rw [List.length_map]; exact Nat.le_trans (show o.length + 1 ≤ 1001 by omega) (by decide)) fun l2 hl2 => ?_
          have s5 := same_new (o := .lst ((oI o).map V.int ++ [.int (k : Nat)])) hl2
          have s35 := (s3.trans s4).trans s5
          have hl2H : H l2 = none := s2.free ((s3.trans s4).free hl2)
          have hl2p : l2 ≠ p := fun z => by rw [z, s4 _ _ hpl3] at hl2; cases hl2
          have hl2c : (upd (upd H3 l1 (.lst [.int (k : Nat)])) l2 (.lst ((oI o).map V.int ++ [.int (k : Nat)]))) l2 = some (.lst ((oI (o ++ [k])).map V.int)) := by
            rw [upd_same]
            unfold oI
            rw [List.map_append, List.map_append]
            rfl
          walk_at "go"
          refine s_addSh T GA (hr.mono (by decide)) ((g3.same s2).same s35) ((sh3.same s4).same s5) (by rw [evRun_len]; omega) (by rw [evRun_len, splitC_len]) fun r6 H6 hr6 s6 sh6 => ?_
          walk_at "go"
          refine ⟨by show 3 ≤ sizeLine; decide, fun T7 hT7 => ?_⟩
          have s7 := same_new (o := .tup [.ref l2, .ref r6, .int (splitM (evRun n m (pick bs o)).2 b)]) hT7
          have s37 := (s35.trans s6).trans s7
          have hpl7 := s37 _ _ hpl2
          have erun := evRun_snoc n m (pick bs o) b
          rw [← pick_snoc bs o eb] at erun
          have way : WayAt a.c_Shares n bs m (fun x => H x = none ∧ x ≠ p) (upd H6 T7 (.tup [.ref l2, .ref r6, .int (splitM (evRun n m (pick bs o)).2 b)])) T7 (o ++ [k]) :=
            ⟨l2, r6, by rw [upd_same, erun], s7 _ _ (s6 _ _ hl2c), by rw [erun]; exact sh6.same s7, hl2H, hl2p⟩
          have hws7 := (hws2.same s37).app (WaysAt.one way)
          have hwl : ws.length ≤ 30 := by
            rw [hws.1]
            exact Nat.le_trans (extsK_len k o) (by omega)
          generalize upd H6 T7 (.tup [.ref l2, .ref r6, .int (splitM (evRun n m (pick bs o)).2 b)]) = H7 at *
          refine ⟨p, _, _, rfl, rfl, hpl7, by rw [List.length_map]; exact Nat.lt_of_le_of_lt hwl (by decide), ?_⟩
          walk_at "go"
          refine ⟨same_mut (s2.trans s37) hp, ws ++ [T7], _, _, _, _, rfl, by rw [upd_same, List.map_append]; rfl, ?_⟩
          rw [if_neg hnin']
          exact hws7.upd hpl7 fun x hx => hx.2
        · have hin' : k ∈ o := oI_mem.1 hin
          walk_at "go"
          rw [if_pos hin', List.append_nil]
          exact ⟨s2, ws, _, _, _, _, rfl, hpl2, hws2⟩
    · obtain ⟨s1, ws, x6, x7, x8, x9, rfl, hpl, hws⟩ := pv
      rw [List.length_map, e3.1] at hws
      walk_at "go"
      exact q p ws H' hp s1 hpl (hws.imp fun x hx => hx.1)
def spSpread (CS : Addr) : Sp := fun vs H Q _ => ∃ (w ol sh : Addr) (mk : Int) (cs : List Int), vs = [.ref w] ∧ H w = some (.tup [.ref ol, .ref sh, .int mk]) ∧ ShAt CS H sh cs ∧ Q (.int (maxI cs - minI cs)) H
theorem ok_spread (T : Facts K mg a) : FnR P w K mg base (L2.CX P w) 3 a.f_spread_of (spSpread a.c_Shares) := by
  obtain ⟨fd, F⟩ := T.u_spread_of
  have GAb : FnR P w K mg base (L2.CX P w) 1 a.f_Shares__abs_ (spShAbs a.c_Shares) := ok_sh_abs T
  refine fnr_ok F sc_spread_of (F.binds fun _ _ _ _ _ _ us hl => match us, hl with | [_], _ => rfl) (fun vs H Q E h => ?_) (fun cdv A outer s H vs Q E hr h => ?_)
  · obtain ⟨w, ol, sh, mk, cs, rfl, _⟩ := h
    rfl
  · obtain ⟨w, ol, sh, mk, cs, rfl, hw, hs, q⟩ := h
    obtain ⟨dx, t, i1, i2⟩ := id hs
    refine ⟨_, (pss_one (ps_ret (pe_biA (id := "abs") Like.refl pas_main (by rfl) (by decide +kernel) (pa_cons (pe_ixA Like.refl pas_main (pv 0) (pe_int)) pa_nil)))), ?_⟩
    walk_at "go"
    refine s_ixT (SqT.of hw) (v := .ref sh) rfl ?_
    exact s_absI T.m_Shares__abs_ GAb (hr.mono (by decide)) i1 ⟨sh, _, rfl, hs, q⟩
/-- the spread of an order -/
def sprd (n : Nat) (bs : List (Int × List Int)) (m : Int) (o : List Nat) : Int := maxI (evRun n m (pick bs o)).1 - minI (evRun n m (pick bs o)).1
/-- the first order with the least spread -/
def bestO (n : Nat) (bs : List (Int × List Int)) (m : Int) : List Nat := (ords bs.length bs.length).getD (argBest (fun i j => decide (sprd n bs m ((ords bs.length bs.length).getD i []) < sprd n bs m ((ords bs.length bs.length).getD j []))) ((ords bs.length bs.length).length - 1)) []
def spFair (CE CB : Addr) : Sp := fun vs H Q _ => ∃ (e : Addr) (m : Int) (n : Nat) (bs : List (Int × List Int)), vs = [.ref e, .int m] ∧ EvAt CE CB H e n bs ∧ OkEv n bs ∧ bs.length ≤ 7 ∧ 0 ≤ m ∧ m < (n : Int) ∧
  ∀ p H', H p = none → Same H H' → H' p = some (.lst ((oI (bestO n bs m)).map V.int)) → Q (.ref p) H'
theorem ok_fairest (T : Facts K mg a) : FnR P w K mg base (L2.CX P w) 7 a.f_fairest_order (spFair a.c_Evening a.c_Bill) := by
  obtain ⟨fd, F⟩ := T.u_fairest_order
  have GM : FnR P w K mg base (L2.CX P w) 2 a.f_check_mark spCkMark := ok_check_mark T
  have GN : FnR P w K mg base (L2.CX P w) 3 a.f_no_shares (spNoShares a.c_Shares) := ok_no_shares T
  have GE : FnR P w K mg base (L2.CX P w) 1 a.f_Evening_seat_count (spEvCount a.c_Evening) := ok_ev_count T
  have GL : FnR P w K mg base (L2.CX P w) 1 a.f_Evening__len_ (spEvLen a.c_Evening a.c_Bill) := ok_ev_len T
  have GLo : FnR P w K mg base (L2.CX P w) 6 a.f_longer_ways (spLonger a.c_Evening a.c_Bill a.c_Shares) := ok_longer T
  have GSp : FnR P w K mg base (L2.CX P w) 3 a.f_spread_of (spSpread a.c_Shares) := ok_spread T
  refine fnr_ok F sc_fairest_order (F.binds fun _ _ _ _ _ _ us hl => match us, hl with | [_, _], _ => rfl) (fun vs H Q E h => ?_) (fun cdv A outer s H vs Q E hr h => ?_)
  · obtain ⟨e, m, n, bs, rfl, _⟩ := h
    rfl
  · obtain ⟨e, m, n, bs, rfl, hev, ok, hb7, m0, m1, q⟩ := h
    obtain ⟨dx, tb, ps, e1, e2, e3⟩ := id hev
    have hn8 : n ≤ 8 := ok.2.1
    refine ⟨_, (pss_cons (ps_expr (pe_glA Like.refl pas_main (by rfl) (pa_cons (pv 1) (pa_cons (pe_atA Like.refl pas_main (pv 0)) pa_nil))))
    (pss_cons (ps_if (pt_cmpA Like.refl pas_main (pe_biA (id := "len") Like.refl pas_main (by rfl) (by decide +kernel) (pa_cons (pv 0) pa_nil)) (pe_gvI Like.refl (by rfl)) (nomark _)) (pss_one (ps_raA rfl tk_main (by rfl))) pss_nil)
    (pss_cons (ps_set (i := 2) sc_fairest_order.nd rfl (Or.inl rfl) (pe_lst (pa_cons (pe_tup (pa_cons (pe_lst pa_nil) (pa_cons (pe_glA Like.refl pas_main (by rfl) (pa_cons (pe_atA Like.refl pas_main (pv 0)) pa_nil)) (pa_cons (pv 1) pa_nil)))) pa_nil)))
    (pss_cons (ps_for own_main rfl (pi_range1 (by rfl) T.z_range (pa_cons (pe_biA (id := "len") Like.refl pas_main (by rfl) (by decide +kernel) (pa_cons (pv 0) pa_nil)) pa_nil)) (pg_name (i := 3) sc_fairest_order.nd rfl (Or.inl rfl)) (pss_one (ps_setLc2 (i := 2) (own := [("way", 4), ("longer", 5)]) (vs1 := [5]) (g := gName 4) (g1 := gName 5) (tt := tYes) (tt1 := tYes) rfl sc_fairest_order.nd rfl rfl (sw_true rfl rfl rfl (by decide +kernel)) (pi_seqA Like.refl (pv 2)) (blkOk_by (own := [("way", 4), ("longer", 5)]) (N := N_fairest_order) (sc := defScope s_fairest_order) (by decide +kernel)) (by decide) (fun _ _ _ _ _ => (pg_name (i := 4) sc_fairest_order.nd rfl (by first | exact Or.inl rfl | exact Or.inr rfl))) (fun _ _ _ _ _ => pts_nil) (fun _ _ _ _ _ => (pi_seqA ⟨rfl, rfl, rfl, rfl, rfl, rfl, rfl⟩ (pe_glA ⟨rfl, rfl, rfl, rfl, rfl, rfl, rfl⟩ passL (by rfl) (pa_cons (pv 0) (pa_cons (pv 4) pa_nil))))) (fun _ _ _ _ _ => (pg_name (i := 5) sc_fairest_order.nd rfl (by first | exact Or.inl rfl | exact Or.inr rfl))) (fun _ _ _ _ _ => pts_nil) (fun _ _ _ _ _ => (pv 5)))))
    (pss_cons (ps_set (i := 6) sc_fairest_order.nd rfl (Or.inl rfl) (pe_kwA (ks := [Str.ofString "key"]) (id := "min") Like.refl pas_main (by rfl) (by decide +kernel) (pa_cons (pv 2) pa_nil) (pk_cons (pe_gvA Like.refl (by rfl)) pk_nil)))
    (pss_one (ps_ret (pe_ixA Like.refl pas_main (pv 6) (pe_int))))))))), ?_⟩
    walk_at "go"
    refine s_prop T.cl_Evening T.pr_Evening_seat_count GE (hr.mono (by decide)) e1 ⟨e, dx, tb, _, rfl, e1, ?_⟩
    refine s_fn GM (hr.mono (by decide)) ⟨m, n, rfl, m0, m1, ?_⟩
    walk_at "go"
    refine s_lenI T.m_Evening__len_ GL (hr.mono (by decide)) e1 ⟨e, _, _, rfl, hev, _, rfl, by omega, by omega, ?_⟩
    walk_at "go"
    refine w_gvI T.i_MAX_ORDERED_BILLS.choose_spec ?_
    walk_at "go"
    rw [decide_eq_false (by omega)]
    walk_at "go"
    refine ⟨by show 0 ≤ sizeLine; decide, fun l0 hl0 => ?_⟩
    have s0 := same_new (o := .lst []) hl0
    walk_at "go"
    refine s_prop T.cl_Evening T.pr_Evening_seat_count GE (hr.mono (by decide)) (s0 _ _ e1) ⟨e, dx, tb, _, rfl, s0 _ _ e1, ?_⟩
    refine s_fn GN (hr.mono (by decide)) ⟨n, rfl, by omega, fun r1 H1 hr1 s1 sh1 => ?_⟩
    walk_at "go"
    refine ⟨by show 3 ≤ sizeLine; decide, fun w1 hw1 => ?_⟩
    have s2 := same_new (o := .tup [.ref l0, .ref r1, .int m]) hw1
    walk_at "go"
    refine ⟨by show 1 ≤ sizeLine; decide, fun p1 hp1 => ?_⟩
    have s3 := same_new (o := .lst [.ref w1]) hp1
    have sAll := ((s0.trans s1).trans s2).trans s3
    have way0 : WayAt a.c_Shares n bs m (fun x => H x = none) (upd (upd H1 w1 (.tup [.ref l0, .ref r1, .int m])) p1 (.lst [.ref w1])) w1 [] :=
      ⟨l0, r1, s3 _ _ upd_same, s3 _ _ (s2 _ _ (s1 _ _ upd_same)), (sh1.same s2).same s3, hl0⟩
    have gp1 : (upd (upd H1 w1 (.tup [.ref l0, .ref r1, .int m])) p1 (.lst [.ref w1])) p1 = some (.lst ([w1].map V.ref)) := upd_same
    generalize upd (upd H1 w1 (.tup [.ref l0, .ref r1, .int m])) p1 (.lst [.ref w1]) = H2 at *
    walk_at "go"
    refine f_rng (n := bs.length) (fun k σ H' => Same H H' ∧ ∃ p ws x3 x4 x5 x6, σ = [some (.ref e), some (.int m), some (.ref p), x3, x4, x5, x6] ∧ H' p = some (.lst (ws.map V.ref)) ∧ WaysAt a.c_Shares n bs m (fun x => H x = none) H' ws (ords bs.length k)) (fun R k => ?_) (by omega) ⟨sAll, p1, [w1], none, none, none, none, rfl, gp1, WaysAt.one way0⟩ (fun k σ H' hk pv => ?_) (fun σ H' pv => ?_)
    · walk_at "go"
      exact s_lenI T.m_Evening__len_ GL (hr.mono (by decide)) (sAll _ _ e1) ⟨e, _, _, rfl, hev.same sAll, _, rfl, by omega, by omega, k⟩
    · obtain ⟨s4, p, ws, x3, x4, x5, x6, rfl, hp, hws⟩ := pv
      have few := Nat.le_trans (ords_len bs.length (k + 1)) (ords_few (N := bs.length) (k := k + 1) hb7 (by omega))
      refine w_name ?_
      dsimp only [List.set]
      walk_at "go"
      refine c_lc2 (a := p) (xs := ws.map V.ref) (fun D i o H' => ∃ vs : List Addr, o = vs.map V.ref ∧ i ≤ ws.length ∧ WaysAt a.c_Shares n bs m (fun x => H x = none ∧ x ≠ D) H' vs (((ords bs.length k).take i).map (extsK bs.length)).flatten) (fun D hD => ⟨[], rfl, Nat.zero_le _, WaysAt.nil⟩) (SqL.of hp) (fun D i o H' pv => ?_)
        (fun _ => rfl) (fun _ _ => rfl) (fun x0 x R H' hR => ?_) (fun D i x H' o hD hx s5 hd pv R hR => ?_) (fun p2 o H5 hp2 s5 pv hL5 => ?_) (fun R k => ?_)
      · obtain ⟨vs, rfl, hi, hv⟩ := pv
        rw [List.length_map, hv.1]
        refine Nat.lt_of_le_of_lt (flat_le (extsK_len bs.length) _) ?_
        rw [List.length_take]
        have h1 := ords_len bs.length k
        have h2 : (ords bs.length k).length * bs.length ≤ bs.length ^ k * bs.length := Nat.mul_le_mul_right _ h1
        have h3 : min i (ords bs.length k).length * bs.length ≤ (ords bs.length k).length * bs.length := Nat.mul_le_mul_right _ (Nat.min_le_right _ _)
        rw [← Nat.pow_succ] at h2
        have h4 := ords_few (N := bs.length) (k := k + 1) hb7 (by omega)
        exact Nat.lt_of_le_of_lt (Nat.le_trans h3 (Nat.le_trans h2 h4)) (by decide)
      · walk_at "go"
        exact hR
      · obtain ⟨vs, rfl, hi, hv⟩ := pv
        rw [List.getElem?_map] at hx
        cases ew : ws[i]? with
        | none => rw [ew] at hx; cases hx
        | some wi =>
          rw [ew] at hx
          cases hx
          obtain ⟨hil, _⟩ := List.getElem?_eq_some_iff.1 ew
          obtain ⟨o, eo⟩ : ∃ o, (ords bs.length k)[i]? = some o := ⟨_, List.getElem?_eq_getElem (by rw [← hws.1]; exact hil)⟩
          have ook := ords_ok bs.length k o (List.mem_of_getElem? eo)
          have sH := s4.trans s5
          refine w_isq ?_
          walk_at "go"
          refine s_fn GLo hr ⟨e, wi, n, bs, m, o, rfl, hev.same sH, ok, m0, m1, ((hws.2 i wi o ew eo).same s5).imp fun _ _ => True.intro, ook.2.1, by rw [ook.1]; omega, fun p3 us H6 hp3 s6 hp3l hus => ?_⟩
          refine ⟨p3, rfl, .inl ⟨⟨_, SqL.of hp3l⟩, hR p3 _ H6 s6 hp3 hp3l ⟨vs ++ us, by rw [List.map_append], by omega, ?_⟩⟩⟩
          rw [List.take_add_one, eo, List.map_append, List.flatten_append]
          have h7 : WaysAt a.c_Shares n bs m (fun x => H x = none ∧ x ≠ D) H6 us (extsK bs.length o) := hus.imp fun x hx => ⟨sH.free hx, fun z => by rw [z, hd] at hx; cases hx⟩
          refine (((hv.same s6).app ?_).upd (s6 _ _ hd) fun x hx => hx.2)
          show WaysAt a.c_Shares n bs m _ H6 us ([extsK bs.length o].flatten)
          rw [List.flatten_singleton]
          exact h7
      · obtain ⟨vs, rfl, _, hv⟩ := pv
        rw [List.length_map, hws.1, List.take_of_length_le (Nat.le_refl _)] at hv
        walk_at "go"
        exact ⟨s4.trans s5, p2, vs, _, _, _, _, rfl, hL5, hv.imp fun x hx => hx.1⟩
      · walk_at "go"
        exact k
    · obtain ⟨s4, p, ws, x3, x4, x5, x6, rfl, hp, hws⟩ := pv
      have hlen : 0 < ws.length := by
        rw [hws.1]
        exact List.length_pos_iff.2 (ords_ne bs.length bs.length (Nat.le_refl _))
      walk_at "go"
      refine w_kw T.z_min ?_
      walk_at "go"
      refine s_minF (fun i => sprd n bs m ((ords bs.length bs.length).getD i [])) GSp (hr.mono (by decide)) rfl (SqL.of hp) (by rw [List.length_map]; exact hlen) (fun i x H5 hx s5 => ?_) (fun x H5 hx s5 => ?_)
      · rw [List.getElem?_map] at hx
        cases ew : ws[i]? with
        | none => rw [ew] at hx; cases hx
        | some wi =>
          rw [ew] at hx
          cases hx
          obtain ⟨hil, _⟩ := List.getElem?_eq_some_iff.1 ew
          obtain ⟨o, eo⟩ : ∃ o, (ords bs.length bs.length)[i]? = some o := ⟨_, List.getElem?_eq_getElem (by rw [← hws.1]; exact hil)⟩
          obtain ⟨ol, sh, h1, h2, h3, _⟩ := (hws.2 i wi o ew eo).same s5
          refine ⟨wi, ol, sh, _, _, rfl, h1, h3, ?_, Same.refl _⟩
          rw [List.getD_eq_getElem?_getD, eo]
          rfl
      · rw [List.length_map, hws.1, List.getElem?_map] at hx
        generalize hix : argBest (fun i j => decide (sprd n bs m ((ords bs.length bs.length).getD i []) < sprd n bs m ((ords bs.length bs.length).getD j []))) ((ords bs.length bs.length).length - 1) = ix at hx
        cases ew : ws[ix]? with
        | none => rw [ew] at hx; cases hx
        | some wi =>
          rw [ew] at hx
          cases hx
          obtain ⟨hil, _⟩ := List.getElem?_eq_some_iff.1 ew
          obtain ⟨o, eo⟩ : ∃ o, (ords bs.length bs.length)[ix]? = some o := ⟨_, List.getElem?_eq_getElem (by rw [← hws.1]; exact hil)⟩
          obtain ⟨ol, sh, h1, h2, h3, h4⟩ := (hws.2 ix wi o ew eo).same s5
          walk_at "go"
          refine s_ixT (SqT.of h1) (v := .ref ol) rfl ?_
          refine q ol H5 h4 (s4.trans s5) ?_
          unfold bestO
          rw [hix, List.getD_eq_getElem?_getD, eo]
          exact h2
end

end Odd

namespace Odd
open PySem PySem.Spec PyProof.Rows L2
/-! tactics of this text: st one step, go as many as go -/
local macro_rules | `(tactic| walk_at "ar") => `(tactic| first | assumption | omega | (show (_ : Int) < _; omega) | decide)
local macro_rules | `(tactic| walk_at "st") => `(tactic| first
  | with_reducible refine' w_seq ?_
  | with_reducible refine' w_asg ?_
  | with_reducible refine' w_name ?_
  | with_reducible refine' w_c ?_
  | with_reducible refine' w_op ?_
  | with_reducible refine' w_ix ?_
  | with_reducible refine' w_at ?_
  | with_reducible refine' w_cons ?_
  | with_reducible refine' w_nil ?_
  | with_reducible refine' w_ret ?_
  | with_reducible refine' w_if ?_
  | with_reducible refine' w_test ?_
  | with_reducible refine' w_tr ?_
  | with_reducible refine' w_un ?_
  | with_reducible refine' w_andV ?_
  | with_reducible refine' w_orV ?_
  | with_reducible refine' w_notA ?_
  | with_reducible refine' w_ch ?_
  | with_reducible refine' w_and ?_
  | with_reducible refine' w_or ?_
  | with_reducible refine' w_not ?_
  | with_reducible refine' w_ifx ?_
  | with_reducible refine' w_tup ?_
  | with_reducible refine' w_lst ?_
  | with_reducible refine' w_next ?_
  | with_reducible refine' w_drop ?_
  | with_reducible refine' w_retN ?_
  | ((with_reducible refine' w_var ?h ?_); (case h => exact rfl))
  | ((with_reducible refine' w_bi ?h ?_); (case h => walk_at "mg"))
  | ((with_reducible refine' w_bv ?h ?_); (case h => walk_at "mg"))
  | ((with_reducible refine' w_gv ?h ?_); (case h => walk_at "mg"))
  | ((with_reducible refine' w_gl ?h ?k ?_); (case h => walk_at "mg"); (case k => walk_at "kp"))
  | ((with_reducible refine' w_glS ?h ?k ?_); (case h => walk_at "mg"); (case k => walk_at "kp"))
  | with_reducible refine' bl_ex ?_
  | with_reducible refine' iteT ?_
  | with_reducible refine' iteF ?_
  | with_reducible refine' ite_nf ?_
  | with_reducible refine' ite_nt ?_
  | with_reducible refine' s_add ?_
  | with_reducible refine' s_sub ?_
  | with_reducible refine' s_lt ?_
  | with_reducible refine' s_le ?_
  | with_reducible refine' s_gt ?_
  | with_reducible refine' s_ge ?_
  | with_reducible refine' s_eqI ?_
  | with_reducible refine' s_neI ?_
  | with_reducible refine' s_eqB ?_
  | with_reducible refine' s_neB ?_
  | with_reducible refine' s_truB ?_
  | with_reducible refine' s_truI ?_
  | with_reducible refine' s_neg ?_
  | ((with_reducible refine' s_mod ?h ?_); (case h => walk_at "ar")))
local macro_rules | `(tactic| walk_at "go") => `(tactic| repeat walk_at "st")

local macro_rules | `(tactic| walk_at "mg") => `(tactic| first | assumption | exact Facts.z_TypeError (by assumption) | exact Facts.z_abs (by assumption) | exact Facts.z_bool (by assumption) | exact Facts.z_classmethod (by assumption) | exact Facts.z_divmod (by assumption) | exact Facts.z_enumerate (by assumption) | exact Facts.z_int (by assumption) | exact Facts.z_isinstance (by assumption) | exact Facts.z_len (by assumption) | exact Facts.z_list (by assumption) | exact Facts.z_max (by assumption) | exact Facts.z_min (by assumption) | exact Facts.z_property (by assumption) | exact Facts.z_range (by assumption) | exact Facts.z_sorted (by assumption) | exact Facts.z_sum (by assumption) | exact Facts.z_super (by assumption) | exact Facts.z_tuple (by assumption) | exact Facts.z_zip (by assumption) | exact Facts.g__wall (by assumption) | exact Facts.g_is_between (by assumption) | exact Facts.g_check_seat (by assumption) | exact Facts.g_check_amount (by assumption) | exact Facts.g_check_seats (by assumption) | exact Facts.g_check_seat_count (by assumption) | exact Facts.g_check_bills (by assumption) | exact Facts.g_check_mark (by assumption) | exact Facts.g_check_times (by assumption) | exact Facts.g_no_shares (by assumption) | exact Facts.g_seats_behind (by assumption) | exact Facts.g_split_bill (by assumption) | exact Facts.g_twice (by assumption) | exact Facts.g_repeated (by assumption) | exact Facts.g_lowest_terms (by assumption) | exact Facts.g_long_run (by assumption) | exact Facts.g_marks_after (by assumption) | exact Facts.g_known_after (by assumption) | exact Facts.g_evening_of_few (by assumption) | exact Facts.g_reset (by assumption) | exact Facts.g_telling (by assumption) | exact Facts.g_share_for_bill (by assumption) | exact Facts.g_paid_from_each_mark (by assumption) | exact Facts.g_widest_gap (by assumption) | exact Facts.g_best_mark (by assumption) | exact Facts.g_longer_ways (by assumption) | exact Facts.g_spread_of (by assumption) | exact Facts.g_fairest_order (by assumption) | exact Facts.g__law_start (by assumption) | exact Facts.g__law_drawn (by assumption) | exact Facts.g__law_all_there (by assumption) | exact Facts.g__law_two_and_all (by assumption) | exact Facts.g_law (by assumption) | exact Facts.g_Shares (by assumption) | exact Facts.g_Bill (by assumption) | exact Facts.g_Evening (by assumption) | exact Facts.g_MarkObserver (by assumption))
local macro_rules | `(tactic| walk_at "kp") => `(tactic| first | assumption | exact (Facts.mk_Shares (by assumption)).kp | exact (Facts.mk_Bill (by assumption)).kp | exact (Facts.mk_Evening (by assumption)).kp | exact (Facts.mk_MarkObserver (by assumption)).kp | exact Fun.kp (Facts.u__wall (by assumption)).choose_spec | exact Fun.kp (Facts.u_is_between (by assumption)).choose_spec | exact Fun.kp (Facts.u_check_seat (by assumption)).choose_spec | exact Fun.kp (Facts.u_check_amount (by assumption)).choose_spec | exact Fun.kp (Facts.u_check_seats (by assumption)).choose_spec | exact Fun.kp (Facts.u_check_seat_count (by assumption)).choose_spec | exact Fun.kp (Facts.u_check_bills (by assumption)).choose_spec | exact Fun.kp (Facts.u_check_mark (by assumption)).choose_spec | exact Fun.kp (Facts.u_check_times (by assumption)).choose_spec | exact Fun.kp (Facts.u_no_shares (by assumption)).choose_spec | exact Fun.kp (Facts.u_seats_behind (by assumption)).choose_spec | exact Fun.kp (Facts.u_split_bill (by assumption)).choose_spec | exact Fun.kp (Facts.u_twice (by assumption)).choose_spec | exact Fun.kp (Facts.u_repeated (by assumption)).choose_spec | exact Fun.kp (Facts.u_lowest_terms (by assumption)).choose_spec | exact Fun.kp (Facts.u_long_run (by assumption)).choose_spec | exact Fun.kp (Facts.u_marks_after (by assumption)).choose_spec | exact Fun.kp (Facts.u_known_after (by assumption)).choose_spec | exact Fun.kp (Facts.u_evening_of_few (by assumption)).choose_spec | exact Fun.kp (Facts.u_reset (by assumption)).choose_spec | exact Fun.kp (Facts.u_telling (by assumption)).choose_spec | exact Fun.kp (Facts.u_share_for_bill (by assumption)).choose_spec | exact Fun.kp (Facts.u_paid_from_each_mark (by assumption)).choose_spec | exact Fun.kp (Facts.u_widest_gap (by assumption)).choose_spec | exact Fun.kp (Facts.u_best_mark (by assumption)).choose_spec | exact Fun.kp (Facts.u_longer_ways (by assumption)).choose_spec | exact Fun.kp (Facts.u_spread_of (by assumption)).choose_spec | exact Fun.kp (Facts.u_fairest_order (by assumption)).choose_spec | exact Fun.kp (Facts.u__law_start (by assumption)).choose_spec | exact Fun.kp (Facts.u__law_drawn (by assumption)).choose_spec | exact Fun.kp (Facts.u__law_all_there (by assumption)).choose_spec | exact Fun.kp (Facts.u__law_two_and_all (by assumption)).choose_spec | exact Fun.kp (Facts.u_law (by assumption)).choose_spec)
/-! ### k13: what is known of tables at which all are there -/
theorem evRun_app (n : Nat) (m : Int) (xs : List (Int × List Int)) : ∀ (k : Nat) (ys : List (Int × List Int)), ys.length = k → evRun n m (xs ++ ys) = (zadd (evRun n m xs).1 (evRun n (evRun n m xs).2 ys).1, (evRun n (evRun n m xs).2 ys).2)
  | 0, ys, h => by
    rw [List.length_eq_zero_iff.1 h, List.append_nil]
    show _ = (zadd _ (List.replicate n 0), _)
    rw [zadd_zero' n _ (evRun_len ..)]
    rfl
  | k + 1, ys, h => by
    obtain ⟨l, b, rfl⟩ : ∃ l b, ys = l ++ [b] := ⟨ys.dropLast, ys.getLast (by intro z; rw [z] at h; cases h), (List.dropLast_concat_getLast _).symm⟩
    rw [List.length_append, List.length_singleton] at h
    rw [← List.append_assoc, evRun_snoc, evRun_app n m xs k l (by omega), evRun_snoc]
    show (zadd (zadd _ _) _, _) = (zadd _ (zadd _ _), _)
    rw [zadd_assoc]
theorem rep_flat (n : Nat) (bs : List (Int × List Int)) (m : Int) : ∀ t : Nat, evRun n m (List.replicate t bs).flatten = repRun n bs t m
  | 0 => rfl
  | t + 1 => by
    rw [List.replicate_succ', List.flatten_append, List.flatten_singleton, evRun_app n m _ bs.length bs rfl, rep_flat n bs m t]
    rfl
theorem flat_one (x : Int) (f : List Int) : ∀ t : Nat, (List.replicate t [(x, f)]).flatten = (List.replicate t x).map fun y => (y, f)
  | 0 => rfl
  | t + 1 => by
    rw [List.replicate_succ, List.replicate_succ, List.flatten_cons, flat_one x f t]
    rfl
section
variable {n : Nat} {m A : Int}
theorem rep_full (h : 2 ≤ n) (h8 : n ≤ 8) (h0 : 0 ≤ m) (h1 : m < (n : Int)) (t : Nat) : (∀ s, 0 ≤ s → s < (n : Int) → (repRun n [(A, full n)] t m).1.getD s.toNat 0 = cellv n m ((t : Int) * A) s) ∧ (repRun n [(A, full n)] t m).2 = pl n m (((t : Int) * A) % (n : Int)).toNat := by
  have e := run_full (n := n) (m := m) h h8 h0 h1 t (List.replicate t A) (by rw [List.length_replicate])
  rw [← flat_one A (full n) t, rep_flat, List.sum_replicate_int] at e
  exact e
theorem rep_spread (h : 2 ≤ n) (h8 : n ≤ 8) (h0 : 0 ≤ m) (h1 : m < (n : Int)) (t : Nat) : maxI (repRun n [(A, full n)] t m).1 - minI (repRun n [(A, full n)] t m).1 ≤ 1 := by
  have e := spread_full (n := n) (m := m) h h8 h0 h1 (List.replicate t A)
  rw [← flat_one A (full n) t, rep_flat] at e
  exact e
theorem rep_sum (hA : RowOk n (A, full n)) (t : Nat) : (repRun n [(A, full n)] t m).1.sum = (t : Int) * A := by
  have e := sum_run n m t ((List.replicate t A).map fun y => (y, full n)) (by rw [List.length_map, List.length_replicate]) fun b hb => by
    obtain ⟨y, hy, rfl⟩ := List.mem_map.1 hb
    rw [List.eq_of_mem_replicate hy]
    exact hA
  rw [← flat_one A (full n) t, rep_flat, flat_one, List.map_map] at e
  rw [e, show (Prod.fst ∘ fun y : Int => (y, full n)) = id from rfl, List.map_id, List.sum_replicate_int]
theorem em_up (h : 2 ≤ n) {x : Int} (h1 : -(n : Int) ≤ x) (h2 : x < 0) : x % (n : Int) = x + n := by
  have := Int.add_mul_emod_self_left x (n : Int) 1
  rw [Int.mul_one] at this
  rw [← this, Int.emod_eq_of_lt (by omega) (by omega)]
theorem em_dn (h : 2 ≤ n) {x : Int} (h1 : (n : Int) ≤ x) (h2 : x < 2 * (n : Int)) : x % (n : Int) = x - n := by
  have := Int.add_mul_emod_self_left x (n : Int) (-1)
  rw [Int.mul_neg, Int.mul_one] at this
  rw [← this, Int.emod_eq_of_lt (by omega) (by omega)]
  omega
theorem pl_mod (h : 2 ≤ n) (h0 : 0 ≤ m) (h1 : m < (n : Int)) (x : Int) : pl n m (x % (n : Int)).toNat = (m + x) % (n : Int) := by
  have r0 : 0 ≤ x % (n : Int) := Int.emod_nonneg _ (by omega)
  have r1 : x % (n : Int) < (n : Int) := Int.emod_lt_of_pos _ (by omega)
  have e : (m + x) % (n : Int) = (m + x % (n : Int)) % (n : Int) := by
    have := Int.mul_ediv_add_emod x (n : Int)
    have e2 := Int.add_mul_emod_self_left (m + x % (n : Int)) (n : Int) (x / (n : Int))
    rw [← e2]
    congr 1
    omega
  rw [e]
  generalize x % (n : Int) = r at *
  unfold pl
  split
  · rw [Int.emod_eq_of_lt (by omega) (by omega)]
    omega
  · rw [em_dn h (by omega) (by omega)]
    omega
theorem mul_mod (h : 2 ≤ n) (t x : Int) : (t * x) % (n : Int) = (t * (x % (n : Int))) % (n : Int) := by
  have := Int.mul_ediv_add_emod x (n : Int)
  have e2 := Int.add_mul_emod_self_left (t * (x % (n : Int))) (n : Int) (t * (x / (n : Int)))
  rw [← e2]
  congr 1
  have e3 : t * x = t * ((n : Int) * (x / (n : Int)) + x % (n : Int)) := by rw [this]
  rw [e3, Int.mul_add]
  have e4 : t * ((n : Int) * (x / (n : Int))) = (n : Int) * (t * (x / (n : Int))) := by rw [← Int.mul_assoc, Int.mul_comm t, Int.mul_assoc]
  rw [e4]
  omega
theorem dst_mod (h : 2 ≤ n) (h0 : 0 ≤ m) (h1 : m < (n : Int)) {s : Int} (s0 : 0 ≤ s) (s1 : s < (n : Int)) : dst n m s = (s - m - 1) % (n : Int) := by
  unfold dst
  split
  · rw [Int.emod_eq_of_lt (by omega) (by omega)]
  · rw [em_up h (by omega) (by omega)]
theorem div_at (h : 2 ≤ n) (q : Int) {z : Int} (h1 : (n : Int) * q ≤ z) (h2 : z < (n : Int) * q + n) : z / (n : Int) = q := by
  have e : z = (z - (n : Int) * q) + (n : Int) * q := by omega
  rw [e, Int.add_mul_ediv_left _ _ (by omega), Int.ediv_eq_zero_of_lt (by omega) (by omega)]
  omega
theorem cell_form (h : 2 ≤ n) (h0 : 0 ≤ m) (h1 : m < (n : Int)) {s : Int} (s0 : 0 ≤ s) (s1 : s < (n : Int)) (t : Int) : cellv n m (t * A) s = t * (A / (n : Int)) + (t * (A % (n : Int)) + (n : Int) - 1 - (s - m - 1) % (n : Int)) / (n : Int) := by
  unfold cellv
  rw [mul_mod h, ← dst_mod h h0 h1 s0 s1]
  have d0 : 0 ≤ dst n m s ∧ dst n m s < (n : Int) := by
    rw [dst_mod h h0 h1 s0 s1]
    exact ⟨Int.emod_nonneg _ (by omega), Int.emod_lt_of_pos _ (by omega)⟩
  have e1 : t * A / (n : Int) = t * (A / (n : Int)) + t * (A % (n : Int)) / (n : Int) := by
    have := Int.mul_ediv_add_emod A (n : Int)
    have e3 : t * A = t * (A % (n : Int)) + (n : Int) * (t * (A / (n : Int))) := by
      have e4 : t * A = t * ((n : Int) * (A / (n : Int)) + A % (n : Int)) := by rw [this]
      rw [e4, Int.mul_add]
      have e5 : t * ((n : Int) * (A / (n : Int))) = (n : Int) * (t * (A / (n : Int))) := by rw [← Int.mul_assoc, Int.mul_comm t, Int.mul_assoc]
      rw [e5]
      omega
    rw [e3, Int.add_mul_ediv_left _ _ (by omega)]
    omega
  rw [e1]
  generalize t * (A % (n : Int)) = y
  have hy := Int.mul_ediv_add_emod y (n : Int)
  have r0 : 0 ≤ y % (n : Int) := Int.emod_nonneg _ (by omega)
  have r1 : y % (n : Int) < (n : Int) := Int.emod_lt_of_pos _ (by omega)
  generalize dst n m s = d at *
  split
  · rw [div_at (n := n) (z := y + (n : Int) - 1 - d) h (y / (n : Int) + 1) (by rw [Int.mul_add]; omega) (by rw [Int.mul_add]; omega)]
    omega
  · rw [div_at (n := n) (z := y + (n : Int) - 1 - d) h (y / (n : Int)) (by omega) (by omega)]
    omega
/-- all marks stay possible -/
theorem aft_full (h : 2 ≤ n) (h8 : n ≤ 8) : aft n (A, full n) (List.range n) = List.range n := by
  unfold aft
  refine List.filter_eq_self.2 fun k hk => decide_eq_true (List.mem_map.2 ?_)
  have hk := List.mem_range.1 hk
  have r0 : 0 ≤ A % (n : Int) := Int.emod_nonneg _ (by omega)
  have r1 : A % (n : Int) < (n : Int) := Int.emod_lt_of_pos _ (by omega)
  obtain ⟨o, ho⟩ := Int.eq_ofNat_of_zero_le r0
  refine ⟨if o ≤ k then k - o else k + n - o, List.mem_range.2 (by split <;> omega), ?_⟩
  rw [mark_full h h8 (by omega) (by split <;> omega), ho, Int.toNat_natCast]
  unfold pl
  split <;> split <;> omega
theorem known_full (h : 2 ≤ n) (h8 : n ≤ 8) : knownV n [(A, full n)] = .non := by
  have e : ∀ j, mkA n [(A, full n)] j = List.range n := fun j => by
    induction j with
    | zero => rfl
    | succ j ih =>
      show aft n ([(A, full n)].getD (j % 1) (0, [])) (mkA n [(A, full n)] j) = _
      rw [ih, Nat.mod_one]
      exact aft_full h h8
  exact fstP_none _ _ _ fun k _ => decide_eq_false (by rw [e, List.length_range]; omega)
theorem gap_full (h : 2 ≤ n) (h8 : n ≤ 8) (t : Nat) : maxI (paidEach n [(A, full n)] t 0 n) - minI (paidEach n [(A, full n)] t 0 n) = if 0 < ((t : Int) * (A % (n : Int))) % (n : Int) then 1 else 0 := by
  rw [← mul_mod h]
  have e : paidEach n [(A, full n)] t 0 n = (List.range n).map fun k : Nat => (t : Int) * A / (n : Int) + if (n : Int) - 1 - (k : Int) < ((t : Int) * A) % (n : Int) then 1 else 0 := by
    unfold paidEach
    refine List.map_congr_left fun k hk => ?_
    have hk := List.mem_range.1 hk
    have := (rep_full (A := A) h h8 (m := (k : Int)) (by omega) (by omega) t).1 0 (Int.le_refl _) (by omega)
    rw [show (0 : Int).toNat = 0 from rfl] at this
    rw [this]
    unfold cellv dst
    rw [if_neg (show ¬ (k : Int) < 0 by omega), show (0 : Int) - (k : Int) - 1 + (n : Int) = (n : Int) - 1 - (k : Int) by omega]
  rw [e]
  generalize (t : Int) * A / (n : Int) = q
  have r0 : 0 ≤ ((t : Int) * A) % (n : Int) := Int.emod_nonneg _ (by omega)
  have r1 : ((t : Int) * A) % (n : Int) < (n : Int) := Int.emod_lt_of_pos _ (by omega)
  generalize ((t : Int) * A) % (n : Int) = r at *
  by_cases hr : 0 < r
  · rw [if_pos hr, ← max_one (m := q + 1) (List.mem_map.2 ⟨n - 1, List.mem_range.2 (by omega), by rw [if_pos (by omega)]⟩) (fun y hy => by
      obtain ⟨k, hk, rfl⟩ := List.mem_map.1 hy
      split <;> omega), ← min_one (m := q) (List.mem_map.2 ⟨0, List.mem_range.2 (by omega), by rw [if_neg (by omega)]; omega⟩) (fun y hy => by
      obtain ⟨k, hk, rfl⟩ := List.mem_map.1 hy
      split <;> omega)]
    omega
  · rw [if_neg hr, ← max_one (m := q) (List.mem_map.2 ⟨0, List.mem_range.2 (by omega), by rw [if_neg (by omega)]; omega⟩) (fun y hy => by
      obtain ⟨k, hk, rfl⟩ := List.mem_map.1 hy
      have := List.mem_range.1 hk
      rw [if_neg (by omega)]
      omega), ← min_one (m := q) (List.mem_map.2 ⟨0, List.mem_range.2 (by omega), by rw [if_neg (by omega)]; omega⟩) (fun y hy => by
      obtain ⟨k, hk, rfl⟩ := List.mem_map.1 hy
      have := List.mem_range.1 hk
      rw [if_neg (by omega)]
      omega)]
    omega
/-- the long run of an evening for which all are there -/
theorem long_full (h : 2 ≤ n) (h8 : n ≤ 8) {y : Int} (h0 : 0 ≤ y) (h1 : y < (n : Int)) {L i : Nat} (hL1 : 1 ≤ L) (hi : i < n) (hL : (repRun n [(A, full n)] L y).2 = y) : frac (cst n [(A, full n)] L y i) L = frac A n := by
  obtain ⟨c1, c2⟩ := rep_full (A := A) h h8 h0 h1 L
  rw [hL] at c2
  have r0 : 0 ≤ ((L : Int) * A) % (n : Int) := Int.emod_nonneg _ (by omega)
  have r1 : ((L : Int) * A) % (n : Int) < (n : Int) := Int.emod_lt_of_pos _ (by omega)
  have hz : ((L : Int) * A) % (n : Int) = 0 := by
    unfold pl at c2
    split at c2 <;> omega
  have hc := c1 (i : Int) (by omega) (by omega)
  rw [Int.toNat_natCast] at hc
  have d0 : 0 ≤ dst n y (i : Int) := by
    rw [dst_mod h h0 h1 (by omega) (by omega)]
    exact Int.emod_nonneg _ (by omega)
  unfold cellv at hc
  rw [if_neg (by omega), Int.add_zero] at hc
  refine frac_eq hL1 (by omega) ?_
  unfold cst
  rw [hc]
  have := Int.mul_ediv_add_emod ((L : Int) * A) (n : Int)
  rw [Int.mul_comm, Int.mul_comm A]
  omega
end
/-- the last of the common divisors -/
theorem common_last {A : Int} {n : Nat} (hn : 1 ≤ n) : ∃ l : List Int, (((List.range n).map fun i : Nat => (1 : Int) + (i : Int)).filter fun k => decide (A % k = 0) && decide ((n : Int) % k = 0)) = l ++ [((Nat.gcd A.natAbs n : Nat) : Int)] := by
  have g1 : 1 ≤ Nat.gcd A.natAbs n := Nat.gcd_pos_of_pos_right _ (by omega)
  have g2 : Nat.gcd A.natAbs n ≤ n := Nat.le_of_dvd (by omega) (Nat.gcd_dvd_right ..)
  have dA : A % ((Nat.gcd A.natAbs n : Nat) : Int) = 0 := Int.emod_eq_zero_of_dvd (Int.ofNat_dvd_left.2 (Nat.gcd_dvd_left ..))
  have dn : (n : Int) % ((Nat.gcd A.natAbs n : Nat) : Int) = 0 := Int.emod_eq_zero_of_dvd (Int.natCast_dvd_natCast.2 (Nat.gcd_dvd_right ..))
  have big : ∀ k : Nat, Nat.gcd A.natAbs n < k → ¬ (A % (k : Int) = 0 ∧ (n : Int) % (k : Int) = 0) := fun k hk ⟨e1, e2⟩ => by
    have b1 : k ∣ A.natAbs := Int.ofNat_dvd_left.1 (Int.dvd_of_emod_eq_zero e1)
    have b2 : k ∣ n := Int.natCast_dvd_natCast.1 (Int.dvd_of_emod_eq_zero e2)
    have := Nat.le_of_dvd (by omega) (Nat.dvd_gcd b1 b2)
    omega
  generalize Nat.gcd A.natAbs n = g at *
  have e : List.range n = List.range (g - 1) ++ [g - 1] ++ (List.range (n - g)).map (fun i => g + i) := by
    have e1 : List.range n = List.range (g + (n - g)) := by rw [show g + (n - g) = n by omega]
    rw [e1, List.range_add, ← List.range_succ, show (g - 1).succ = g by omega]
  refine ⟨((List.range (g - 1)).map fun i : Nat => (1 : Int) + (i : Int)).filter fun k => decide (A % k = 0) && decide ((n : Int) % k = 0), ?_⟩
  rw [e, List.map_append, List.map_append, List.filter_append, List.filter_append]
  have e3 : (((List.range (n - g)).map (fun i => g + i)).map fun i : Nat => (1 : Int) + (i : Int)).filter (fun k => decide (A % k = 0) && decide ((n : Int) % k = 0)) = [] := by
    refine List.filter_eq_nil_iff.2 fun x hx => ?_
    rw [List.map_map] at hx
    obtain ⟨i, _, rfl⟩ := List.mem_map.1 hx
    have := big (1 + (g + i)) (by omega)
    show ¬ (decide (A % ((1 : Int) + ((g + i : Nat) : Int)) = 0) && decide ((n : Int) % ((1 : Int) + ((g + i : Nat) : Int)) = 0)) = true
    rw [Bool.and_eq_true, decide_eq_true_iff, decide_eq_true_iff]
    rw [show ((1 + (g + i) : Nat) : Int) = (1 : Int) + ((g + i : Nat) : Int) by omega] at this
    exact this
  rw [e3, List.append_nil]
  congr 1
  rw [List.map_cons, List.map_nil, show (1 : Int) + ((g - 1 : Nat) : Int) = (g : Int) by omega, List.filter_cons_of_pos (by rw [dA, dn]; rfl)]
  rfl

end Odd

namespace Odd
open PySem PySem.Spec PyProof.Rows L2
/-! tactics of this text: st one step, go as many as go -/
local macro_rules | `(tactic| walk_at "ar") => `(tactic| first | assumption | omega | (show (_ : Int) < _; omega) | decide)
local macro_rules | `(tactic| walk_at "st") => `(tactic| first
  | with_reducible refine' w_seq ?_
  | with_reducible refine' w_asg ?_
  | with_reducible refine' w_name ?_
  | with_reducible refine' w_c ?_
  | with_reducible refine' w_op ?_
  | with_reducible refine' w_ix ?_
  | with_reducible refine' w_at ?_
  | with_reducible refine' w_cons ?_
  | with_reducible refine' w_nil ?_
  | with_reducible refine' w_ret ?_
  | with_reducible refine' w_if ?_
  | with_reducible refine' w_test ?_
  | with_reducible refine' w_tr ?_
  | with_reducible refine' w_un ?_
  | with_reducible refine' w_andV ?_
  | with_reducible refine' w_orV ?_
  | with_reducible refine' w_notA ?_
  | with_reducible refine' w_ch ?_
  | with_reducible refine' w_and ?_
  | with_reducible refine' w_or ?_
  | with_reducible refine' w_not ?_
  | with_reducible refine' w_ifx ?_
  | with_reducible refine' w_tup ?_
  | with_reducible refine' w_lst ?_
  | with_reducible refine' w_next ?_
  | with_reducible refine' w_drop ?_
  | with_reducible refine' w_retN ?_
  | ((with_reducible refine' w_var ?h ?_); (case h => exact rfl))
  | ((with_reducible refine' w_bi ?h ?_); (case h => walk_at "mg"))
  | ((with_reducible refine' w_bv ?h ?_); (case h => walk_at "mg"))
  | ((with_reducible refine' w_gv ?h ?_); (case h => walk_at "mg"))
  | ((with_reducible refine' w_gl ?h ?k ?_); (case h => walk_at "mg"); (case k => walk_at "kp"))
  | ((with_reducible refine' w_glS ?h ?k ?_); (case h => walk_at "mg"); (case k => walk_at "kp"))
  | with_reducible refine' bl_ex ?_
  | with_reducible refine' iteT ?_
  | with_reducible refine' iteF ?_
  | with_reducible refine' ite_nf ?_
  | with_reducible refine' ite_nt ?_
  | with_reducible refine' s_add ?_
  | with_reducible refine' s_sub ?_
  | with_reducible refine' s_lt ?_
  | with_reducible refine' s_le ?_
  | with_reducible refine' s_gt ?_
  | with_reducible refine' s_ge ?_
  | with_reducible refine' s_eqI ?_
  | with_reducible refine' s_neI ?_
  | with_reducible refine' s_eqB ?_
  | with_reducible refine' s_neB ?_
  | with_reducible refine' s_truB ?_
  | with_reducible refine' s_truI ?_
  | with_reducible refine' s_neg ?_
  | ((with_reducible refine' s_mod ?h ?_); (case h => walk_at "ar")))
local macro_rules | `(tactic| walk_at "go") => `(tactic| repeat walk_at "st")

local macro_rules | `(tactic| walk_at "mg") => `(tactic| first | assumption | exact Facts.z_TypeError (by assumption) | exact Facts.z_abs (by assumption) | exact Facts.z_bool (by assumption) | exact Facts.z_classmethod (by assumption) | exact Facts.z_divmod (by assumption) | exact Facts.z_enumerate (by assumption) | exact Facts.z_int (by assumption) | exact Facts.z_isinstance (by assumption) | exact Facts.z_len (by assumption) | exact Facts.z_list (by assumption) | exact Facts.z_max (by assumption) | exact Facts.z_min (by assumption) | exact Facts.z_property (by assumption) | exact Facts.z_range (by assumption) | exact Facts.z_sorted (by assumption) | exact Facts.z_sum (by assumption) | exact Facts.z_super (by assumption) | exact Facts.z_tuple (by assumption) | exact Facts.z_zip (by assumption) | exact Facts.g__wall (by assumption) | exact Facts.g_is_between (by assumption) | exact Facts.g_check_seat (by assumption) | exact Facts.g_check_amount (by assumption) | exact Facts.g_check_seats (by assumption) | exact Facts.g_check_seat_count (by assumption) | exact Facts.g_check_bills (by assumption) | exact Facts.g_check_mark (by assumption) | exact Facts.g_check_times (by assumption) | exact Facts.g_no_shares (by assumption) | exact Facts.g_seats_behind (by assumption) | exact Facts.g_split_bill (by assumption) | exact Facts.g_twice (by assumption) | exact Facts.g_repeated (by assumption) | exact Facts.g_lowest_terms (by assumption) | exact Facts.g_long_run (by assumption) | exact Facts.g_marks_after (by assumption) | exact Facts.g_known_after (by assumption) | exact Facts.g_evening_of_few (by assumption) | exact Facts.g_reset (by assumption) | exact Facts.g_telling (by assumption) | exact Facts.g_share_for_bill (by assumption) | exact Facts.g_paid_from_each_mark (by assumption) | exact Facts.g_widest_gap (by assumption) | exact Facts.g_best_mark (by assumption) | exact Facts.g_longer_ways (by assumption) | exact Facts.g_spread_of (by assumption) | exact Facts.g_fairest_order (by assumption) | exact Facts.g__law_start (by assumption) | exact Facts.g__law_drawn (by assumption) | exact Facts.g__law_all_there (by assumption) | exact Facts.g__law_two_and_all (by assumption) | exact Facts.g_law (by assumption) | exact Facts.g_Shares (by assumption) | exact Facts.g_Bill (by assumption) | exact Facts.g_Evening (by assumption) | exact Facts.g_MarkObserver (by assumption))
local macro_rules | `(tactic| walk_at "kp") => `(tactic| first | assumption | exact (Facts.mk_Shares (by assumption)).kp | exact (Facts.mk_Bill (by assumption)).kp | exact (Facts.mk_Evening (by assumption)).kp | exact (Facts.mk_MarkObserver (by assumption)).kp | exact Fun.kp (Facts.u__wall (by assumption)).choose_spec | exact Fun.kp (Facts.u_is_between (by assumption)).choose_spec | exact Fun.kp (Facts.u_check_seat (by assumption)).choose_spec | exact Fun.kp (Facts.u_check_amount (by assumption)).choose_spec | exact Fun.kp (Facts.u_check_seats (by assumption)).choose_spec | exact Fun.kp (Facts.u_check_seat_count (by assumption)).choose_spec | exact Fun.kp (Facts.u_check_bills (by assumption)).choose_spec | exact Fun.kp (Facts.u_check_mark (by assumption)).choose_spec | exact Fun.kp (Facts.u_check_times (by assumption)).choose_spec | exact Fun.kp (Facts.u_no_shares (by assumption)).choose_spec | exact Fun.kp (Facts.u_seats_behind (by assumption)).choose_spec | exact Fun.kp (Facts.u_split_bill (by assumption)).choose_spec | exact Fun.kp (Facts.u_twice (by assumption)).choose_spec | exact Fun.kp (Facts.u_repeated (by assumption)).choose_spec | exact Fun.kp (Facts.u_lowest_terms (by assumption)).choose_spec | exact Fun.kp (Facts.u_long_run (by assumption)).choose_spec | exact Fun.kp (Facts.u_marks_after (by assumption)).choose_spec | exact Fun.kp (Facts.u_known_after (by assumption)).choose_spec | exact Fun.kp (Facts.u_evening_of_few (by assumption)).choose_spec | exact Fun.kp (Facts.u_reset (by assumption)).choose_spec | exact Fun.kp (Facts.u_telling (by assumption)).choose_spec | exact Fun.kp (Facts.u_share_for_bill (by assumption)).choose_spec | exact Fun.kp (Facts.u_paid_from_each_mark (by assumption)).choose_spec | exact Fun.kp (Facts.u_widest_gap (by assumption)).choose_spec | exact Fun.kp (Facts.u_best_mark (by assumption)).choose_spec | exact Fun.kp (Facts.u_longer_ways (by assumption)).choose_spec | exact Fun.kp (Facts.u_spread_of (by assumption)).choose_spec | exact Fun.kp (Facts.u_fairest_order (by assumption)).choose_spec | exact Fun.kp (Facts.u__law_start (by assumption)).choose_spec | exact Fun.kp (Facts.u__law_drawn (by assumption)).choose_spec | exact Fun.kp (Facts.u__law_all_there (by assumption)).choose_spec | exact Fun.kp (Facts.u__law_two_and_all (by assumption)).choose_spec | exact Fun.kp (Facts.u_law (by assumption)).choose_spec)
/-! ### k13: bills whose shares are known -/
def res (b : Int × List Int) : Int × List Int := (b.1 % (b.2.length : Nat), b.2)
theorem payers_res (m : Int) (b : Int × List Int) : payers m (res b) = payers m b := by
  unfold payers res
  rw [Int.emod_emod]
theorem aft_res (n : Nat) (b : Int × List Int) (ms : List Nat) : aft n (res b) ms = aft n b ms := by
  unfold aft splitM
  refine List.filter_congr fun k _ => ?_
  rw [List.map_congr_left fun m _ => by rw [payers_res]]
theorem getD_res (bs : List (Int × List Int)) (i : Nat) : (bs.map res).getD i (0, []) = res (bs.getD i (0, [])) := by
  rw [List.getD_eq_getElem?_getD, List.getD_eq_getElem?_getD, List.getElem?_map]
  cases bs[i]? with
  | none => rfl
  | some b => rfl
theorem mkA_res (n : Nat) (bs : List (Int × List Int)) : ∀ j, mkA n (bs.map res) j = mkA n bs j
  | 0 => rfl
  | j + 1 => by
    show aft n ((bs.map res).getD (j % (bs.map res).length) (0, [])) (mkA n (bs.map res) j) = aft n (bs.getD (j % bs.length) (0, [])) (mkA n bs j)
    rw [mkA_res n bs j, List.length_map, getD_res, aft_res]
theorem known_res (n : Nat) (bs : List (Int × List Int)) : knownV n (bs.map res) = knownV n bs := by
  unfold knownV
  rw [List.length_map]
  congr 1
  funext j
  rw [mkA_res]
theorem stepB_res (n : Nat) (ms w : List Nat) (j : Nat) (b : Int × List Int) (x : Dct × List (List Nat)) : stepB n ms w j (res b) x = stepB n ms w j b x := by
  unfold stepB
  rw [aft_res]
theorem stepsB_res (n : Nat) (bs : List (Int × List Int)) (ms w : List Nat) (x : Dct × List (List Nat)) : ∀ k, stepsB n (bs.map res) ms w k x = stepsB n bs ms w k x
  | 0 => rfl
  | k + 1 => by
    show (stepsB n (bs.map res) ms w k x).bind (stepB n ms w k ((bs.map res).getD k (0, []))) = (stepsB n bs ms w k x).bind (stepB n ms w k (bs.getD k (0, [])))
    rw [stepsB_res n bs ms w x k, getD_res]
    congr 1
    funext y
    rw [stepB_res]
theorem levelB_res (n : Nat) (bs : List (Int × List Int)) (L : List (List Nat)) (D : Dct) : ∀ i, levelB n (bs.map res) L D i = levelB n bs L D i
  | 0 => rfl
  | i + 1 => by
    show (levelB n (bs.map res) L D i).bind _ = (levelB n bs L D i).bind _
    rw [levelB_res n bs L D i]
    congr 1
    funext x
    rw [List.length_map, stepsB_res]
theorem runB_res (n : Nat) (bs : List (Int × List Int)) : ∀ (f : Nat) (D : Dct) (L : List (List Nat)), runB n (bs.map res) f D L = runB n bs f D L
  | 0, _, _ => rfl
  | f + 1, D, L => by
    unfold runB
    rw [levelB_res]
    split
    · rfl
    · cases levelB n bs L D L.length with
      | error w => rfl
      | ok x => exact runB_res n bs f x.1 x.2
theorem reset_res (n : Nat) (bs : List (Int × List Int)) : resetV n (bs.map res) = resetV n bs := runB_res n bs _ _ _
section
variable {c : Int}
/-- the two bills -/
def bA (c : Int) : Int × List Int := (3 * c + 1, [0, 1, 2])
def bB (c : Int) : Int × List Int := (2 * c + 1, [0, 2])
def bC (c : Int) : Int × List Int := (c * 3, [0, 1, 2])
theorem res_A : res (bA c) = (1, [0, 1, 2]) := by
  show ((3 * c + 1) % 3, [0, 1, 2]) = _
  rw [show (3 * c + 1) % 3 = 1 by omega]
theorem res_B : res (bB c) = (1, [0, 2]) := by
  show ((2 * c + 1) % 2, [0, 2]) = _
  rw [show (2 * c + 1) % 2 = 1 by omega]
theorem known_two : knownV 3 [bA c, bB c] = .int 4 := by
  rw [← known_res]
  show knownV 3 [res (bA c), res (bB c)] = _
  rw [res_A, res_B]
  rfl
theorem reset_two : resetV 3 [bA c, bB c] = some [1, 0, 1] := by
  rw [← reset_res]
  show resetV 3 [res (bA c), res (bB c)] = _
  rw [res_A, res_B]
  rfl
theorem reset_one : resetV 3 [bA c] = none := by
  rw [← reset_res]
  show resetV 3 [res (bA c)] = _
  rw [res_A]
  rfl
theorem odd_A : oddB (bA c) = true := decide_eq_true (show 0 < (3 * c + 1) % 3 by omega)
theorem odd_B : oddB (bB c) = true := decide_eq_true (show 0 < (2 * c + 1) % 2 by omega)
theorem odd_C : oddB (bC c) = false := decide_eq_false (show ¬ 0 < (c * 3) % 3 by omega)
theorem split_A (m : Int) : splitC 3 m (bA c) = bumps [c, c, c] ((behind m [0, 1, 2]).take 1) ∧ splitM m (bA c) = ((behind m [0, 1, 2]).take 1).getLastD m := by
  unfold splitC splitM payers
  show bumps (baseC 3 ((3 * c + 1) / 3) [0, 1, 2]) ((behind m [0, 1, 2]).take ((3 * c + 1) % 3).toNat) = _ ∧ ((behind m [0, 1, 2]).take ((3 * c + 1) % 3).toNat).getLastD m = _
  rw [show (3 * c + 1) % 3 = 1 by omega, show (3 * c + 1) / 3 = c by omega]
  exact ⟨rfl, rfl⟩
theorem split_B (m : Int) : splitC 3 m (bB c) = bumps [c, 0, c] ((behind m [0, 2]).take 1) ∧ splitM m (bB c) = ((behind m [0, 2]).take 1).getLastD m := by
  unfold splitC splitM payers
  show bumps (baseC 3 ((2 * c + 1) / 2) [0, 2]) ((behind m [0, 2]).take ((2 * c + 1) % 2).toNat) = _ ∧ ((behind m [0, 2]).take ((2 * c + 1) % 2).toNat).getLastD m = _
  rw [show (2 * c + 1) % 2 = 1 by omega, show (2 * c + 1) / 2 = c by omega]
  exact ⟨rfl, rfl⟩
theorem A0 : splitC 3 0 (bA c) = [c, c + 1, c] ∧ splitM 0 (bA c) = 1 := split_A 0
theorem A1 : splitC 3 1 (bA c) = [c, c, c + 1] ∧ splitM 1 (bA c) = 2 := split_A 1
theorem A2 : splitC 3 2 (bA c) = [c + 1, c, c] ∧ splitM 2 (bA c) = 0 := split_A 2
theorem B0 : splitC 3 0 (bB c) = [c, 0, c + 1] ∧ splitM 0 (bB c) = 2 := split_B 0
theorem B1 : splitC 3 1 (bB c) = [c, 0, c + 1] ∧ splitM 1 (bB c) = 2 := split_B 1
theorem B2 : splitC 3 2 (bB c) = [c + 1, 0, c] ∧ splitM 2 (bB c) = 0 := split_B 2
theorem ev_two (m : Int) (x y : Int × List Int) : evRun 3 m [x, y] = (zadd (zadd [0, 0, 0] (splitC 3 m x)) (splitC 3 (splitM m x) y), splitM (splitM m x) y) := rfl
theorem ev0 : evRun 3 0 [bA c, bB c] = ([2 * c, c + 1, 2 * c + 1], 2) := by
  rw [ev_two, A0.2, A0.1, B1.1, B1.2]
  show ([0 + c + c, 0 + (c + 1) + 0, 0 + c + (c + 1)], (2 : Int)) = _
  rw [show 0 + c + c = 2 * c by omega, show 0 + (c + 1) + 0 = c + 1 by omega, show 0 + c + (c + 1) = 2 * c + 1 by omega]
theorem ev1 : evRun 3 1 [bA c, bB c] = ([2 * c + 1, c, 2 * c + 1], 0) := by
  rw [ev_two, A1.2, A1.1, B2.1, B2.2]
  show ([0 + c + (c + 1), 0 + c + 0, 0 + (c + 1) + c], (0 : Int)) = _
  rw [show 0 + c + (c + 1) = 2 * c + 1 by omega, show 0 + c + 0 = c by omega, show 0 + (c + 1) + c = 2 * c + 1 by omega]
theorem ev2 : evRun 3 2 [bA c, bB c] = ([2 * c + 1, c, 2 * c + 1], 2) := by
  rw [ev_two, A2.2, A2.1, B0.1, B0.2]
  show ([0 + (c + 1) + c, 0 + c + 0, 0 + c + (c + 1)], (2 : Int)) = _
  rw [show 0 + c + (c + 1) = 2 * c + 1 by omega, show 0 + c + 0 = c by omega, show 0 + (c + 1) + c = 2 * c + 1 by omega]
theorem ev3 : evRun 3 0 [bB c, bA c] = ([2 * c + 1, c, 2 * c + 1], 0) := by
  rw [ev_two, B0.2, B0.1, A2.1, A2.2]
  show ([0 + c + (c + 1), 0 + 0 + c, 0 + (c + 1) + c], (0 : Int)) = _
  rw [show 0 + c + (c + 1) = 2 * c + 1 by omega, show 0 + 0 + c = c by omega, show 0 + (c + 1) + c = 2 * c + 1 by omega]
theorem fair_two (hc : 1 ≤ c) : bestO 3 [bA c, bB c] 0 = [0, 1] := by
  have e1 : sprd 3 [bA c, bB c] 0 [0, 1] = c := by
    show maxI (evRun 3 0 [bA c, bB c]).1 - minI (evRun 3 0 [bA c, bB c]).1 = c
    rw [ev0]
    show max (2 * c) (max (c + 1) (2 * c + 1)) - min (2 * c) (min (c + 1) (2 * c + 1)) = c
    omega
  have e2 : sprd 3 [bA c, bB c] 0 [1, 0] = c + 1 := by
    show maxI (evRun 3 0 [bB c, bA c]).1 - minI (evRun 3 0 [bB c, bA c]).1 = c + 1
    rw [ev3]
    show max (2 * c + 1) (max c (2 * c + 1)) - min (2 * c + 1) (min c (2 * c + 1)) = c + 1
    omega
  show ([[0, 1], [1, 0]] : List (List Nat)).getD (if decide (sprd 3 [bA c, bB c] 0 [1, 0] < sprd 3 [bA c, bB c] 0 [0, 1]) = true then 1 else 0) [] = [0, 1]
  rw [e1, e2, decide_eq_false (by omega)]
  rfl
theorem each_two : paidEach 3 [bA c, bB c] 1 0 3 = [2 * c, 2 * c + 1, 2 * c + 1] := by
  show [(repRun 3 [bA c, bB c] 1 0).1.getD 0 0, (repRun 3 [bA c, bB c] 1 1).1.getD 0 0, (repRun 3 [bA c, bB c] 1 2).1.getD 0 0] = _
  rw [repRun_one, repRun_one, repRun_one, ev0, ev1, ev2]
  rfl
theorem gap_two : maxI (paidEach 3 [bA c, bB c] 1 0 3) - minI (paidEach 3 [bA c, bB c] 1 0 3) = 1 := by
  rw [each_two]
  show max (2 * c) (max (2 * c + 1) (2 * c + 1)) - min (2 * c) (min (2 * c + 1) (2 * c + 1)) = 1
  omega
theorem best_two : fstIx (paidEach 3 [bA c, bB c] 1 0 3) (minI (paidEach 3 [bA c, bB c] 1 0 3)) = 0 := by
  rw [each_two]
  have e : minI [2 * c, 2 * c + 1, 2 * c + 1] = 2 * c := by
    show min (2 * c) (min (2 * c + 1) (2 * c + 1)) = _
    omega
  rw [e]
  show (if 2 * c = 2 * c then 0 else _) = 0
  rw [if_pos rfl]
end
/-- the table of two -/
def bsT (A : Int) : List (Int × List Int) := [(A, [0]), (1, [1]), (1, [0, 1])]
theorem known_three (A : Int) : knownV 2 (bsT A) = .non := by
  rw [← known_res]
  show knownV 2 [(A % 1, [0]), (1 % 1, [1]), (1 % 2, [0, 1])] = _
  rw [Int.emod_one]
  rfl
theorem ev_three (A : Int) : evRun 2 0 (bsT A) = ([A, 2], 1) := by
  have e : splitC 2 0 (A, [0]) = [A, 0] ∧ splitM 0 (A, [0]) = 0 := by
    unfold splitC splitM payers
    show bumps (baseC 2 (A / 1) [0]) ((behind 0 [0]).take (A % 1).toNat) = _ ∧ ((behind 0 [0]).take (A % 1).toNat).getLastD 0 = _
    rw [Int.emod_one, Int.ediv_one]
    exact ⟨rfl, rfl⟩
  show (zadd (zadd (zadd [0, 0] (splitC 2 0 (A, [0]))) (splitC 2 (splitM 0 (A, [0])) (1, [1]))) (splitC 2 (splitM (splitM 0 (A, [0])) (1, [1])) (1, [0, 1])), splitM (splitM (splitM 0 (A, [0])) (1, [1])) (1, [0, 1])) = _
  rw [e.1, e.2]
  show ([0 + A + 0 + 0, 2], (1 : Int)) = _
  rw [show 0 + A + 0 + 0 = A by omega]

end Odd

namespace Odd
open PySem PySem.Spec PyProof.Rows L2
/-! tactics of this text: st one step, go as many as go -/
local macro_rules | `(tactic| walk_at "ar") => `(tactic| first | assumption | omega | (show (_ : Int) < _; omega) | decide)
local macro_rules | `(tactic| walk_at "st") => `(tactic| first
  | with_reducible refine' w_seq ?_
  | with_reducible refine' w_asg ?_
  | with_reducible refine' w_name ?_
  | with_reducible refine' w_c ?_
  | with_reducible refine' w_op ?_
  | with_reducible refine' w_ix ?_
  | with_reducible refine' w_at ?_
  | with_reducible refine' w_cons ?_
  | with_reducible refine' w_nil ?_
  | with_reducible refine' w_ret ?_
  | with_reducible refine' w_if ?_
  | with_reducible refine' w_test ?_
  | with_reducible refine' w_tr ?_
  | with_reducible refine' w_un ?_
  | with_reducible refine' w_andV ?_
  | with_reducible refine' w_orV ?_
  | with_reducible refine' w_notA ?_
  | with_reducible refine' w_ch ?_
  | with_reducible refine' w_and ?_
  | with_reducible refine' w_or ?_
  | with_reducible refine' w_not ?_
  | with_reducible refine' w_ifx ?_
  | with_reducible refine' w_tup ?_
  | with_reducible refine' w_lst ?_
  | with_reducible refine' w_next ?_
  | with_reducible refine' w_drop ?_
  | with_reducible refine' w_retN ?_
  | ((with_reducible refine' w_var ?h ?_); (case h => exact rfl))
  | ((with_reducible refine' w_bi ?h ?_); (case h => walk_at "mg"))
  | ((with_reducible refine' w_bv ?h ?_); (case h => walk_at "mg"))
  | ((with_reducible refine' w_gv ?h ?_); (case h => walk_at "mg"))
  | ((with_reducible refine' w_gl ?h ?k ?_); (case h => walk_at "mg"); (case k => walk_at "kp"))
  | ((with_reducible refine' w_glS ?h ?k ?_); (case h => walk_at "mg"); (case k => walk_at "kp"))
  | with_reducible refine' bl_ex ?_
  | with_reducible refine' iteT ?_
  | with_reducible refine' iteF ?_
  | with_reducible refine' ite_nf ?_
  | with_reducible refine' ite_nt ?_
  | with_reducible refine' s_add ?_
  | with_reducible refine' s_sub ?_
  | with_reducible refine' s_lt ?_
  | with_reducible refine' s_le ?_
  | with_reducible refine' s_gt ?_
  | with_reducible refine' s_ge ?_
  | with_reducible refine' s_eqI ?_
  | with_reducible refine' s_neI ?_
  | with_reducible refine' s_eqB ?_
  | with_reducible refine' s_neB ?_
  | with_reducible refine' s_truB ?_
  | with_reducible refine' s_truI ?_
  | with_reducible refine' s_neg ?_
  | ((with_reducible refine' s_mod ?h ?_); (case h => walk_at "ar")))
local macro_rules | `(tactic| walk_at "go") => `(tactic| repeat walk_at "st")

local macro_rules | `(tactic| walk_at "mg") => `(tactic| first | assumption | exact Facts.z_TypeError (by assumption) | exact Facts.z_abs (by assumption) | exact Facts.z_bool (by assumption) | exact Facts.z_classmethod (by assumption) | exact Facts.z_divmod (by assumption) | exact Facts.z_enumerate (by assumption) | exact Facts.z_int (by assumption) | exact Facts.z_isinstance (by assumption) | exact Facts.z_len (by assumption) | exact Facts.z_list (by assumption) | exact Facts.z_max (by assumption) | exact Facts.z_min (by assumption) | exact Facts.z_property (by assumption) | exact Facts.z_range (by assumption) | exact Facts.z_sorted (by assumption) | exact Facts.z_sum (by assumption) | exact Facts.z_super (by assumption) | exact Facts.z_tuple (by assumption) | exact Facts.z_zip (by assumption) | exact Facts.g__wall (by assumption) | exact Facts.g_is_between (by assumption) | exact Facts.g_check_seat (by assumption) | exact Facts.g_check_amount (by assumption) | exact Facts.g_check_seats (by assumption) | exact Facts.g_check_seat_count (by assumption) | exact Facts.g_check_bills (by assumption) | exact Facts.g_check_mark (by assumption) | exact Facts.g_check_times (by assumption) | exact Facts.g_no_shares (by assumption) | exact Facts.g_seats_behind (by assumption) | exact Facts.g_split_bill (by assumption) | exact Facts.g_twice (by assumption) | exact Facts.g_repeated (by assumption) | exact Facts.g_lowest_terms (by assumption) | exact Facts.g_long_run (by assumption) | exact Facts.g_marks_after (by assumption) | exact Facts.g_known_after (by assumption) | exact Facts.g_evening_of_few (by assumption) | exact Facts.g_reset (by assumption) | exact Facts.g_telling (by assumption) | exact Facts.g_share_for_bill (by assumption) | exact Facts.g_paid_from_each_mark (by assumption) | exact Facts.g_widest_gap (by assumption) | exact Facts.g_best_mark (by assumption) | exact Facts.g_longer_ways (by assumption) | exact Facts.g_spread_of (by assumption) | exact Facts.g_fairest_order (by assumption) | exact Facts.g__law_start (by assumption) | exact Facts.g__law_drawn (by assumption) | exact Facts.g__law_all_there (by assumption) | exact Facts.g__law_two_and_all (by assumption) | exact Facts.g_law (by assumption) | exact Facts.g_Shares (by assumption) | exact Facts.g_Bill (by assumption) | exact Facts.g_Evening (by assumption) | exact Facts.g_MarkObserver (by assumption))
local macro_rules | `(tactic| walk_at "kp") => `(tactic| first | assumption | exact (Facts.mk_Shares (by assumption)).kp | exact (Facts.mk_Bill (by assumption)).kp | exact (Facts.mk_Evening (by assumption)).kp | exact (Facts.mk_MarkObserver (by assumption)).kp | exact Fun.kp (Facts.u__wall (by assumption)).choose_spec | exact Fun.kp (Facts.u_is_between (by assumption)).choose_spec | exact Fun.kp (Facts.u_check_seat (by assumption)).choose_spec | exact Fun.kp (Facts.u_check_amount (by assumption)).choose_spec | exact Fun.kp (Facts.u_check_seats (by assumption)).choose_spec | exact Fun.kp (Facts.u_check_seat_count (by assumption)).choose_spec | exact Fun.kp (Facts.u_check_bills (by assumption)).choose_spec | exact Fun.kp (Facts.u_check_mark (by assumption)).choose_spec | exact Fun.kp (Facts.u_check_times (by assumption)).choose_spec | exact Fun.kp (Facts.u_no_shares (by assumption)).choose_spec | exact Fun.kp (Facts.u_seats_behind (by assumption)).choose_spec | exact Fun.kp (Facts.u_split_bill (by assumption)).choose_spec | exact Fun.kp (Facts.u_twice (by assumption)).choose_spec | exact Fun.kp (Facts.u_repeated (by assumption)).choose_spec | exact Fun.kp (Facts.u_lowest_terms (by assumption)).choose_spec | exact Fun.kp (Facts.u_long_run (by assumption)).choose_spec | exact Fun.kp (Facts.u_marks_after (by assumption)).choose_spec | exact Fun.kp (Facts.u_known_after (by assumption)).choose_spec | exact Fun.kp (Facts.u_evening_of_few (by assumption)).choose_spec | exact Fun.kp (Facts.u_reset (by assumption)).choose_spec | exact Fun.kp (Facts.u_telling (by assumption)).choose_spec | exact Fun.kp (Facts.u_share_for_bill (by assumption)).choose_spec | exact Fun.kp (Facts.u_paid_from_each_mark (by assumption)).choose_spec | exact Fun.kp (Facts.u_widest_gap (by assumption)).choose_spec | exact Fun.kp (Facts.u_best_mark (by assumption)).choose_spec | exact Fun.kp (Facts.u_longer_ways (by assumption)).choose_spec | exact Fun.kp (Facts.u_spread_of (by assumption)).choose_spec | exact Fun.kp (Facts.u_fairest_order (by assumption)).choose_spec | exact Fun.kp (Facts.u__law_start (by assumption)).choose_spec | exact Fun.kp (Facts.u__law_drawn (by assumption)).choose_spec | exact Fun.kp (Facts.u__law_all_there (by assumption)).choose_spec | exact Fun.kp (Facts.u__law_two_and_all (by assumption)).choose_spec | exact Fun.kp (Facts.u_law (by assumption)).choose_spec)
local macro_rules | `(tactic| walk_at "st") => `(tactic| ((with_reducible refine' w_name ?_); (try dsimp only [List.set])))

namespace Kn
section
variable {P : Program} {w : World} {K : PySem.W.Frag} {mg : Str → Option Value} {base : Heap} {a : Ad}
theorem sIx_to (L : Nat) {i : Int} (h : 0 ≤ i) : HT.sIx L L (some i) = min i.toNat L := by
  show (if i < 0 then _ else _) = _
  rw [if_neg (by omega)]
def spCkSeat : Sp := fun vs H Q _ => ∃ (i : Int) (n : Nat), vs = [.int i, .int n] ∧ 0 ≤ i ∧ i < (n : Int) ∧ Q .non H
theorem ok_check_seat (T : Facts K mg a) : FnR P w K mg base (L2.CX P w) 2 a.f_check_seat spCkSeat := by
  obtain ⟨fd, F⟩ := T.u_check_seat
  have GB : FnR P w K mg base (L2.CX P w) 1 a.f_is_between spBetween := ok_between T
  refine fnr_ok F sc_check_seat (F.binds fun _ _ _ _ _ _ us hl => match us, hl with | [_, _], _ => rfl) (fun vs H Q E h => ?_) (fun cdv A outer s H vs Q E hr h => ?_)
  · obtain ⟨i, n, rfl, _⟩ := h
    rfl
  · obtain ⟨i, n, rfl, h0, h1, q⟩ := h
    refine ⟨_, (pss_one (ps_if (pt_not (pt_trA Like.refl pas_main (pe_glA Like.refl pas_main (by rfl) (pa_cons (pv 0) (pa_cons (pe_int) (pa_cons (pe_opA Like.refl pas_main (pv 1) (pe_int)) pa_nil)))))) (pss_one (ps_raA rfl tk_main (by rfl))) pss_nil)), ?_⟩
    walk_at "go"
    refine s_btwT GB hr h0 (by omega) ?_
    walk_at "go"
    exact q
def spCkSeatX (U : Addr) : Sp := fun vs H _ E => ∃ (i : Int) (n : Nat), vs = [.int i, .int n] ∧ ¬ (0 ≤ i ∧ i < (n : Int)) ∧ E (.ref U) none H
theorem ok_check_seatX (T : Facts K mg a) : FnR P w K mg base (L2.CX P w) 2 a.f_check_seat (spCkSeatX a.c_UnknownSeat) := by
  obtain ⟨fd, F⟩ := T.u_check_seat
  have GB : FnR P w K mg base (L2.CX P w) 1 a.f_is_between spBetween := ok_between T
  refine fnr_ok F sc_check_seat (F.binds fun _ _ _ _ _ _ us hl => match us, hl with | [_, _], _ => rfl) (fun vs H Q E h => ?_) (fun cdv A outer s H vs Q E hr h => ?_)
  · obtain ⟨i, n, rfl, _⟩ := h
    rfl
  · obtain ⟨i, n, rfl, hno, q⟩ := h
    refine ⟨_, (pss_one (ps_if (pt_not (pt_trA Like.refl pas_main (pe_glA Like.refl pas_main (by rfl) (pa_cons (pv 0) (pa_cons (pe_int) (pa_cons (pe_opA Like.refl pas_main (pv 1) (pe_int)) pa_nil)))))) (pss_one (ps_raA rfl tk_main (by rfl))) pss_nil)), ?_⟩
    have hf : (decide (0 ≤ i) && decide (i ≤ (n : Int) - 1)) = false := by
      rw [Bool.and_eq_false_iff, decide_eq_false_iff_not, decide_eq_false_iff_not]
      omega
    walk_at "go"
    refine s_fn GB hr ⟨i, 0, _, rfl, ?_⟩
    rw [hf]
    walk_at "go"
    exact ⟨_, T.x_UnknownSeat, q⟩
def spEvGet (CE CB : Addr) : Sp := fun vs H Q _ => ∃ (p : Addr) (i : Int) (n : Nat) (bs : List (Int × List Int)), vs = [.ref p, .int i] ∧ EvAt CE CB H p n bs ∧ 0 ≤ i ∧ i < (bs.length : Nat) ∧ ∀ bp b, bs[i.toNat]? = some b → BiAt CB H bp b → Q (.ref bp) H
theorem ok_ev_get (T : Facts K mg a) : FnR P w K mg base (L2.CX P w) 2 a.f_Evening__getitem_ (spEvGet a.c_Evening a.c_Bill) := by
  obtain ⟨fd, F⟩ := T.u_Evening__getitem_
  have GB : FnR P w K mg base (L2.CX P w) 1 a.f_is_between spBetween := ok_between T
  refine fnr_ok F sc_Evening__getitem_ (F.binds fun _ _ _ _ _ _ us hl => match us, hl with | [_, _], _ => rfl) (fun vs H Q E h => ?_) (fun cdv A outer s H vs Q E hr h => ?_)
  · obtain ⟨p, i, n, bs, rfl, _⟩ := h
    rfl
  · obtain ⟨p, i, n, bs, rfl, ⟨dx, t, ps, e1, e2, e3⟩, h0, h1, q⟩ := h
    have hl := e3.1
    refine ⟨_, (pss_cons (ps_if (pt_not (pt_trA Like.refl pas_main (pe_glA Like.refl pas_main (by rfl) (pa_cons (pv 1) (pa_cons (pe_int) (pa_cons (pe_opA Like.refl pas_main (pe_biA (id := "len") Like.refl pas_main (by rfl) (by decide +kernel) (pa_cons (pe_atA Like.refl pas_main (pv 0)) pa_nil)) (pe_int)) pa_nil)))))) (pss_one (ps_raA rfl tk_main (by rfl))) pss_nil)
    (pss_one (ps_ret (pe_ixA Like.refl pas_main (pe_atA Like.refl pas_main (pv 0)) (pv 1))))), ?_⟩
    walk_at "go"
    refine s_fld e1 T.cl_Evening T.na_Evening_bills look_bills ?_
    walk_at "go"
    refine s_lenT (SqT.of e2) ?_
    walk_at "go"
    rw [List.length_map]
    refine s_btwT GB hr h0 (by omega) ?_
    walk_at "go"
    refine s_fld e1 T.cl_Evening T.na_Evening_bills look_bills ?_
    walk_at "go"
    have hi : i.toNat < ps.length := by omega
    have hb : i.toNat < bs.length := by omega
    refine s_ixT (SqT.of e2) (v := .ref ps[i.toNat]) (at_of (j := i.toNat) (by omega) (by rw [List.getElem?_map, List.getElem?_eq_getElem hi] <;> rfl)) ?_
    exact q _ _ (List.getElem?_eq_getElem hb) (e3.2 _ _ _ (List.getElem?_eq_getElem hi) (List.getElem?_eq_getElem hb))
def spEvLen (C : Addr) : Sp := fun vs H Q _ => ∃ p dx t i ps, vs = [.ref p] ∧ H p = some (.ins C dx [("_seat_count", .int i), ("_bills", .ref t)]) ∧ H t = some (.tup ps) ∧ Q (.int (ps.length : Nat)) H
theorem ok_ev_len (T : Facts K mg a) : FnR P w K mg base (L2.CX P w) 1 a.f_Evening__len_ (spEvLen a.c_Evening) := by
  obtain ⟨fd, F⟩ := T.u_Evening__len_
  refine fnr_ok F sc_Evening__len_ (F.binds fun _ _ _ _ _ _ us hl => match us, hl with | [_], _ => rfl) (fun vs H Q E h => ?_) (fun cdv A outer s H vs Q E hr h => ?_)
  · obtain ⟨p, dx, t, i, ps, rfl, _⟩ := h
    rfl
  · obtain ⟨p, dx, t, i, ps, rfl, hp, ht, q⟩ := h
    refine ⟨_, (pss_one (ps_ret (pe_biA (id := "len") Like.refl pas_main (by rfl) (by decide +kernel) (pa_cons (pe_atA Like.refl pas_main (pv 0)) pa_nil)))), ?_⟩
    walk_at "go"
    refine s_fld hp T.cl_Evening T.na_Evening_bills look_bills ?_
    walk_at "go"
    exact s_lenT (SqT.of ht) q
def spEvBool (C : Addr) : Sp := fun vs H Q _ => ∃ p dx t i ps, vs = [.ref p] ∧ H p = some (.ins C dx [("_seat_count", .int i), ("_bills", .ref t)]) ∧ H t = some (.tup ps) ∧ Q (.bl (!ps.isEmpty)) H
theorem ok_ev_bool (T : Facts K mg a) : FnR P w K mg base (L2.CX P w) 1 a.f_Evening__bool_ (spEvBool a.c_Evening) := by
  obtain ⟨fd, F⟩ := T.u_Evening__bool_
  refine fnr_ok F sc_Evening__bool_ (F.binds fun _ _ _ _ _ _ us hl => match us, hl with | [_], _ => rfl) (fun vs H Q E h => ?_) (fun cdv A outer s H vs Q E hr h => ?_)
  · obtain ⟨p, dx, t, i, ps, rfl, _⟩ := h
    rfl
  · obtain ⟨p, dx, t, i, ps, rfl, hp, ht, q⟩ := h
    refine ⟨_, (pss_one (ps_ret (pe_tyA (T := "bool") Like.refl pas_main (by rfl) (by decide +kernel) (pa_cons (pe_atA Like.refl pas_main (pv 0)) pa_nil)))), ?_⟩
    walk_at "go"
    refine s_fld hp T.cl_Evening T.na_Evening_bills look_bills ?_
    walk_at "go"
    exact s_boolT (SqT.of ht) q
/-- what a seat pays of the bill of number k + 1, from the mark m on -/
def atBill (n : Nat) (bs : List (Int × List Int)) (m : Int) (k : Nat) : Int := (evRun n (repRun n bs (k / bs.length) m).2 (bs.take (k % bs.length))).2
def shareOf (n : Nat) (bs : List (Int × List Int)) (m : Int) (k seat : Nat) : Int := (splitC n (atBill n bs m k) (bs.getD (k % bs.length) (0, []))).getD seat 0
def spShare (CE CB : Addr) : Sp := fun vs H Q _ => ∃ (e : Addr) (m : Int) (k seat n : Nat) (bs : List (Int × List Int)), vs = [.ref e, .int m, .int ((k : Int) + 1), .int seat] ∧ EvAt CE CB H e n bs ∧ OkEv n bs ∧ bs ≠ [] ∧ 0 ≤ m ∧ m < (n : Int) ∧ k < 10 ^ 18 ∧ seat < n ∧
  ∀ H', Same H H' → Q (.int (shareOf n bs m k seat)) H'
theorem ok_share (T : Facts K mg a) : FnR P w K mg base (L2.CX P w) 6 a.f_share_for_bill (spShare a.c_Evening a.c_Bill) := by
  obtain ⟨fd, F⟩ := T.u_share_for_bill
  have GL : FnR P w K mg base (L2.CX P w) 1 a.f_Evening__len_ (spEvLen a.c_Evening) := ok_ev_len T
  have GR : FnR P w K mg base (L2.CX P w) 5 a.f_repeated (spRep a.c_Evening a.c_Bill a.c_Shares) := ok_repeated T
  have GB : FnR P w K mg base (L2.CX P w) 1 a.f_Evening_bills (spEvBills a.c_Evening) := ok_ev_bills T
  have GE : FnR P w K mg base (L2.CX P w) 1 a.f_Evening_seat_count (spEvCount a.c_Evening) := ok_ev_count T
  have GS : FnR P w K mg base (L2.CX P w) 3 a.f_split_bill (spSplit a.c_Bill a.c_Shares) := ok_split T
  have GG : FnR P w K mg base (L2.CX P w) 2 a.f_Evening__getitem_ (spEvGet a.c_Evening a.c_Bill) := ok_ev_get T
  have GH : FnR P w K mg base (L2.CX P w) 2 a.f_Shares__getitem_ (spShGet a.c_Shares a.c_UnknownSeat) := ok_sh_get T
  refine fnr_ok F sc_share_for_bill (F.binds fun _ _ _ _ _ _ us hl => match us, hl with | [_, _, _, _], _ => rfl) (fun vs H Q E h => ?_) (fun cdv A outer s H vs Q E hr h => ?_)
  · obtain ⟨e, m, k, seat, n, bs, rfl, _⟩ := h
    rfl
  · obtain ⟨e, m, k, seat, n, bs, rfl, hev, ok, hne, m0, m1, hk, hseat, q⟩ := h
    obtain ⟨dx, tb, ps, e1, e2, e3⟩ := id hev
    have hL : 0 < bs.length := List.length_pos_iff.2 hne
    have hL2 := ok.2.2.1
    have hn2 := ok.1
    have hn8 := ok.2.1
    refine ⟨_, (pss_cons (ps_asg (pe_biA (id := "divmod") Like.refl pas_main (by rfl) (by decide +kernel) (pa_cons (pe_opA Like.refl pas_main (pv 2) (pe_int)) (pa_cons (pe_biA (id := "len") Like.refl pas_main (by rfl) (by decide +kernel) (pa_cons (pv 0) pa_nil)) pa_nil))) (pg_tup rfl (pgs_cons (pg_name (i := 4) sc_share_for_bill.nd rfl (Or.inl rfl)) (pgs_cons (pg_name (i := 5) sc_share_for_bill.nd rfl (Or.inl rfl)) pgs_nil))))
    (pss_cons (ps_asg (pe_glA Like.refl pas_main (by rfl) (pa_cons (pv 0) (pa_cons (pv 1) (pa_cons (pv 4) pa_nil)))) (pg_tup rfl (pgs_cons (pg_name (i := 6) sc_share_for_bill.nd rfl (Or.inl rfl)) (pgs_cons (pg_name (i := 1) sc_share_for_bill.nd rfl (Or.inl rfl)) pgs_nil))))
    (pss_cons (ps_for own_main rfl (pi_seqA Like.refl (pe_slice sl_tup (pe_atA Like.refl pas_main (pv 0)) po_none (po_some (pv 5)))) (pg_name (i := 7) sc_share_for_bill.nd rfl (Or.inl rfl)) (pss_one (ps_asg (pe_glA Like.refl pas_main (by rfl) (pa_cons (pv 7) (pa_cons (pv 1) (pa_cons (pe_atA Like.refl pas_main (pv 0)) pa_nil)))) (pg_tup rfl (pgs_cons (pg_name (i := 6) sc_share_for_bill.nd rfl (Or.inl rfl)) (pgs_cons (pg_name (i := 1) sc_share_for_bill.nd rfl (Or.inl rfl)) pgs_nil))))))
    (pss_cons (ps_asg (pe_glA Like.refl pas_main (by rfl) (pa_cons (pe_ixA Like.refl pas_main (pv 0) (pv 5)) (pa_cons (pv 1) (pa_cons (pe_atA Like.refl pas_main (pv 0)) pa_nil)))) (pg_tup rfl (pgs_cons (pg_name (i := 8) sc_share_for_bill.nd rfl (Or.inl rfl)) (pgs_cons (pg_name (i := 6) sc_share_for_bill.nd rfl (Or.inl rfl)) pgs_nil))))
    (pss_one (ps_ret (pe_ixA Like.refl pas_main (pv 8) (pv 3)))))))), ?_⟩
    walk_at "go"
    refine s_lenI T.m_Evening__len_ GL (hr.mono (by decide)) e1 ⟨e, dx, tb, _, _, rfl, e1, e2, _, rfl, by omega, by rw [List.length_map, e3.1]; omega, ?_⟩
    rw [List.length_map, e3.1]
    walk_at "go"
    refine s_divmod (by omega) (by omega) fun p1 hp1 => ?_
    rw [show (k : Int) + 1 - 1 = (k : Int) by omega, show (k : Int) / (bs.length : Nat) = ((k / bs.length : Nat) : Int) from rfl, show (k : Int) % (bs.length : Nat) = ((k % bs.length : Nat) : Int) from rfl]
    have s1 := same_new (o := .tup [.int ((k / bs.length : Nat) : Int), .int ((k % bs.length : Nat) : Int)]) hp1
    refine g_pair (SqT.of upd_same) ?_
    walk_at "go"
    dsimp only [List.set]
    have hidx : k % bs.length < bs.length := Nat.mod_lt _ hL
    have htm : k / bs.length ≤ 10 ^ 18 := Nat.le_trans (Nat.div_le_self _ _) (by omega)
    refine s_fn GR (hr.mono (by decide)) ⟨e, m, _, n, bs, rfl, hev.same s1, ok, m0, m1, htm, fun T2 H2 s2 ⟨r2, g2, sh2⟩ => ?_⟩
    refine g_pair (SqT.of g2) ?_
    walk_at "go"
    dsimp only [List.set]
    have hev2 := (hev.same s1).same s2
    obtain ⟨a0, a1⟩ := repRun_range ok.2.2.2 m0 m1 (k / bs.length)
    have s12 := s1.trans s2
    refine w_for (w_isq (w_slt ?_))
    walk_at "go"
    refine s_prop T.cl_Evening T.pr_Evening_bills GB (hr.mono (by decide)) (s12 _ _ e1) ⟨e, dx, tb, _, rfl, s12 _ _ e1, ?_⟩
    walk_at "go"
    refine ⟨_, rfl, tb, _, rfl, SqT.of (s12 _ _ e2), ?_, fun p3 hp3 => ?_⟩
    · rintro ⟨_, z⟩
      have e := sIx_to (ps.map V.ref).length (i := ((k % bs.length : Nat) : Int)) (by omega)
      rw [e, Int.toNat_natCast, List.length_map, e3.1] at z
      omega
    rw [cutV_to _ (by omega), ← List.map_take, Int.toNat_natCast]
    have s3 := same_new (o := .tup ((ps.take (k % bs.length)).map V.ref)) hp3
    have s13 := s12.trans s3
    refine ⟨p3, rfl, .inr ⟨⟨_, SqT.of upd_same⟩, for_tup (xs := (ps.take (k % bs.length)).map V.ref) (fun j σ H' => Same (upd H2 p3 (.tup ((ps.take (k % bs.length)).map V.ref))) H' ∧ ∃ x6 x7, σ = [some (.ref e), some (.int (evRun n (repRun n bs (k / bs.length) m).2 (bs.take j)).2), some (.int ((k : Int) + 1)), some (.int seat), some (.int ((k / bs.length : Nat) : Int)), some (.int ((k % bs.length : Nat) : Int)), x6, x7, none])
      ⟨Same.refl _, _, _, by rw [List.take_zero]; rfl⟩ (fun j σ H3 _ pv => SqT.of (pv.1 _ _ upd_same)) (fun j x σ H3 hx pv => ?_) (fun σ H3 pv => ?_)⟩⟩
    · obtain ⟨s4, x6, x7, rfl⟩ := pv
      rw [List.getElem?_map] at hx
      cases er : (ps.take (k % bs.length))[j]? with
      | none => rw [er] at hx; cases hx
      | some bp =>
        rw [er] at hx
        cases hx
        obtain ⟨hj, _⟩ := List.getElem?_eq_some_iff.1 er
        rw [List.length_take] at hj
        have hjb : j < bs.length := by omega
        have eb := List.getElem?_eq_getElem hjb
        rw [List.getElem?_take, if_pos (by omega)] at er
        have e4 : bs.take (j + 1) = bs.take j ++ [bs[j]] := by rw [List.take_add_one, eb]; rfl
        obtain ⟨okb, hsb⟩ := ok.2.2.2 _ (List.getElem_mem hjb)
        have hbi := e3.2 _ _ _ er eb
        have ersn := evRun_snoc n (repRun n bs (k / bs.length) m).2 (bs.take j) bs[j]
        rw [← e4] at ersn
        generalize bs[j] = b at *
        have s14 := s13.trans s4
        refine w_name ?_
        walk_at "go"
        refine s_prop T.cl_Evening T.pr_Evening_seat_count GE (hr.mono (by decide)) (s14 _ _ e1) ⟨e, dx, tb, _, rfl, s14 _ _ e1, ?_⟩
        walk_at "go"
        refine s_fn GS (hr.mono (by decide)) ⟨bp, _, n, b, rfl, hbi.same s14, okb, hn8, hsb, fun T5 r5 H5 hT5 s5 g5 sh5 => ?_⟩
        refine g_pair (SqT.of g5) ?_
        walk_at "go"
        try dsimp only
        rw [ersn]
        exact ⟨s4.trans s5, _, _, rfl⟩
    · obtain ⟨s4, x6, x7, rfl⟩ := pv
      have s14 := s13.trans s4
      have hlt : ((ps.take (k % bs.length)).map V.ref).length = k % bs.length := by rw [List.length_map, List.length_take, e3.1]; omega
      rw [hlt]
      have hat : (evRun n (repRun n bs (k / bs.length) m).2 (bs.take (k % bs.length))).2 = atBill n bs m k := rfl
      rw [hat]
      walk_at "go"
      refine s_ixI T.m_Evening__getitem_ T.u_Evening__getitem_.choose_spec GG (hr.mono (by decide)) (s14 _ _ e1) ⟨e, _, n, bs, rfl, hev.same s14, by omega, by omega, fun bp b eb hbi => ?_⟩
      rw [Int.toNat_natCast] at eb
      obtain ⟨okb, hsb⟩ := ok.2.2.2 _ (List.mem_of_getElem? eb)
      walk_at "go"
      refine s_prop T.cl_Evening T.pr_Evening_seat_count GE (hr.mono (by decide)) (s14 _ _ e1) ⟨e, dx, tb, _, rfl, s14 _ _ e1, ?_⟩
      walk_at "go"
      refine s_fn GS (hr.mono (by decide)) ⟨bp, _, n, b, rfl, hbi, okb, hn8, hsb, fun T5 r5 H5 hT5 s5 g5 sh5 => ?_⟩
      refine g_pair (SqT.of g5) ?_
      walk_at "go"
      obtain ⟨dxr, tr, j1, j2⟩ := id sh5
      have hlen : (splitC n (atBill n bs m k) b).length = n := splitC_len ..
      refine s_ixI T.m_Shares__getitem_ T.u_Shares__getitem_.choose_spec GH (hr.mono (by decide)) j1 ⟨r5, _, seat, rfl, sh5, fun c _ ec => ?_, fun z => absurd ⟨by omega, by omega⟩ z⟩
      have z := q _ (s14.trans s5)
      have ez : shareOf n bs m k seat = c := by
        unfold shareOf
        rw [List.getD_eq_getElem?_getD (l := bs), eb]
        show (splitC n (atBill n bs m k) b).getD seat 0 = c
        rw [List.getD_eq_getElem?_getD]
        rw [Int.toNat_natCast] at ec
        rw [ec]
        rfl
      rw [ez] at z
      exact z
end

section
variable {P : Program} {w : World} {K : PySem.W.Frag} {mg : Str → Option Value} {base : Heap} {a : Ad}
/-- an observer of the evening e: the marks it holds possible, the list l of its records -/
def RecsAt (H : Hp) (rs : List Addr) (recs : List (Int × Int × Int)) : Prop := rs.length = recs.length ∧ ∀ (i : Nat) r x, rs[i]? = some r → recs[i]? = some x → H r = some (.tup [.int x.1, .int x.2.1, .int x.2.2])
def ObsAt (C : Addr) (H : Hp) (p e : Addr) (marks : List Int) (l : Addr) (rs : List Addr) (recs : List (Int × Int × Int)) : Prop :=
  ∃ dx t, H p = some (.ins C dx [("_evening", .ref e), ("_possible", .ref t), ("_accepted", .ref l)]) ∧ H t = some (.tup (marks.map V.int)) ∧ H l = some (.lst (rs.map V.ref)) ∧ RecsAt H rs recs
theorem RecsAt.keep {H H' : Hp} {rs : List Addr} {recs : List (Int × Int × Int)} (h : RecsAt H rs recs) (k : ∀ p xs, H p = some (.tup xs) → H' p = some (.tup xs)) : RecsAt H' rs recs := ⟨h.1, fun i r x h1 h2 => k _ _ (h.2 i r x h1 h2)⟩
theorem RecsAt.snoc {H : Hp} {rs : List Addr} {recs : List (Int × Int × Int)} {r : Addr} {x : Int × Int × Int} (h : RecsAt H rs recs) (h' : H r = some (.tup [.int x.1, .int x.2.1, .int x.2.2])) : RecsAt H (rs ++ [r]) (recs ++ [x]) := by
  refine ⟨by simp [h.1], fun i p c e1 e2 => ?_⟩
  by_cases hi : i < rs.length
  · rw [List.getElem?_append_left hi] at e1
    rw [List.getElem?_append_left (by rw [← h.1]; exact hi)] at e2
    exact h.2 i p c e1 e2
  · rw [List.getElem?_append_right (by omega)] at e1
    rw [List.getElem?_append_right (by rw [← h.1]; omega), ← h.1] at e2
    cases z : i - rs.length with
    | zero => rw [z] at e1 e2; cases e1; cases e2; exact h'
    | succ j => rw [z] at e1; simp at e1
theorem ObsAt.same {C : Addr} {H H' : Hp} {p e l : Addr} {marks : List Int} {rs : List Addr} {recs : List (Int × Int × Int)} (h : ObsAt C H p e marks l rs recs) (s : Same H H') : ObsAt C H' p e marks l rs recs := by
  obtain ⟨dx, t, h1, h2, h3, h4⟩ := h
  exact ⟨dx, t, s _ _ h1, s _ _ h2, s _ _ h3, h4.keep fun _ _ e => s _ _ e⟩
theorem w_tupRg1 {ta : TE} {σ : L2.St} {H : Hp} {Q : VK} (h : ta σ H fun x H1 => ∃ n, x = .int n ∧ RgOk 0 n ∧ ∀ q, H1 q = none → Q (.ref q) (upd H1 q (.tup (rgV 0 n)))) : tTupRg (tRg1 ta) σ H Q := h
theorem rgV_range (n : Nat) : rgV 0 (n : Int) = (List.range n).map fun i : Nat => V.int (i : Int) := by
  unfold rgV
  rw [show ((n : Int) - 0).toNat = n by omega]
  exact List.map_congr_left fun i _ => by rw [Int.zero_add]
theorem put3 {k k1 k2 : Str} {v v1 v2 : V} (h1 : k1 ≠ k) (h2 : k2 ≠ k) : putF k v [(k1, v1), (k2, v2)] = [(k1, v1), (k2, v2), (k, v)] := by
  show (if k1 = k then _ else _) = _
  rw [if_neg h1, put2 h2]
theorem upd_five {H : Hp} {x t l : Addr} {i1 i2 i3 T L : HO} (ht : t ≠ x) (hl : l ≠ x) : upd (upd (upd (upd (upd H x i1) t T) x i2) l L) x i3 = upd (upd (upd H t T) l L) x i3 := by
  funext b
  by_cases hx : b = x
  · rw [hx, upd_same, upd_same]
  · rw [upd_ne hx, upd_ne hx]
    by_cases hb : b = l
    · rw [hb, upd_same, upd_same]
    · rw [upd_ne hb, upd_ne hx, upd_ne hb]
      by_cases hc : b = t
      · rw [hc, upd_same, upd_same]
      · rw [upd_ne hc, upd_ne hx, upd_ne hc]
def spObInit (CO CE CB N : Addr) : Sp := fun vs H Q E => ∃ (x e dx : Addr) (n : Nat) (bs : List (Int × List Int)), vs = [.ref x, .ref e] ∧ H x = some (.ins CO dx []) ∧ EvAt CE CB H e n bs ∧ n ≤ 8 ∧ e ≠ x ∧
  ((bs = [] ∧ E (.ref N) none H) ∨ (bs ≠ [] ∧ ∀ t l H', Same H H' → H t = none → H l = none → H' t = some (.tup ((List.range n).map fun i : Nat => V.int (i : Int))) → H' l = some (.lst []) → Q .non (upd H' x (.ins CO dx [("_evening", .ref e), ("_possible", .ref t), ("_accepted", .ref l)]))))
theorem ok_ob_init (T : Facts K mg a) : FnR P w K mg base (L2.CX P w) 3 a.f_MarkObserver__init_ (spObInit a.c_MarkObserver a.c_Evening a.c_Bill a.c_InvalidNumber) := by
  obtain ⟨fd, F⟩ := T.u_MarkObserver__init_
  have GB : FnR P w K mg base (L2.CX P w) 1 a.f_Evening__bool_ (spEvBool a.c_Evening) := ok_ev_bool T
  have GE : FnR P w K mg base (L2.CX P w) 1 a.f_Evening_seat_count (spEvCount a.c_Evening) := ok_ev_count T
  refine fnr_ok F sc_MarkObserver__init_ (F.binds fun _ _ _ _ _ _ us hl => match us, hl with | [_, _], _ => rfl) (fun vs H Q E h => ?_) (fun cdv A outer s H vs Q E hr h => ?_)
  · obtain ⟨x, e, dx, n, bs, rfl, _⟩ := h
    rfl
  · obtain ⟨x, e, dx, n, bs, rfl, hx, hev, hn8, hex, q⟩ := h
    obtain ⟨dy, tb, ps, e1, e2, e3⟩ := id hev
    refine ⟨_, (pss_cons (ps_if (pt_not (pt_trA Like.refl pas_main (pv 1))) (pss_one (ps_raA rfl tk_main (by rfl))) pss_nil)
    (pss_cons (ps_fld (pv 0) (pv 1) rfl)
    (pss_cons (ps_fld (pv 0) (pe_tupRg rfl (by rfl) T.z_tuple (prg_1 (by rfl) T.z_range (pe_atA Like.refl pas_main (pv 1)))) rfl)
    (pss_one (ps_fld (pv 0) (pe_lst pa_nil) rfl))))), ?_⟩
    walk_at "go"
    refine s_truO T.m_Evening__bool_ GB (hr.mono (by decide)) e1 ⟨e, dy, tb, _, _, rfl, e1, e2, _, rfl, ?_⟩
    have hps : (ps.map V.ref).isEmpty = bs.isEmpty := by
      have := e3.1
      cases ps <;> cases bs <;> first | rfl | simp at this
    rw [hps]
    rcases q with ⟨rfl, q⟩ | ⟨hne, q⟩
    · walk_at "go"
      exact ⟨_, T.x_InvalidNumber, q⟩
    · have hemp : bs.isEmpty = false := by cases bs with | nil => exact absurd rfl hne | cons _ _ => rfl
      rw [hemp]
      refine iteF' rfl ?_
      walk_at "go"
      with_reducible refine' w_fld ?_
      walk_at "go"
      refine ⟨x, a.c_MarkObserver, dx, [], rfl, hx, T.cl_MarkObserver, T.na_MarkObserver_evening, by decide, ?_⟩
      walk_at "go"
      with_reducible refine' w_fld ?_
      refine w_tupRg1 ?_
      walk_at "go"
      refine s_prop T.cl_Evening T.pr_Evening_seat_count GE (hr.mono (by decide)) (by rw [upd_ne hex]; exact e1) ⟨e, dy, tb, _, rfl, by rw [upd_ne hex]; exact e1, ?_⟩
      refine ⟨_, rfl, ?_, fun t ht => ?_⟩
      · exact RgOk.of_le (by decide) (by omega) (by decide) (by omega)
      rw [rgV_range]
      have htx : t ≠ x := fun z => by rw [z, upd_same] at ht; cases ht
      walk_at "go"
      refine ⟨x, a.c_MarkObserver, dx, _, rfl, by rw [upd_ne htx.symm, upd_same], T.cl_MarkObserver, T.na_MarkObserver_possible, by show 1 < 1000; decide, ?_⟩
      walk_at "go"
      with_reducible refine' w_fld ?_
      walk_at "go"
      refine ⟨by show 0 ≤ sizeLine; decide, fun l hl => ?_⟩
      have hlx : l ≠ x := fun z => by rw [z, upd_same] at hl; cases hl
      walk_at "go"
      refine ⟨x, a.c_MarkObserver, dx, _, rfl, by rw [upd_ne hlx.symm, upd_same], T.cl_MarkObserver, T.na_MarkObserver_accepted, by show 2 < 1000; decide, ?_⟩
      walk_at "go"
      have hlt : l ≠ t := fun z => by rw [z, upd_ne htx, upd_same] at hl; cases hl
      rw [upd_ne hlx, upd_ne hlt, upd_ne hlx] at hl
      rw [upd_ne htx] at ht
      rw [upd_five htx hlx]
      rw [show putF (Str.ofString "_evening") (V.ref e) [] = [(("_evening" : Str), V.ref e)] from rfl, put2 (by decide), put3 (by decide) (by decide)]
      have s1 := same_new (o := .tup ((List.range n).map fun i : Nat => V.int (i : Int))) ht
      have hl2 : (upd H t (.tup ((List.range n).map fun i : Nat => V.int (i : Int)))) l = none := by rw [upd_ne hlt]; exact hl
      have s2 := same_new (o := .lst []) hl2
      exact q t l _ (s1.trans s2) ht hl (s2 _ _ upd_same) upd_same
/-- MarkObserver(evening) -/
theorem s_observer {X0 : Cx} {E : XK} {H : Hp} {Q : VK} {n : Nat} {e : Addr} {bs : List (Int × List Int)} (T : Facts X0.K X0.mg a) (F : Fn X0 3 a.f_MarkObserver__init_ (spObInit a.c_MarkObserver a.c_Evening a.c_Bill a.c_InvalidNumber)) (hr : Room 4 X0.A) (hev : EvAt a.c_Evening a.c_Bill H e n bs) (hn8 : n ≤ 8) (hne : bs ≠ [])
    (q : ∀ p l H', H p = none → H l = none → p ≠ l → Same H H' → ObsAt a.c_MarkObserver H' p e ((List.range n).map fun i : Nat => (i : Int)) l [] [] → Q (.ref p) H') : ∃ r, CaD X0 E (.ref a.c_MarkObserver) r ∧ r [.ref e] H Q := by
  refine s_mk T.mk_MarkObserver F hr fun x dx hx hdx hnx => ?_
  have s0 : Same H (upd (upd H dx (.own x)) x (.ins a.c_MarkObserver dx [])) := fun b o e => by
    rw [upd_ne (ne_of_none e hx), upd_ne (ne_of_none e hdx)]
    exact e
  obtain ⟨dy, tb, ps, e1, e2, e3⟩ := id hev
  refine ⟨x, e, dx, n, bs, rfl, upd_same, hev.same s0, hn8, ne_of_none e1 hx, .inr ⟨hne, fun t l H' s1 ht hl g1 g2 => ⟨rfl, ?_⟩⟩⟩
  have hlx : l ≠ x := fun z => by rw [z, upd_same] at hl; cases hl
  have htx : t ≠ x := fun z => by rw [z, upd_same] at ht; cases ht
  have hl0 : H l = none := by
    rw [upd_ne hlx] at hl
    by_cases y : l = dx
    · rw [y, upd_same] at hl
      cases hl
    · rw [upd_ne y] at hl
      exact hl
  refine q x l _ hx hl0 hlx.symm (fun b o e => ?_) ⟨dx, t, upd_same, ?_, by rw [upd_ne hlx]; exact g2, rfl, fun i r z h => by simp at h⟩
  · rw [upd_ne (ne_of_none e hx)]
    exact s1 _ _ (s0 _ _ e)
  · rw [upd_ne htx, g1, List.map_map]
    rfl
theorem s_observerX {X0 : Cx} {E : XK} {H : Hp} {Q : VK} {n : Nat} {e : Addr} (T : Facts X0.K X0.mg a) (F : Fn X0 3 a.f_MarkObserver__init_ (spObInit a.c_MarkObserver a.c_Evening a.c_Bill a.c_InvalidNumber)) (hr : Room 4 X0.A) (hev : EvAt a.c_Evening a.c_Bill H e n []) (hn8 : n ≤ 8)
    (q : ∀ H', Same H H' → E (.ref a.c_InvalidNumber) none H') : ∃ r, CaD X0 E (.ref a.c_MarkObserver) r ∧ r [.ref e] H Q := by
  refine s_mk T.mk_MarkObserver F hr fun x dx hx hdx hnx => ?_
  have s0 : Same H (upd (upd H dx (.own x)) x (.ins a.c_MarkObserver dx [])) := fun b o e => by
    rw [upd_ne (ne_of_none e hx), upd_ne (ne_of_none e hdx)]
    exact e
  obtain ⟨dy, tb, ps, e1, e2, e3⟩ := id hev
  exact ⟨x, e, dx, n, [], rfl, upd_same, hev.same s0, hn8, ne_of_none e1 hx, .inl ⟨rfl, q _ s0⟩⟩
theorem lk_ev {e t l : Addr} : ([("_evening", .ref e), ("_possible", .ref t), ("_accepted", .ref l)] : List (Str × V)).lookup ("_evening" : Str) = some (V.ref e) := rfl
theorem lk_po {e t l : Addr} : ([("_evening", .ref e), ("_possible", .ref t), ("_accepted", .ref l)] : List (Str × V)).lookup ("_possible" : Str) = some (V.ref t) := rfl
theorem lk_ac {e t l : Addr} : ([("_evening", .ref e), ("_possible", .ref t), ("_accepted", .ref l)] : List (Str × V)).lookup ("_accepted" : Str) = some (V.ref l) := rfl
def spObMarks (C : Addr) : Sp := fun vs H Q _ => ∃ p e marks l rs recs, vs = [.ref p] ∧ ObsAt C H p e marks l rs recs ∧ ∀ t, H t = some (.tup (marks.map V.int)) → Q (.ref t) H
theorem ok_ob_marks (T : Facts K mg a) : FnR P w K mg base (L2.CX P w) 1 a.f_MarkObserver_possible_marks (spObMarks a.c_MarkObserver) := by
  obtain ⟨fd, F⟩ := T.u_MarkObserver_possible_marks
  refine fnr_ok F sc_MarkObserver_possible_marks (F.binds fun _ _ _ _ _ _ us hl => match us, hl with | [_], _ => rfl) (fun vs H Q E h => ?_) (fun cdv A outer s H vs Q E hr h => ?_)
  · obtain ⟨p, e, marks, l, rs, recs, rfl, _⟩ := h
    rfl
  · obtain ⟨p, e, marks, l, rs, recs, rfl, ⟨dx, t, h1, h2, h3, h4⟩, q⟩ := h
    refine ⟨_, (pss_one (ps_ret (pe_atA Like.refl pas_main (pv 0)))), ?_⟩
    walk_at "go"
    exact s_fld h1 T.cl_MarkObserver T.na_MarkObserver_possible lk_po (q t h2)
def spObRecs (C : Addr) : Sp := fun vs H Q _ => ∃ p e marks l rs recs, vs = [.ref p] ∧ ObsAt C H p e marks l rs recs ∧ ∀ l2, H l2 = none → Q (.ref l2) (upd H l2 (.lst (rs.map V.ref)))
theorem put_po {v x y z : V} : putF "_possible" v [(("_evening" : Str), x), ("_possible", y), ("_accepted", z)] = [(("_evening" : Str), x), ("_possible", v), ("_accepted", z)] := by
  show (if _ then _ else _) = _
  rw [if_neg (by decide)]
  show _ :: (if _ then _ else _) = _
  rw [if_pos rfl]
def remOf (n : Nat) (bs : List (Int × List Int)) (marks : List Int) (k seat : Nat) (cents : Int) : List Int := marks.filter fun m => decide (shareOf n bs m k seat = cents)
def spSee (CO CE CB X : Addr) : Sp := fun vs H Q E => ∃ (p e l : Addr) (marks : List Int) (rs : List Addr) (recs : List (Int × Int × Int)) (k seat n : Nat) (cents : Int) (bs : List (Int × List Int)), vs = [.ref p, .int ((k : Int) + 1), .int seat, .int cents] ∧ ObsAt CO H p e marks l rs recs ∧ EvAt CE CB H e n bs ∧ OkEv n bs ∧ bs ≠ [] ∧
  (∀ m ∈ marks, 0 ≤ m ∧ m < (n : Int)) ∧ marks.length ≤ 8 ∧ recs.length ≤ 1000 ∧ k < 10 ^ 18 ∧ seat < n ∧
  ((remOf n bs marks k seat cents = [] ∧ ∀ H', Same H H' → E (.ref X) none H') ∨ (remOf n bs marks k seat cents ≠ [] ∧ ∀ H' r, (∀ b o, b ≠ p → b ≠ l → H b = some o → H' b = some o) → ObsAt CO H' p e (remOf n bs marks k seat cents) l (rs ++ [r]) (recs ++ [((k : Int) + 1, (seat : Int), cents)]) → Q (.int ((remOf n bs marks k seat cents).length : Nat)) H'))
theorem ok_see (T : Facts K mg a) : FnR P w K mg base (L2.CX P w) 7 a.f_MarkObserver_see (spSee a.c_MarkObserver a.c_Evening a.c_Bill a.c_Contradiction) := by
  obtain ⟨fd, F⟩ := T.u_MarkObserver_see
  have GB : FnR P w K mg base (L2.CX P w) 1 a.f_is_between spBetween := ok_between T
  have GK : FnR P w K mg base (L2.CX P w) 2 a.f_check_seat spCkSeat := ok_check_seat T
  have GE : FnR P w K mg base (L2.CX P w) 1 a.f_Evening_seat_count (spEvCount a.c_Evening) := ok_ev_count T
  have GS : FnR P w K mg base (L2.CX P w) 6 a.f_share_for_bill (spShare a.c_Evening a.c_Bill) := ok_share T
  refine fnr_ok F sc_MarkObserver_see (F.binds fun _ _ _ _ _ _ us hl => match us, hl with | [_, _, _, _], _ => rfl) (fun vs H Q E h => ?_) (fun cdv A outer s H vs Q E hr h => ?_)
  · obtain ⟨p, e, l, marks, rs, recs, k, seat, n, cents, bs, rfl, _⟩ := h
    rfl
  · obtain ⟨p, e, l, marks, rs, recs, k, seat, n, cents, bs, rfl, ⟨dx, t, h1, h2, h3, h4⟩, hev, ok, hne, hmk, hml, hrl, hk, hseat, q⟩ := h
    obtain ⟨dy, tb, ps, e1, e2, e3⟩ := id hev
    have hn8 := ok.2.1
    refine ⟨_, (pss_cons (ps_if (pt_not (pt_trA Like.refl pas_main (pe_glA Like.refl pas_main (by rfl) (pa_cons (pv 1) (pa_cons (pe_int) (pa_cons (pe_gvI Like.refl (by rfl)) pa_nil)))))) (pss_one (ps_raA rfl tk_main (by rfl))) pss_nil)
    (pss_cons (ps_expr (pe_glA Like.refl pas_main (by rfl) (pa_cons (pv 2) (pa_cons (pe_atA Like.refl pas_main (pe_atA Like.refl pas_main (pv 0))) pa_nil))))
    (pss_cons (ps_setLc (i := 4) (own := [("mark", 5)]) (g := gName 5) (tt := _) rfl sc_MarkObserver_see.nd rfl rfl (sw_true rfl rfl rfl (by decide +kernel)) (pi_seqA Like.refl (pe_atA Like.refl pas_main (pv 0))) (blkOk_by (own := [("mark", 5)]) (N := N_MarkObserver_see) (sc := defScope s_MarkObserver_see) (by decide +kernel)) (fun _ _ _ _ _ => (pg_name (i := 5) sc_MarkObserver_see.nd rfl (by first | exact Or.inl rfl | exact Or.inr rfl))) (fun _ _ _ _ _ => pts_one (pt_cmpA ⟨rfl, rfl, rfl, rfl, rfl, rfl, rfl⟩ passL (pe_glA ⟨rfl, rfl, rfl, rfl, rfl, rfl, rfl⟩ passL (by rfl) (pa_cons (pe_atB ⟨rfl, rfl, rfl, rfl, rfl, rfl, rfl⟩ passL (pv 0)) (pa_cons (pv 5) (pa_cons (pv 1) (pa_cons (pv 2) pa_nil))))) (pv 3) (nomark _))) (fun _ _ _ _ _ => (pv 5)))
    (pss_cons (ps_if (pt_not (pt_trA Like.refl pas_main (pv 4))) (pss_one (ps_raA rfl tk_main (by rfl))) pss_nil)
    (pss_cons (ps_fld (pv 0) (pe_tyA (T := "tuple") Like.refl pas_main (by rfl) (by decide +kernel) (pa_cons (pv 4) pa_nil)) rfl)
    (pss_cons (ps_expr (pe_bm PySem.F.plainAttrs_list PySem.F.slot_list_append PySem.F.type_list_append mt_append (pe_atA Like.refl pas_main (pv 0)) (pa_cons (pe_tup (pa_cons (pv 1) (pa_cons (pv 2) (pa_cons (pv 3) pa_nil)))) pa_nil)))
    (pss_one (ps_ret (pe_biA (id := "len") Like.refl pas_main (by rfl) (by decide +kernel) (pa_cons (pv 4) pa_nil)))))))))), ?_⟩
    walk_at "go"
    refine w_gvI T.i_MAX_BILL_NUMBER.choose_spec ?_
    walk_at "go"
    refine s_btwT GB (hr.mono (by decide)) (by omega) (by omega) ?_
    walk_at "go"
    refine s_fld h1 T.cl_MarkObserver T.na_MarkObserver_evening lk_ev ?_
    walk_at "go"
    refine s_prop T.cl_Evening T.pr_Evening_seat_count GE (hr.mono (by decide)) e1 ⟨e, dy, tb, _, rfl, e1, ?_⟩
    walk_at "go"
    refine s_fn GK (hr.mono (by decide)) ⟨seat, n, rfl, by omega, by omega, ?_⟩
    walk_at "go"
    refine c_tup (a := t) (xs := marks.map V.int) (fun j => ((marks.take j).filter fun m => decide (shareOf n bs m k seat = cents)).map V.int) rfl (fun j _ => ?_) (SqT.of h2) (fun _ => rfl) (fun j x H' hx s1 => ?_) (fun r H' hr0 s1 hL => ?_) (fun R k => ?_)
    · rw [List.length_map]
      have := List.length_filter_le (fun m => decide (shareOf n bs m k seat = cents)) (marks.take j)
      rw [List.length_take] at this
      omega
    · rw [List.getElem?_map] at hx
      cases em : marks[j]? with
      | none => rw [em] at hx; cases hx
      | some z =>
        rw [em] at hx
        cases hx
        have hz := hmk z (List.mem_of_getElem? em)
        show Turn1 _ _ _ _ (((marks.take j).filter fun m => decide (shareOf n bs m k seat = cents)).map V.int) (((marks.take (j + 1)).filter fun m => decide (shareOf n bs m k seat = cents)).map V.int)
        rw [filt_step em]
        refine turn1_filter (fun R hR => ?_) (fun _ H3 _ R hR => ?_)
        · walk_at "go"
          refine s_fld (s1 _ _ h1) T.cl_MarkObserver T.na_MarkObserver_evening lk_ev ?_
          walk_at "go"
          refine s_fn GS hr ⟨e, z, k, seat, n, bs, rfl, hev.same s1, ok, hne, hz.1, hz.2, hk, hseat, fun H3 s3 => ?_⟩
          walk_at "go"
          exact hR _ s3
        · walk_at "go"
          exact hR _ (Same.refl _)
    · rw [List.length_map, List.take_of_length_le (Nat.le_refl _)] at hL
      change H' r = some (.lst ((remOf n bs marks k seat cents).map V.int)) at hL
      have hL8 : (remOf n bs marks k seat cents).length ≤ 8 := Nat.le_trans (List.length_filter_le _ _) hml
      walk_at "go"
      refine s_truL (SqL.of hL) ?_
      generalize remOf n bs marks k seat cents = rem at *
      rcases q with ⟨rfl, q⟩ | ⟨hrem, q⟩
      · walk_at "go"
        exact ⟨_, T.x_Contradiction, q _ s1⟩
      · have hemp : (rem.map V.int).isEmpty = false := by cases rem with | nil => exact absurd rfl hrem | cons _ _ => rfl
        rw [hemp]
        refine iteF' rfl ?_
        walk_at "go"
        with_reducible refine' w_fld ?_
        walk_at "go"
        refine s_tupleL (SqL.of hL) fun t2 ht2 => ?_
        walk_at "go"
        have s2 := same_new (o := .tup (rem.map V.int)) ht2
        have s12 := s1.trans s2
        refine ⟨p, a.c_MarkObserver, dx, _, rfl, s12 _ _ h1, T.cl_MarkObserver, T.na_MarkObserver_possible, by show 3 < 1000; decide, ?_⟩
        rw [put_po]
        walk_at "go"
        have hpl : p ≠ l := fun z => by rw [z, h3] at h1; cases h1
        have hpt : p ≠ t2 := ne_of_none (s1 _ _ h1) ht2
        have hlt : l ≠ t2 := ne_of_none (s1 _ _ h3) ht2
        have k2 : ∀ b o, b ≠ p → H b = some o → (upd (upd H' t2 (.tup (rem.map V.int))) p (.ins a.c_MarkObserver dx [("_evening", .ref e), ("_possible", .ref t2), ("_accepted", .ref l)])) b = some o := fun b o nb e => by rw [upd_ne nb]; exact s12 _ _ e
        have g1 : (upd (upd H' t2 (.tup (rem.map V.int))) p (.ins a.c_MarkObserver dx [("_evening", .ref e), ("_possible", .ref t2), ("_accepted", .ref l)])) p = some (.ins a.c_MarkObserver dx [("_evening", .ref e), ("_possible", .ref t2), ("_accepted", .ref l)]) := upd_same
        have g2 : (upd (upd H' t2 (.tup (rem.map V.int))) p (.ins a.c_MarkObserver dx [("_evening", .ref e), ("_possible", .ref t2), ("_accepted", .ref l)])) t2 = some (.tup (rem.map V.int)) := by rw [upd_ne hpt.symm, upd_same]
        have g3 := k2 _ _ hpl.symm h3
        have gr : (upd (upd H' t2 (.tup (rem.map V.int))) p (.ins a.c_MarkObserver dx [("_evening", .ref e), ("_possible", .ref t2), ("_accepted", .ref l)])) r = some (.lst (rem.map V.int)) := by
          rw [upd_ne (fun z => by rw [z] at hL; rw [s1 _ _ h1] at hL; cases hL)]
          exact s2 _ _ hL
        have hrl2 : r ≠ l := (ne_of_none h3 hr0).symm
        generalize upd (upd H' t2 (.tup (rem.map V.int))) p (.ins a.c_MarkObserver dx [("_evening", .ref e), ("_possible", .ref t2), ("_accepted", .ref l)]) = H3 at *
        refine w_bm ?_
        walk_at "go"
        refine s_fld g1 T.cl_MarkObserver T.na_MarkObserver_accepted lk_ac ?_
        refine ⟨.inl ⟨rfl, _, SqL.of g3⟩, ?_⟩
        walk_at "go"
        refine ⟨by show 3 ≤ sizeLine; decide, fun T4 hT4 => ?_⟩
        walk_at "go"
        have s4 := same_new (o := .tup [.int ((k : Int) + 1), .int (seat : Int), .int cents]) hT4
        have hlT : l ≠ T4 := ne_of_none g3 hT4
        refine ⟨l, _, _, rfl, rfl, s4 _ _ g3, by rw [List.length_map, h4.1]; exact Nat.lt_of_le_of_lt hrl (by decide), ?_⟩
        walk_at "go"
        refine s_lenL (SqL.of (by rw [upd_ne hrl2]; exact s4 _ _ gr)) ?_
        rw [List.length_map]
        have fin : ∀ b o, b ≠ p → b ≠ l → H b = some o → (upd (upd H3 T4 (.tup [.int ((k : Int) + 1), .int (seat : Int), .int cents])) l (.lst (rs.map V.ref ++ [.ref T4]))) b = some o := fun b o nb nl e => by rw [upd_ne nl]; exact s4 _ _ (k2 _ _ nb e)
        refine q _ T4 fin ⟨dx, t2, by rw [upd_ne hpl]; exact s4 _ _ g1, by rw [upd_ne hlt.symm]; exact s4 _ _ g2, by rw [upd_same, List.map_append]; rfl, (h4.keep fun b xs e => fin b _ (fun z => by rw [z, h1] at e; cases e) (fun z => by rw [z, h3] at e; cases e) e).snoc (by rw [upd_ne hlT.symm, upd_same])⟩
    · walk_at "go"
      exact s_fld h1 T.cl_MarkObserver T.na_MarkObserver_possible lk_po k
/-! what is refused -/
def spSeeX (CO CE CB U N : Addr) : Sp := fun vs H _ E => ∃ (p e l : Addr) (marks : List Int) (rs : List Addr) (recs : List (Int × Int × Int)) (n : Nat) (num seat cents : Int) (bs : List (Int × List Int)), vs = [.ref p, .int num, .int seat, .int cents] ∧ ObsAt CO H p e marks l rs recs ∧ EvAt CE CB H e n bs ∧
  ((¬ (1 ≤ num ∧ num ≤ 10 ^ 18) ∧ E (.ref N) none H) ∨ ((1 ≤ num ∧ num ≤ 10 ^ 18) ∧ ¬ (0 ≤ seat ∧ seat < (n : Int)) ∧ E (.ref U) none H))
theorem ok_seeX (T : Facts K mg a) : FnR P w K mg base (L2.CX P w) 7 a.f_MarkObserver_see (spSeeX a.c_MarkObserver a.c_Evening a.c_Bill a.c_UnknownSeat a.c_InvalidNumber) := by
  obtain ⟨fd, F⟩ := T.u_MarkObserver_see
  have GB : FnR P w K mg base (L2.CX P w) 1 a.f_is_between spBetween := ok_between T
  have GK : FnR P w K mg base (L2.CX P w) 2 a.f_check_seat (spCkSeatX a.c_UnknownSeat) := ok_check_seatX T
  have GE : FnR P w K mg base (L2.CX P w) 1 a.f_Evening_seat_count (spEvCount a.c_Evening) := ok_ev_count T
  refine fnr_ok F sc_MarkObserver_see (F.binds fun _ _ _ _ _ _ us hl => match us, hl with | [_, _, _, _], _ => rfl) (fun vs H Q E h => ?_) (fun cdv A outer s H vs Q E hr h => ?_)
  · obtain ⟨p, e, l, marks, rs, recs, n, num, seat, cents, bs, rfl, _⟩ := h
    rfl
  · obtain ⟨p, e, l, marks, rs, recs, n, num, seat, cents, bs, rfl, ⟨dx, t, h1, h2, h3, h4⟩, hev, q⟩ := h
    obtain ⟨dy, tb, ps, e1, e2, e3⟩ := id hev
    refine ⟨_, (pss_cons (ps_if (pt_not (pt_trA Like.refl pas_main (pe_glA Like.refl pas_main (by rfl) (pa_cons (pv 1) (pa_cons (pe_int) (pa_cons (pe_gvI Like.refl (by rfl)) pa_nil)))))) (pss_one (ps_raA rfl tk_main (by rfl))) pss_nil)
    (pss_cons (ps_expr (pe_glA Like.refl pas_main (by rfl) (pa_cons (pv 2) (pa_cons (pe_atA Like.refl pas_main (pe_atA Like.refl pas_main (pv 0))) pa_nil))))
    (pss_cons (ps_setLc (i := 4) (own := [("mark", 5)]) (g := gName 5) (tt := _) rfl sc_MarkObserver_see.nd rfl rfl (sw_true rfl rfl rfl (by decide +kernel)) (pi_seqA Like.refl (pe_atA Like.refl pas_main (pv 0))) (blkOk_by (own := [("mark", 5)]) (N := N_MarkObserver_see) (sc := defScope s_MarkObserver_see) (by decide +kernel)) (fun _ _ _ _ _ => (pg_name (i := 5) sc_MarkObserver_see.nd rfl (by first | exact Or.inl rfl | exact Or.inr rfl))) (fun _ _ _ _ _ => pts_one (pt_cmpA ⟨rfl, rfl, rfl, rfl, rfl, rfl, rfl⟩ passL (pe_glA ⟨rfl, rfl, rfl, rfl, rfl, rfl, rfl⟩ passL (by rfl) (pa_cons (pe_atB ⟨rfl, rfl, rfl, rfl, rfl, rfl, rfl⟩ passL (pv 0)) (pa_cons (pv 5) (pa_cons (pv 1) (pa_cons (pv 2) pa_nil))))) (pv 3) (nomark _))) (fun _ _ _ _ _ => (pv 5)))
    (pss_cons (ps_if (pt_not (pt_trA Like.refl pas_main (pv 4))) (pss_one (ps_raA rfl tk_main (by rfl))) pss_nil)
    (pss_cons (ps_fld (pv 0) (pe_tyA (T := "tuple") Like.refl pas_main (by rfl) (by decide +kernel) (pa_cons (pv 4) pa_nil)) rfl)
    (pss_cons (ps_expr (pe_bm PySem.F.plainAttrs_list PySem.F.slot_list_append PySem.F.type_list_append mt_append (pe_atA Like.refl pas_main (pv 0)) (pa_cons (pe_tup (pa_cons (pv 1) (pa_cons (pv 2) (pa_cons (pv 3) pa_nil)))) pa_nil)))
    (pss_one (ps_ret (pe_biA (id := "len") Like.refl pas_main (by rfl) (by decide +kernel) (pa_cons (pv 4) pa_nil)))))))))), ?_⟩
    walk_at "go"
    refine w_gvI T.i_MAX_BILL_NUMBER.choose_spec ?_
    walk_at "go"
    rcases q with ⟨no, q⟩ | ⟨yes, no, q⟩
    · refine s_fn GB (hr.mono (by decide)) ⟨num, 1, _, rfl, ?_⟩
      have hf : (decide (1 ≤ num) && decide (num ≤ 1000000000000000000)) = false := by
        rw [Bool.and_eq_false_iff, decide_eq_false_iff_not, decide_eq_false_iff_not]
        omega
      rw [hf]
      walk_at "go"
      exact ⟨_, T.x_InvalidNumber, q⟩
    · refine s_btwT GB (hr.mono (by decide)) (by omega) (by omega) ?_
      walk_at "go"
      refine s_fld h1 T.cl_MarkObserver T.na_MarkObserver_evening lk_ev ?_
      walk_at "go"
      refine s_prop T.cl_Evening T.pr_Evening_seat_count GE (hr.mono (by decide)) e1 ⟨e, dy, tb, _, rfl, e1, ?_⟩
      walk_at "go"
      exact s_fn GK (hr.mono (by decide)) ⟨seat, n, rfl, no, q⟩
end

end Kn
end Odd

namespace Odd
open PySem PySem.Spec PyProof.Rows L2
/-! tactics of this text: st one step, go as many as go -/
local macro_rules | `(tactic| walk_at "ar") => `(tactic| first | assumption | omega | (show (_ : Int) < _; omega) | decide)
local macro_rules | `(tactic| walk_at "st") => `(tactic| first
  | with_reducible refine' w_seq ?_
  | with_reducible refine' w_asg ?_
  | with_reducible refine' w_name ?_
  | with_reducible refine' w_c ?_
  | with_reducible refine' w_op ?_
  | with_reducible refine' w_ix ?_
  | with_reducible refine' w_at ?_
  | with_reducible refine' w_cons ?_
  | with_reducible refine' w_nil ?_
  | with_reducible refine' w_ret ?_
  | with_reducible refine' w_if ?_
  | with_reducible refine' w_test ?_
  | with_reducible refine' w_tr ?_
  | with_reducible refine' w_un ?_
  | with_reducible refine' w_andV ?_
  | with_reducible refine' w_orV ?_
  | with_reducible refine' w_notA ?_
  | with_reducible refine' w_ch ?_
  | with_reducible refine' w_and ?_
  | with_reducible refine' w_or ?_
  | with_reducible refine' w_not ?_
  | with_reducible refine' w_ifx ?_
  | with_reducible refine' w_tup ?_
  | with_reducible refine' w_lst ?_
  | with_reducible refine' w_next ?_
  | with_reducible refine' w_drop ?_
  | with_reducible refine' w_retN ?_
  | ((with_reducible refine' w_var ?h ?_); (case h => exact rfl))
  | ((with_reducible refine' w_bi ?h ?_); (case h => walk_at "mg"))
  | ((with_reducible refine' w_bv ?h ?_); (case h => walk_at "mg"))
  | ((with_reducible refine' w_gv ?h ?_); (case h => walk_at "mg"))
  | ((with_reducible refine' w_gl ?h ?k ?_); (case h => walk_at "mg"); (case k => walk_at "kp"))
  | ((with_reducible refine' w_glS ?h ?k ?_); (case h => walk_at "mg"); (case k => walk_at "kp"))
  | with_reducible refine' bl_ex ?_
  | with_reducible refine' iteT ?_
  | with_reducible refine' iteF ?_
  | with_reducible refine' ite_nf ?_
  | with_reducible refine' ite_nt ?_
  | with_reducible refine' s_add ?_
  | with_reducible refine' s_sub ?_
  | with_reducible refine' s_lt ?_
  | with_reducible refine' s_le ?_
  | with_reducible refine' s_gt ?_
  | with_reducible refine' s_ge ?_
  | with_reducible refine' s_eqI ?_
  | with_reducible refine' s_neI ?_
  | with_reducible refine' s_eqB ?_
  | with_reducible refine' s_neB ?_
  | with_reducible refine' s_truB ?_
  | with_reducible refine' s_truI ?_
  | with_reducible refine' s_neg ?_
  | ((with_reducible refine' s_mod ?h ?_); (case h => walk_at "ar")))
local macro_rules | `(tactic| walk_at "go") => `(tactic| repeat walk_at "st")

local macro_rules | `(tactic| walk_at "mg") => `(tactic| first | assumption | exact Facts.z_TypeError (by assumption) | exact Facts.z_abs (by assumption) | exact Facts.z_bool (by assumption) | exact Facts.z_classmethod (by assumption) | exact Facts.z_divmod (by assumption) | exact Facts.z_enumerate (by assumption) | exact Facts.z_int (by assumption) | exact Facts.z_isinstance (by assumption) | exact Facts.z_len (by assumption) | exact Facts.z_list (by assumption) | exact Facts.z_max (by assumption) | exact Facts.z_min (by assumption) | exact Facts.z_property (by assumption) | exact Facts.z_range (by assumption) | exact Facts.z_sorted (by assumption) | exact Facts.z_sum (by assumption) | exact Facts.z_super (by assumption) | exact Facts.z_tuple (by assumption) | exact Facts.z_zip (by assumption) | exact Facts.g__wall (by assumption) | exact Facts.g_is_between (by assumption) | exact Facts.g_check_seat (by assumption) | exact Facts.g_check_amount (by assumption) | exact Facts.g_check_seats (by assumption) | exact Facts.g_check_seat_count (by assumption) | exact Facts.g_check_bills (by assumption) | exact Facts.g_check_mark (by assumption) | exact Facts.g_check_times (by assumption) | exact Facts.g_no_shares (by assumption) | exact Facts.g_seats_behind (by assumption) | exact Facts.g_split_bill (by assumption) | exact Facts.g_twice (by assumption) | exact Facts.g_repeated (by assumption) | exact Facts.g_lowest_terms (by assumption) | exact Facts.g_long_run (by assumption) | exact Facts.g_marks_after (by assumption) | exact Facts.g_known_after (by assumption) | exact Facts.g_evening_of_few (by assumption) | exact Facts.g_reset (by assumption) | exact Facts.g_telling (by assumption) | exact Facts.g_share_for_bill (by assumption) | exact Facts.g_paid_from_each_mark (by assumption) | exact Facts.g_widest_gap (by assumption) | exact Facts.g_best_mark (by assumption) | exact Facts.g_longer_ways (by assumption) | exact Facts.g_spread_of (by assumption) | exact Facts.g_fairest_order (by assumption) | exact Facts.g__law_start (by assumption) | exact Facts.g__law_drawn (by assumption) | exact Facts.g__law_all_there (by assumption) | exact Facts.g__law_two_and_all (by assumption) | exact Facts.g_law (by assumption) | exact Facts.g_Shares (by assumption) | exact Facts.g_Bill (by assumption) | exact Facts.g_Evening (by assumption) | exact Facts.g_MarkObserver (by assumption))
local macro_rules | `(tactic| walk_at "kp") => `(tactic| first | assumption | exact (Facts.mk_Shares (by assumption)).kp | exact (Facts.mk_Bill (by assumption)).kp | exact (Facts.mk_Evening (by assumption)).kp | exact (Facts.mk_MarkObserver (by assumption)).kp | exact Fun.kp (Facts.u__wall (by assumption)).choose_spec | exact Fun.kp (Facts.u_is_between (by assumption)).choose_spec | exact Fun.kp (Facts.u_check_seat (by assumption)).choose_spec | exact Fun.kp (Facts.u_check_amount (by assumption)).choose_spec | exact Fun.kp (Facts.u_check_seats (by assumption)).choose_spec | exact Fun.kp (Facts.u_check_seat_count (by assumption)).choose_spec | exact Fun.kp (Facts.u_check_bills (by assumption)).choose_spec | exact Fun.kp (Facts.u_check_mark (by assumption)).choose_spec | exact Fun.kp (Facts.u_check_times (by assumption)).choose_spec | exact Fun.kp (Facts.u_no_shares (by assumption)).choose_spec | exact Fun.kp (Facts.u_seats_behind (by assumption)).choose_spec | exact Fun.kp (Facts.u_split_bill (by assumption)).choose_spec | exact Fun.kp (Facts.u_twice (by assumption)).choose_spec | exact Fun.kp (Facts.u_repeated (by assumption)).choose_spec | exact Fun.kp (Facts.u_lowest_terms (by assumption)).choose_spec | exact Fun.kp (Facts.u_long_run (by assumption)).choose_spec | exact Fun.kp (Facts.u_marks_after (by assumption)).choose_spec | exact Fun.kp (Facts.u_known_after (by assumption)).choose_spec | exact Fun.kp (Facts.u_evening_of_few (by assumption)).choose_spec | exact Fun.kp (Facts.u_reset (by assumption)).choose_spec | exact Fun.kp (Facts.u_telling (by assumption)).choose_spec | exact Fun.kp (Facts.u_share_for_bill (by assumption)).choose_spec | exact Fun.kp (Facts.u_paid_from_each_mark (by assumption)).choose_spec | exact Fun.kp (Facts.u_widest_gap (by assumption)).choose_spec | exact Fun.kp (Facts.u_best_mark (by assumption)).choose_spec | exact Fun.kp (Facts.u_longer_ways (by assumption)).choose_spec | exact Fun.kp (Facts.u_spread_of (by assumption)).choose_spec | exact Fun.kp (Facts.u_fairest_order (by assumption)).choose_spec | exact Fun.kp (Facts.u__law_start (by assumption)).choose_spec | exact Fun.kp (Facts.u__law_drawn (by assumption)).choose_spec | exact Fun.kp (Facts.u__law_all_there (by assumption)).choose_spec | exact Fun.kp (Facts.u__law_two_and_all (by assumption)).choose_spec | exact Fun.kp (Facts.u_law (by assumption)).choose_spec)
local macro_rules | `(tactic| walk_at "st") => `(tactic| ((with_reducible refine' w_name ?_); (try dsimp only [List.set])))

/-! ### k13: a table at which all are there -/
theorem s_isN {X0 : Cx} {E : XK} {H : Hp} {Q : VK} {x : V} (q : Q (.bl (decide (x = .non))) H) : ∃ r, OpD X0 E (compareOp .Is) r ∧ r x .non H Q := ⟨_, fun _ _ _ => op_isN, rfl, q⟩
theorem s_notN {X0 : Cx} {E : XK} {H : Hp} {Q : VK} {x : V} (q : Q (.bl (!decide (x = .non))) H) : ∃ r, OpD X0 E (compareOp .IsNot) r ∧ r x .non H Q := ⟨_, fun _ _ _ => op_notN, rfl, q⟩
theorem s_intB {X0 : Cx} {E : XK} {H : Hp} {Q : VK} {k : Bool} (q : Q (.int (if k then 1 else 0)) H) : ∃ r, CaD X0 E (.type "int") r ∧ r [.bl k] H Q :=
  ⟨_, fun X _ _ => call_int1, .inr ⟨k, rfl, q⟩⟩
def prD2 (x y : Int) : PyData := .tuple [.int x, .int y]
theorem nb_rep (x y : Int) : ∀ k, nb.nbAll (List.replicate k (prD2 x y)) = true
  | 0 => by simp [nb.nbAll]
  | k + 1 => by rw [List.replicate_succ]; have := nb_rep x y k; unfold prD2 at this ⊢; simp [nb.nbAll, this, nb]
theorem lay_rep (x y : Int) : ∀ k, PyData.canLayAll0 (List.replicate k (prD2 x y)) = true ∧ PyData.depthAll (List.replicate k (prD2 x y)) ≤ 1
  | 0 => by simp [PyData.canLayAll0, PyData.depthAll]
  | k + 1 => by
    obtain ⟨h1, h2⟩ := lay_rep x y k
    have h3 : (prD2 x y).canLay0 = true ∧ (prD2 x y).depth = 1 := by simp [prD2, PyData.canLay0, PyData.canLayAll0, PyData.depth, PyData.depthAll]
    rw [List.replicate_succ]
    refine ⟨by simp [PyData.canLayAll0, h1, h3.1], ?_⟩
    simp only [PyData.depthAll]
    omega
theorem rep_shaped (x y : Int) (k : Nat) : SeqAt.shaped (.tuple (List.replicate k (prD2 x y))) = true := by
  obtain ⟨h1, h2⟩ := lay_rep x y k
  have e : PyData.depth (.tuple (List.replicate k (prD2 x y))) ≤ 64 := by
    simp only [PyData.depth]
    omega
  show (PyData.canLay0 (.tuple (List.replicate k (prD2 x y))) && decide (PyData.depth (.tuple (List.replicate k (prD2 x y))) ≤ 64)) = true
  rw [decide_eq_true e, Bool.and_true]
  simp only [PyData.canLay0]
  exact h1
theorem rep_eqv (x y : Int) (k : Nat) : PyData.eqv (.tuple (List.replicate k (prD2 x y))) (.tuple (List.replicate k (prD2 x y))) = true :=
  (eqv_iff (by simp [nb, nb_rep]) (by simp [nb, nb_rep])).2 rfl
theorem dp_fracs {K : PySem.W.Frag} {H : Hp} {x : Int × Int} : ∀ {fs : List Addr}, (∀ (i : Nat) p, fs[i]? = some p → FracAt H p x) → DpAll K H (fs.map V.ref) (List.replicate fs.length (prD2 x.1 x.2))
  | [], _ => .nil
  | p :: fs, h => .cons (.tup (SqT.of (h 0 p rfl)) (.cons (.int _) (.cons (.int _) .nil))) (dp_fracs fun i q e => h (i + 1) q e)
theorem dp_same1 {K : PySem.W.Frag} {H : Hp} {T : Addr} {x y : Int} (h : H T = some (.tup [.int x, .int y])) : ∀ k, DpAll K H ((List.replicate k [V.ref T]).flatten) (List.replicate k (prD2 x y))
  | 0 => .nil
  | k + 1 => by
    rw [List.replicate_succ, List.replicate_succ, List.flatten_cons]
    exact .cons (.tup (SqT.of h) (.cons (.int _) (.cons (.int _) .nil))) (dp_same1 h k)
section
variable {P : Program} {w : World} {K : PySem.W.Frag} {mg : Str → Option Value} {base : Heap} {a : Ad}
theorem c_rng2 {te : TE} {tt : TT} {vs : List Nat} {σ : L2.St} {H : Hp} {Q : VK} {ta : TA} {j : Nat} {lo hi : Int} {m : Nat} (out : Nat → List V) (h0 : out 0 = []) (hm : (hi - lo).toNat = m) (hbd : -(2 ^ 62) ≤ lo ∧ lo < 2 ^ 62 ∧ -(2 ^ 62) ≤ hi ∧ hi < 2 ^ 62) (hz : ∀ i, i < m → (out i).length < 100000) (hw : ∀ x, wipe ((wipe σ vs).set j (some x)) vs = wipe σ vs)
    (turn : ∀ (i : Nat) H', i < m → Same H H' → Turn1 tt te ((wipe σ vs).set j (some (.int (lo + i)))) H' (out i) (out (i + 1))) (q : ∀ p H', H p = none → Same H H' → H' p = some (.lst (out m)) → Q (.ref p) H')
    (ht : ∀ R : List V → Hp → Prop, R [.int lo, .int hi] H → ta σ H R) : tLc (iRng2 ta) (gName j) tt te vs σ H Q :=
  ht _ ⟨lo, hi, rfl, hbd, by
    rw [hm]
    exact c_walk (Y := YFn fun i => .int (lo + (i : Int))) (G := fun _ => True) ⟨fun i _ hi _ => hi, fun _ _ => Nat.le_refl _, fun i H x H' _ _ y => y⟩ out h0 hz (fun _ _ => True.intro) (fun i x H1 H' hi s y => by
      obtain ⟨e1, e2⟩ := y
      subst e1 e2
      exact ⟨Same.refl _, fun R k => k _ _ (Same.refl _) (hw _) (turn i _ hi s)⟩) q⟩
def spAll : Sp := fun vs H Q _ => ∃ (n t : Nat) (A m : Int), vs = [.int n, .int A, .int m, .int t] ∧ 2 ≤ n ∧ n ≤ 8 ∧ 0 ≤ A ∧ A ≤ 10 ^ 12 ∧ 0 ≤ m ∧ m < (n : Int) ∧ t ≤ 10 ^ 18 ∧ ∀ H', Same H H' → Q (.bl true) H'
theorem ok_all (T : Facts K mg a) : FnR P w K mg base (L2.CX P w) 8 a.f__law_all_there spAll := by
  obtain ⟨fd, F⟩ := T.u__law_all_there
  have GTg : FnR P w K mg base (L2.CX P w) 6 a.f_Evening_together (InitT a.c_Evening a.c_Bill) := ok_ev_tog T
  have GR : FnR P w K mg base (L2.CX P w) 5 a.f_repeated (spRep a.c_Evening a.c_Bill a.c_Shares) := ok_repeated T
  have GW : FnR P w K mg base (L2.CX P w) 1 a.f_Shares_whole (spShWhole a.c_Shares) := ok_sh_whole T
  have GA : FnR P w K mg base (L2.CX P w) 1 a.f_Shares__abs_ (spShAbs a.c_Shares) := ok_sh_abs T
  have GG : FnR P w K mg base (L2.CX P w) 2 a.f_Shares__getitem_ (spShGet a.c_Shares a.c_UnknownSeat) := ok_sh_get T
  have GL : FnR P w K mg base (L2.CX P w) 6 a.f_long_run (spLong a.c_Evening a.c_Bill) := ok_long_run T
  have GKn : FnR P w K mg base (L2.CX P w) 5 a.f_known_after (spKnown a.c_Evening a.c_Bill) := ok_known T
  have GGa : FnR P w K mg base (L2.CX P w) 7 a.f_widest_gap (spGap a.c_Evening a.c_Bill) := ok_widest_gap T
  refine fnr_ok F sc__law_all_there (F.binds fun _ _ _ _ _ _ us hl => match us, hl with | [_, _, _, _], _ => rfl) (fun vs H Q E h => ?_) (fun cdv A' outer s H vs Q E hr h => ?_)
  · obtain ⟨n, t, A, m, rfl, _⟩ := h
    rfl
  obtain ⟨n, t, A, m, rfl, hn2, hn8, hA0, hA1, hm0, hm1, ht, q⟩ := h
  have hr' := hr.units
  have e12 : (10 : Int) ^ 12 = 1000000000000 := by decide
  have e18 : (10 : Nat) ^ 18 = 1000000000000000000 := by decide
  have hrow := full_ok hn2 hn8 hA0 hA1
  have okE : OkEv n [(A, full n)] := ⟨hn2, hn8, by show 1 ≤ 30; decide, fun b hb => by rw [List.mem_singleton.1 hb]; exact hrow⟩
  have o0 : 0 ≤ A % (n : Int) := Int.emod_nonneg _ (by omega)
  have o1 : A % (n : Int) < (n : Int) := Int.emod_lt_of_pos _ (by omega)
  refine ⟨_, (pss_cons (ps_par (i := 4) (j := 5) rfl sc__law_all_there.nd rfl rfl (by decide) rfl rfl (pa_cons (pe_cmA Like.refl pas_main (pe_gvA Like.refl (by rfl)) (pa_cons (pv 0) (pa_cons (pv 1) pa_nil))) (pa_cons (pe_opA Like.refl pas_main (pv 1) (pv 0)) pa_nil)) (by rfl))
    (pss_cons (ps_asg (pe_glA Like.refl pas_main (by rfl) (pa_cons (pv 4) (pa_cons (pv 2) (pa_cons (pv 3) pa_nil)))) (pg_tup rfl (pgs_cons (pg_name (i := 6) sc__law_all_there.nd rfl (Or.inl rfl)) (pgs_cons (pg_name (i := 7) sc__law_all_there.nd rfl (Or.inl rfl)) pgs_nil))))
    (pss_cons (ps_if (PW.pt (pw_or (pt_cmpA Like.refl pas_main (pv 7) (pe_opA Like.refl pas_main (pe_opA Like.refl pas_main (pv 2) (pe_opA Like.refl pas_main (pv 5) (pv 3))) (pv 0)) (nomark _)) (pw_or (pt_cmpA Like.refl pas_main (pe_atA Like.refl pas_main (pv 6)) (pe_opA Like.refl pas_main (pv 1) (pv 3)) (nomark _)) (pw_or1 (pt_cmpA Like.refl pas_main (pe_biA (id := "abs") Like.refl pas_main (by rfl) (by decide +kernel) (pa_cons (pv 6) pa_nil)) (pe_int) (nomark _)))))) (pss_one (ps_ret (pe_bl))) pss_nil)
    (pss_cons (ps_for own_main rfl (pi_range1 (by rfl) T.z_range (pa_cons (pv 0) pa_nil)) (pg_name (i := 8) sc__law_all_there.nd rfl (Or.inl rfl)) (pss_cons (ps_set (i := 9) sc__law_all_there.nd rfl (Or.inl rfl) (pe_opA Like.refl pas_main (pe_opA Like.refl pas_main (pe_opA Like.refl pas_main (pv 8) (pv 2)) (pe_int)) (pv 0)))
    (pss_cons (ps_set (i := 10) sc__law_all_there.nd rfl (Or.inl rfl) (pe_opA Like.refl pas_main (pe_opA Like.refl pas_main (pe_opA Like.refl pas_main (pe_opA Like.refl pas_main (pe_opA Like.refl pas_main (pv 3) (pv 5)) (pv 0)) (pe_int)) (pv 9)) (pv 0)))
    (pss_one (ps_if (pt_cmpA Like.refl pas_main (pe_ixA Like.refl pas_main (pv 6) (pv 8)) (pe_opA Like.refl pas_main (pe_opA Like.refl pas_main (pv 3) (pe_opA Like.refl pas_main (pv 1) (pv 0))) (pv 10)) (nomark _)) (pss_one (ps_ret (pe_bl))) pss_nil)))))
    (pss_cons (ps_set (i := 11) sc__law_all_there.nd rfl (Or.inl rfl) (pe_ixA Like.refl pas_main (pe_lc (own := [("_law_k", 12)]) (g := gName 12) (tt := _) rfl sc__law_all_there.nd (pi_range2 (by rfl) T.z_range (pa_cons (pe_int) (pa_cons (pe_opA Like.refl pas_main (pv 0) (pe_int)) pa_nil))) (blkOk_by (own := [("_law_k", 12)]) (N := N__law_all_there) (sc := defScope s__law_all_there) (by decide +kernel)) (fun _ _ _ _ _ => (pg_name (i := 12) sc__law_all_there.nd rfl (by first | exact Or.inl rfl | exact Or.inr rfl))) (fun _ _ _ _ _ => pts_one (PW.pt (pw_and (pt_cmpA ⟨rfl, rfl, rfl, rfl, rfl, rfl, rfl⟩ passL (pe_opA ⟨rfl, rfl, rfl, rfl, rfl, rfl, rfl⟩ passL (pv 1) (pv 12)) (pe_int) (nomark _)) (pw_and1 (pt_cmpA ⟨rfl, rfl, rfl, rfl, rfl, rfl, rfl⟩ passL (pe_opA ⟨rfl, rfl, rfl, rfl, rfl, rfl, rfl⟩ passL (pv 0) (pv 12)) (pe_int) (nomark _)))))) (fun _ _ _ _ _ => (pv 12))) (pe_opA Like.refl pas_main (pe_int) (pe_int))))
    (pss_cons (ps_if (pt_cmpA Like.refl pas_main (pe_glA Like.refl pas_main (by rfl) (pa_cons (pv 4) (pa_cons (pv 2) pa_nil))) (pe_opA Like.refl pas_main (pe_tup (pa_cons (pe_tup (pa_cons (pe_opA Like.refl pas_main (pv 1) (pv 11)) (pa_cons (pe_opA Like.refl pas_main (pv 0) (pv 11)) pa_nil))) pa_nil)) (pv 0)) (nomark _)) (pss_one (ps_ret (pe_bl))) pss_nil)
    (pss_one (ps_ret (pe_and (pe_cmpA Like.refl pas_main (pe_glA Like.refl pas_main (by rfl) (pa_cons (pv 4) pa_nil)) (pe_non) (nomark _)) (pe_one (pe_cmpA Like.refl pas_main (pe_glA Like.refl pas_main (by rfl) (pa_cons (pv 4) (pa_cons (pe_int) (pa_cons (pv 3) pa_nil)))) (pe_tyA (T := "int") Like.refl pas_main (by rfl) (by decide +kernel) (pa_cons (pe_cmpA Like.refl pas_main (pe_opA Like.refl pas_main (pe_opA Like.refl pas_main (pv 3) (pv 5)) (pv 0)) (pe_int) (nomark _)) pa_nil)) (nomark _)))))))))))), ?_⟩
  walk_at "go"
  refine w_par ?_
  walk_at "go"
  refine w_cmA ?_
  walk_at "go"
  refine ⟨a.c_Evening, _, _, _, 6, InitT a.c_Evening a.c_Bill, rfl, T.cr_Evening, T.cm_Evening_together, GTg, hr.mono (by decide), ?_⟩
  walk_at "go"
  refine ⟨[.ref a.c_Evening, .int (n : Nat)], [.int A], rfl, rfl, by show 1 ≤ sizeLine; decide, fun p hp => ⟨n, p, [A], rfl, upd_same, okE, fun e H1 he s1 ev => ?_⟩⟩
  have s1 := (same_new (o := .tup [.int A]) hp).trans s1
  walk_at "go"
  refine ⟨_, _, rfl, ?_⟩
  dsimp only [List.set]
  walk_at "go"
  refine s_fn GR (hr.mono (by decide)) ⟨e, m, t, n, [(A, full n)], rfl, ev, okE, hm0, hm1, ht, fun T2 H2 s2 ⟨r2, g2, sh2⟩ => ?_⟩
  refine g_pair (SqT.of g2) ?_
  dsimp only [List.set]
  have ev2 := ev.same s2
  have sA := s1.trans s2
  obtain ⟨f1, f2⟩ := rep_full (A := A) hn2 hn8 hm0 hm1 t
  have hlen : (repRun n [(A, full n)] t m).1.length = n := repRun_len ..
  have hsum := rep_sum (m := m) hrow t
  have hspr := rep_spread (A := A) hn2 hn8 hm0 hm1 t
  have hbound : ∀ i : Nat, i < n → (repRun n [(A, full n)] t m).1[i]? = some (cellv n m ((t : Int) * A) (i : Int)) := fun i hi => by
    have := f1 (i : Int) (by omega) (by omega)
    rw [Int.toNat_natCast, List.getD_eq_getElem?_getD, List.getElem?_eq_getElem (by omega)] at this
    rw [List.getElem?_eq_getElem (by omega)]
    exact congrArg some this
  rw [f2, pl_mod hn2 hm0 hm1]
  generalize repRun n [(A, full n)] t m = RR at *
  obtain ⟨dx2, tt2, i1, i2⟩ := id sh2
  walk_at "go"
  refine s_mul (.inl ⟨by omega, by omega⟩) ?_
  walk_at "go"
  have hmm : (m + (A % (n : Int)) * (t : Int)) % (n : Int) = (m + (t : Int) * A) % (n : Int) := by
    rw [← pl_mod hn2 hm0 hm1, ← pl_mod hn2 hm0 hm1 ((t : Int) * A), mul_mod hn2 (t : Int) A, Int.mul_comm]
  rw [decide_eq_true hmm.symm]
  walk_at "go"
  refine s_prop T.cl_Shares T.pr_Shares_whole GW (hr.mono (by decide)) i1 ⟨r2, _, rfl, sh2, ?_⟩
  walk_at "go"
  refine s_mul (.inr ⟨by omega, by omega⟩) ?_
  walk_at "go"
  rw [decide_eq_true (by rw [hsum, Int.mul_comm])]
  walk_at "go"
  refine s_absI T.m_Shares__abs_ GA (hr.mono (by decide)) i1 ⟨r2, _, rfl, sh2, ?_⟩
  walk_at "go"
  rw [decide_eq_false (by omega)]
  walk_at "go"
  refine f_rng (n := n) (fun k σ H' => Same H2 H' ∧ ∃ x8 x9 x10 x11 x12, σ = [some (.int (n : Nat)), some (.int A), some (.int m), some (.int (t : Nat)), some (.ref e), some (.int (A % (n : Int))), some (.ref r2), some (.int ((m + (t : Int) * A) % (n : Int))), x8, x9, x10, x11, x12]) (fun R k => ?_) (by omega)
    ⟨Same.refl _, _, _, _, _, _, rfl⟩ (fun k σ H3 hk pv => ?_) (fun σ H3 pv => ?_)
  · walk_at "go"
    exact k
  · obtain ⟨s3, x8, x9, x10, x11, x12, rfl⟩ := pv
    refine w_name ?_
    dsimp only [List.set]
    walk_at "go"
    refine s_mul (.inl ⟨by omega, by omega⟩) ?_
    walk_at "go"
    refine s_fdiv ⟨by omega, by omega⟩ ?_
    dsimp only [List.set]
    walk_at "go"
    refine s_ixI T.m_Shares__getitem_ T.u_Shares__getitem_.choose_spec GG (hr.mono (by decide)) (s3 _ _ i1) ⟨r2, _, (k : Nat), rfl, sh2.same s3, fun c _ ec => ?_, fun z => absurd ⟨by omega, by rw [hlen]; omega⟩ z⟩
    rw [Int.toNat_natCast, hbound k hk] at ec
    cases ec
    walk_at "go"
    refine s_fdiv ⟨by omega, by omega⟩ ?_
    refine s_mul (.inl ⟨by omega, by omega⟩) ?_
    walk_at "go"
    rw [decide_eq_true (cell_form hn2 hm0 hm1 (by omega) (by omega) (t : Int))]
    walk_at "go"
    exact ⟨s3, _, _, _, _, _, rfl⟩
  · obtain ⟨s3, x8, x9, x10, x11, x12, rfl⟩ := pv
    obtain ⟨cl, hcl⟩ := common_last (A := A) (n := n) (by omega)
    have g1 : 1 ≤ Nat.gcd A.natAbs n := Nat.gcd_pos_of_pos_right _ (by omega)
    have g2 : Nat.gcd A.natAbs n ≤ n := Nat.le_of_dvd (by omega) (Nat.gcd_dvd_right ..)
    have hfr : frac A n = (A / ((Nat.gcd A.natAbs n : Nat) : Int), (n : Int) / ((Nat.gcd A.natAbs n : Nat) : Int)) := rfl
    generalize Nat.gcd A.natAbs n = g at *
    walk_at "go"
    refine c_rng2 (lo := 1) (hi := (n : Int) + 1) (m := n) (fun j => ((((List.range j).map fun i : Nat => (1 : Int) + (i : Int)).filter fun k => decide (A % k = 0) && decide ((n : Int) % k = 0))).map V.int) rfl (by omega) ⟨by omega, by omega, by omega, by omega⟩ (fun j hj => ?_) (fun _ => rfl) (fun j H' hj s4 => ?_) (fun pl0 H4 hpl s4 hL4 => ?_) (fun R k => ?_)
    · rw [List.length_map]
      have := List.length_filter_le (fun k => decide (A % k = 0) && decide ((n : Int) % k = 0)) ((List.range j).map fun i : Nat => (1 : Int) + (i : Int))
      rw [List.length_map, List.length_range] at this
      omega
    · have ej : ((((List.range (j + 1)).map fun i : Nat => (1 : Int) + (i : Int)).filter fun k => decide (A % k = 0) && decide ((n : Int) % k = 0))).map V.int = if (decide (A % (1 + (j : Int)) = 0) && decide ((n : Int) % (1 + (j : Int)) = 0)) = true then ((((List.range j).map fun i : Nat => (1 : Int) + (i : Int)).filter fun k => decide (A % k = 0) && decide ((n : Int) % k = 0))).map V.int ++ [V.int (1 + (j : Int))] else ((((List.range j).map fun i : Nat => (1 : Int) + (i : Int)).filter fun k => decide (A % k = 0) && decide ((n : Int) % k = 0))).map V.int := by
        rw [List.range_succ, List.map_append, List.filter_append, List.map_append, List.map_cons, List.map_nil, List.filter_cons]
        split
        · rfl
        · rw [List.filter_nil, List.map_nil, List.append_nil]
      show Turn1 _ _ _ _ (((((List.range j).map fun i : Nat => (1 : Int) + (i : Int)).filter fun k => decide (A % k = 0) && decide ((n : Int) % k = 0))).map V.int) (((((List.range (j + 1)).map fun i : Nat => (1 : Int) + (i : Int)).filter fun k => decide (A % k = 0) && decide ((n : Int) % k = 0))).map V.int)
      rw [ej]
      refine turn1_filter (fun R hR => ?_) fun _ H7 s7 R hR => ?_
      · refine w_andT (c := decide (A % (1 + (j : Int)) = 0)) (d := decide ((n : Int) % (1 + (j : Int)) = 0)) (fun R2 hR2 => ?_) (fun R2 hR2 => ?_) (hR _ (Same.refl _))
        · walk_at "go"
          exact hR2
        · walk_at "go"
          exact hR2
      · walk_at "go"
        exact hR _ (Same.refl _)
    · rw [hcl, List.map_append] at hL4
      walk_at "go"
      have hlast : atI (cl.map V.int ++ [(g : Int)].map V.int) (0 - 1) = some (V.int (g : Int)) := by
        have := at_last (cl.map V.int ++ [V.int (g : Int)]) (by simp)
        rw [List.getLast_concat] at this
        exact this
      refine s_ixL (SqL.of hL4) (v := .int (g : Nat)) hlast ?_
      walk_at "go"
      dsimp only [List.set]
      walk_at "go"
      have s24 := s3.trans s4
      refine s_fn GL (hr.mono (by decide)) ⟨e, m, n, [(A, full n)], rfl, ev2.same s24, okE, hm0, hm1, fun L T5 fs H5 s5 hL1 hLn hLy gT5 hfl hfrs => ?_⟩
      obtain ⟨y0, y1⟩ := repRun_range okE.2.2.2 hm0 hm1 n
      have hfrs' : ∀ (i : Nat) p, fs[i]? = some p → FracAt H5 p (frac A n) := fun i p e => by
        have := hfrs i p e
        rw [long_full hn2 hn8 y0 y1 hL1 (by rw [← hfl]; exact (List.getElem?_eq_some_iff.1 e).1) hLy] at this
        exact this
      walk_at "go"
      refine s_fdiv ⟨by omega, by omega⟩ ?_
      walk_at "go"
      refine s_fdiv ⟨by omega, by omega⟩ ?_
      walk_at "go"
      refine ⟨by show 2 ≤ sizeLine; decide, fun T6 hT6 => ?_⟩
      have s6 := same_new (o := .tup [.int (A / ((g : Nat) : Int)), .int ((n : Int) / ((g : Nat) : Int))]) hT6
      have gT6 : (upd H5 T6 (.tup [.int (A / ((g : Nat) : Int)), .int ((n : Int) / ((g : Nat) : Int))])) T6 = some (.tup [.int (A / ((g : Nat) : Int)), .int ((n : Int) / ((g : Nat) : Int))]) := upd_same
      generalize upd H5 T6 (.tup [.int (A / ((g : Nat) : Int)), .int ((n : Int) / ((g : Nat) : Int))]) = H6 at *
      walk_at "go"
      refine ⟨by show 1 ≤ sizeLine; decide, fun T7 hT7 => ?_⟩
      have s7 := same_new (o := .tup [.ref T6]) hT7
      have gT7 : (upd H6 T7 (.tup [.ref T6])) T7 = some (.tup [.ref T6]) := upd_same
      generalize upd H6 T7 (.tup [.ref T6]) = H7 at *
      walk_at "go"
      refine s_repT (k := n) (SqT.of gT7) (by omega) (by show 1 ≤ 1000; decide) fun p8 H8 s8 g8 => ?_
      walk_at "go"
      have s58 := (s6.trans s7).trans s8
      have dL : Dp K H8 (.ref T5) (.tuple (List.replicate n (prD2 (A / ((g : Nat) : Int)) ((n : Int) / ((g : Nat) : Int))))) := by
        have := dp_fracs (K := K) (H := H8) (x := frac A n) (fs := fs) fun i p e => s58 _ _ (hfrs' i p e)
        rw [hfl, hfr] at this
        exact .tup (SqT.of (s58 _ _ gT5)) this
      have dR : Dp K H8 (.ref p8) (.tuple (List.replicate n (prD2 (A / ((g : Nat) : Int)) ((n : Int) / ((g : Nat) : Int))))) := .tup g8 (dp_same1 (s8 _ _ (s7 _ _ gT6)) n)
      refine s_neD hr' dL dR (rep_shaped _ _ _) (rep_shaped _ _ _) ?_
      rw [rep_eqv]
      walk_at "go"
      have s28 := (s24.trans s5).trans s58
      refine s_fn GKn (hr.mono (by decide)) ⟨e, n, [(A, full n)], rfl, ev2.same s28, okE, fun H9 s9 => ?_⟩
      rw [known_full hn2 hn8]
      walk_at "go"
      refine s_isN ?_
      rw [decide_eq_true (rfl : V.non = V.non)]
      walk_at "go"
      refine s_fn GGa (hr.mono (by decide)) ⟨e, 0, t, n, [(A, full n)], rfl, (ev2.same s28).same s9, okE, Int.le_refl _, by omega, ht, fun H10 s10 => ?_⟩
      rw [show (0 : Int).toNat = 0 from rfl, gap_full hn2 hn8]
      walk_at "go"
      refine s_mul (.inl ⟨by omega, by omega⟩) ?_
      walk_at "go"
      refine s_intB ?_
      walk_at "go"
      have hd : decide ((if 0 < ((t : Int) * (A % (n : Int))) % (n : Int) then (1 : Int) else 0) = if decide (0 < ((t : Int) * (A % (n : Int))) % (n : Int)) = true then (1 : Int) else 0) = true := decide_eq_true (by
        by_cases z : 0 < ((t : Int) * (A % (n : Int))) % (n : Int)
        · rw [if_pos z, if_pos (decide_eq_true z)]
        · rw [if_neg z, if_neg (by rw [decide_eq_false z]; exact Bool.false_ne_true)])
      rw [hd]
      exact q _ (sA.trans ((s28.trans s9).trans s10))
    · walk_at "go"
      exact k
end

end Odd

namespace Odd
open PySem PySem.Spec PyProof.Rows L2
/-! tactics of this text: st one step, go as many as go -/
local macro_rules | `(tactic| walk_at "ar") => `(tactic| first | assumption | omega | (show (_ : Int) < _; omega) | decide)
local macro_rules | `(tactic| walk_at "st") => `(tactic| first
  | with_reducible refine' w_seq ?_
  | with_reducible refine' w_asg ?_
  | with_reducible refine' w_name ?_
  | with_reducible refine' w_c ?_
  | with_reducible refine' w_op ?_
  | with_reducible refine' w_ix ?_
  | with_reducible refine' w_at ?_
  | with_reducible refine' w_cons ?_
  | with_reducible refine' w_nil ?_
  | with_reducible refine' w_ret ?_
  | with_reducible refine' w_if ?_
  | with_reducible refine' w_test ?_
  | with_reducible refine' w_tr ?_
  | with_reducible refine' w_un ?_
  | with_reducible refine' w_andV ?_
  | with_reducible refine' w_orV ?_
  | with_reducible refine' w_notA ?_
  | with_reducible refine' w_ch ?_
  | with_reducible refine' w_and ?_
  | with_reducible refine' w_or ?_
  | with_reducible refine' w_not ?_
  | with_reducible refine' w_ifx ?_
  | with_reducible refine' w_tup ?_
  | with_reducible refine' w_lst ?_
  | with_reducible refine' w_next ?_
  | with_reducible refine' w_drop ?_
  | with_reducible refine' w_retN ?_
  | ((with_reducible refine' w_var ?h ?_); (case h => exact rfl))
  | ((with_reducible refine' w_bi ?h ?_); (case h => walk_at "mg"))
  | ((with_reducible refine' w_bv ?h ?_); (case h => walk_at "mg"))
  | ((with_reducible refine' w_gv ?h ?_); (case h => walk_at "mg"))
  | ((with_reducible refine' w_gl ?h ?k ?_); (case h => walk_at "mg"); (case k => walk_at "kp"))
  | ((with_reducible refine' w_glS ?h ?k ?_); (case h => walk_at "mg"); (case k => walk_at "kp"))
  | with_reducible refine' bl_ex ?_
  | with_reducible refine' iteT ?_
  | with_reducible refine' iteF ?_
  | with_reducible refine' ite_nf ?_
  | with_reducible refine' ite_nt ?_
  | with_reducible refine' s_add ?_
  | with_reducible refine' s_sub ?_
  | with_reducible refine' s_lt ?_
  | with_reducible refine' s_le ?_
  | with_reducible refine' s_gt ?_
  | with_reducible refine' s_ge ?_
  | with_reducible refine' s_eqI ?_
  | with_reducible refine' s_neI ?_
  | with_reducible refine' s_eqB ?_
  | with_reducible refine' s_neB ?_
  | with_reducible refine' s_truB ?_
  | with_reducible refine' s_truI ?_
  | with_reducible refine' s_neg ?_
  | ((with_reducible refine' s_mod ?h ?_); (case h => walk_at "ar")))
local macro_rules | `(tactic| walk_at "go") => `(tactic| repeat walk_at "st")

local macro_rules | `(tactic| walk_at "mg") => `(tactic| first | assumption | exact Facts.z_TypeError (by assumption) | exact Facts.z_abs (by assumption) | exact Facts.z_bool (by assumption) | exact Facts.z_classmethod (by assumption) | exact Facts.z_divmod (by assumption) | exact Facts.z_enumerate (by assumption) | exact Facts.z_int (by assumption) | exact Facts.z_isinstance (by assumption) | exact Facts.z_len (by assumption) | exact Facts.z_list (by assumption) | exact Facts.z_max (by assumption) | exact Facts.z_min (by assumption) | exact Facts.z_property (by assumption) | exact Facts.z_range (by assumption) | exact Facts.z_sorted (by assumption) | exact Facts.z_sum (by assumption) | exact Facts.z_super (by assumption) | exact Facts.z_tuple (by assumption) | exact Facts.z_zip (by assumption) | exact Facts.g__wall (by assumption) | exact Facts.g_is_between (by assumption) | exact Facts.g_check_seat (by assumption) | exact Facts.g_check_amount (by assumption) | exact Facts.g_check_seats (by assumption) | exact Facts.g_check_seat_count (by assumption) | exact Facts.g_check_bills (by assumption) | exact Facts.g_check_mark (by assumption) | exact Facts.g_check_times (by assumption) | exact Facts.g_no_shares (by assumption) | exact Facts.g_seats_behind (by assumption) | exact Facts.g_split_bill (by assumption) | exact Facts.g_twice (by assumption) | exact Facts.g_repeated (by assumption) | exact Facts.g_lowest_terms (by assumption) | exact Facts.g_long_run (by assumption) | exact Facts.g_marks_after (by assumption) | exact Facts.g_known_after (by assumption) | exact Facts.g_evening_of_few (by assumption) | exact Facts.g_reset (by assumption) | exact Facts.g_telling (by assumption) | exact Facts.g_share_for_bill (by assumption) | exact Facts.g_paid_from_each_mark (by assumption) | exact Facts.g_widest_gap (by assumption) | exact Facts.g_best_mark (by assumption) | exact Facts.g_longer_ways (by assumption) | exact Facts.g_spread_of (by assumption) | exact Facts.g_fairest_order (by assumption) | exact Facts.g__law_start (by assumption) | exact Facts.g__law_drawn (by assumption) | exact Facts.g__law_all_there (by assumption) | exact Facts.g__law_two_and_all (by assumption) | exact Facts.g_law (by assumption) | exact Facts.g_Shares (by assumption) | exact Facts.g_Bill (by assumption) | exact Facts.g_Evening (by assumption) | exact Facts.g_MarkObserver (by assumption))
local macro_rules | `(tactic| walk_at "kp") => `(tactic| first | assumption | exact (Facts.mk_Shares (by assumption)).kp | exact (Facts.mk_Bill (by assumption)).kp | exact (Facts.mk_Evening (by assumption)).kp | exact (Facts.mk_MarkObserver (by assumption)).kp | exact Fun.kp (Facts.u__wall (by assumption)).choose_spec | exact Fun.kp (Facts.u_is_between (by assumption)).choose_spec | exact Fun.kp (Facts.u_check_seat (by assumption)).choose_spec | exact Fun.kp (Facts.u_check_amount (by assumption)).choose_spec | exact Fun.kp (Facts.u_check_seats (by assumption)).choose_spec | exact Fun.kp (Facts.u_check_seat_count (by assumption)).choose_spec | exact Fun.kp (Facts.u_check_bills (by assumption)).choose_spec | exact Fun.kp (Facts.u_check_mark (by assumption)).choose_spec | exact Fun.kp (Facts.u_check_times (by assumption)).choose_spec | exact Fun.kp (Facts.u_no_shares (by assumption)).choose_spec | exact Fun.kp (Facts.u_seats_behind (by assumption)).choose_spec | exact Fun.kp (Facts.u_split_bill (by assumption)).choose_spec | exact Fun.kp (Facts.u_twice (by assumption)).choose_spec | exact Fun.kp (Facts.u_repeated (by assumption)).choose_spec | exact Fun.kp (Facts.u_lowest_terms (by assumption)).choose_spec | exact Fun.kp (Facts.u_long_run (by assumption)).choose_spec | exact Fun.kp (Facts.u_marks_after (by assumption)).choose_spec | exact Fun.kp (Facts.u_known_after (by assumption)).choose_spec | exact Fun.kp (Facts.u_evening_of_few (by assumption)).choose_spec | exact Fun.kp (Facts.u_reset (by assumption)).choose_spec | exact Fun.kp (Facts.u_telling (by assumption)).choose_spec | exact Fun.kp (Facts.u_share_for_bill (by assumption)).choose_spec | exact Fun.kp (Facts.u_paid_from_each_mark (by assumption)).choose_spec | exact Fun.kp (Facts.u_widest_gap (by assumption)).choose_spec | exact Fun.kp (Facts.u_best_mark (by assumption)).choose_spec | exact Fun.kp (Facts.u_longer_ways (by assumption)).choose_spec | exact Fun.kp (Facts.u_spread_of (by assumption)).choose_spec | exact Fun.kp (Facts.u_fairest_order (by assumption)).choose_spec | exact Fun.kp (Facts.u__law_start (by assumption)).choose_spec | exact Fun.kp (Facts.u__law_drawn (by assumption)).choose_spec | exact Fun.kp (Facts.u__law_all_there (by assumption)).choose_spec | exact Fun.kp (Facts.u__law_two_and_all (by assumption)).choose_spec | exact Fun.kp (Facts.u_law (by assumption)).choose_spec)
local macro_rules | `(tactic| walk_at "st") => `(tactic| ((with_reducible refine' w_name ?_); (try dsimp only [List.set])))

/-! ### k13: a table of three of which one is away now and then -/
theorem iteX' {c : Bool} {A B : Prop} (hc : c = true) (h : A) : if c = true then A else B := by rw [if_pos hc]; exact h
section
variable {P : Program} {w : World} {K : PySem.W.Frag} {mg : Str → Option Value} {base : Heap} {a : Ad}
theorem rem1 {c : Int} : Kn.remOf 3 [bA c, bB c] [0, 1, 2] 0 2 c = [0, 2] := by
  have e : ∀ m, Kn.shareOf 3 [bA c, bB c] m 0 2 = (splitC 3 m (bA c)).getD 2 0 := fun m => by
    unfold Kn.shareOf Kn.atBill
    rw [Nat.zero_div, Nat.zero_mod]
    rfl
  unfold Kn.remOf
  show List.filter (fun m => decide (Kn.shareOf 3 [bA c, bB c] m 0 2 = c)) [0, 1, 2] = [0, 2]
  simp only [List.filter_cons, List.filter_nil, e, A0.1, A1.1, A2.1]
  have h1 : decide (c + 1 = c) = false := decide_eq_false (by omega)
  simp [List.getD, h1]
theorem rem2 {c : Int} : Kn.remOf 3 [bA c, bB c] [0, 2] 1 0 c = [0, 2] := by
  have e : ∀ m, Kn.shareOf 3 [bA c, bB c] m 1 0 = (splitC 3 (splitM m (bA c)) (bB c)).getD 0 0 := fun m => by
    unfold Kn.shareOf Kn.atBill
    rw [Nat.div_eq_of_lt (show 1 < [bA c, bB c].length by show 1 < 2; decide), Nat.mod_eq_of_lt (show 1 < [bA c, bB c].length by show 1 < 2; decide)]
    rfl
  unfold Kn.remOf
  show List.filter (fun m => decide (Kn.shareOf 3 [bA c, bB c] m 1 0 = c)) [0, 2] = [0, 2]
  simp only [List.filter_cons, List.filter_nil, e, A0.2, A2.2, B1.1, B0.1]
  simp [List.getD]
def spTwo : Sp := fun vs H Q _ => ∃ c : Int, vs = [.int c] ∧ 1 ≤ c ∧ c ≤ 10 ^ 9 ∧ ∀ H', Same H H' → Q (.bl true) H'
set_option maxHeartbeats 8000000 in
theorem ok_two (T : Facts K mg a) : FnR P w K mg base (L2.CX P w) 9 a.f__law_two_and_all spTwo := by
  obtain ⟨fd, F⟩ := T.u__law_two_and_all
  have GBi : FnR P w K mg base (L2.CX P w) 3 a.f_Bill__init_ (InitB a.c_Bill) := ok_bi_init T
  have GI : FnR P w K mg base (L2.CX P w) 4 a.f_Evening__init_ (InitE a.c_Evening a.c_Bill) := ok_ev_init T
  have GC : FnR P w K mg base (L2.CX P w) 4 a.f_Evening__call_ (spEvCall a.c_Evening a.c_Bill a.c_Shares) := ok_ev_call T
  have GCe : FnR P w K mg base (L2.CX P w) 1 a.f_Shares_cents (spShCents a.c_Shares) := ok_sh_cents T
  have GKn : FnR P w K mg base (L2.CX P w) 5 a.f_known_after (spKnown a.c_Evening a.c_Bill) := ok_known T
  have GR : FnR P w K mg base (L2.CX P w) 7 a.f_reset (StarS "seat_count" (spReset a.c_Bill)) := ok_reset T
  have GT : FnR P w K mg base (L2.CX P w) 7 a.f_telling (StarS "seat_count" (spTelling a.c_Bill)) := ok_telling T
  have GF : FnR P w K mg base (L2.CX P w) 7 a.f_fairest_order (spFair a.c_Evening a.c_Bill) := ok_fairest T
  have GBm : FnR P w K mg base (L2.CX P w) 7 a.f_best_mark (spBest a.c_Evening a.c_Bill) := ok_best_mark T
  have GGa : FnR P w K mg base (L2.CX P w) 7 a.f_widest_gap (spGap a.c_Evening a.c_Bill) := ok_widest_gap T
  have GOi : FnR P w K mg base (L2.CX P w) 3 a.f_MarkObserver__init_ (Kn.spObInit a.c_MarkObserver a.c_Evening a.c_Bill a.c_InvalidNumber) := Kn.ok_ob_init T
  have GS : FnR P w K mg base (L2.CX P w) 7 a.f_MarkObserver_see (Kn.spSee a.c_MarkObserver a.c_Evening a.c_Bill a.c_Contradiction) := Kn.ok_see T
  have GPm : FnR P w K mg base (L2.CX P w) 1 a.f_MarkObserver_possible_marks (Kn.spObMarks a.c_MarkObserver) := Kn.ok_ob_marks T
  refine fnr_ok F sc__law_two_and_all (F.binds fun _ _ _ _ _ _ us hl => match us, hl with | [_], _ => rfl) (fun vs H Q E h => ?_) (fun cdv A' outer s H0 vs Q E hr h => ?_)
  · obtain ⟨c, rfl, _⟩ := h
    rfl
  obtain ⟨c, rfl, hc1, hc9, q⟩ := h
  have hr' := hr.units
  have e9 : (10 : Int) ^ 9 = 1000000000 := by decide
  have e12 : (10 : Int) ^ 12 = 1000000000000 := by decide
  have okA : OkBill (3 * c + 1, [0, 1, 2]) := ⟨by show 0 ≤ 3 * c + 1; omega, by show 3 * c + 1 ≤ 10 ^ 12; omega, by show asc 0 [0, 1, 2] = true; decide, by simp⟩
  have okB : OkBill (2 * c + 1, [0, 2]) := ⟨by show 0 ≤ 2 * c + 1; omega, by show 2 * c + 1 ≤ 10 ^ 12; omega, by show asc 0 [0, 2] = true; decide, by simp⟩
  have okC : OkBill (c * 3, [0, 1, 2]) := ⟨by show 0 ≤ c * 3; omega, by show c * 3 ≤ 10 ^ 12; omega, by show asc 0 [0, 1, 2] = true; decide, by simp⟩
  have sAA : ∀ s ∈ (bA c).2, s < ((3 : Nat) : Int) := by show ∀ s ∈ ([0, 1, 2] : List Int), s < 3; decide
  have sBB : ∀ s ∈ (bB c).2, s < ((3 : Nat) : Int) := by show ∀ s ∈ ([0, 2] : List Int), s < 3; decide
  have sCC : ∀ s ∈ (bC c).2, s < ((3 : Nat) : Int) := by show ∀ s ∈ ([0, 1, 2] : List Int), s < 3; decide
  have okE : OkEv 3 [bA c, bB c] := ⟨by decide, by decide, by show 2 ≤ 30; decide, fun b hb => by
    simp only [List.mem_cons, List.not_mem_nil, or_false] at hb
    rcases hb with rfl | rfl
    · exact ⟨okA, sAA⟩
    · exact ⟨okB, sBB⟩⟩
  have okE1 : OkEv 3 [bA c] := ⟨by decide, by decide, by show 1 ≤ 30; decide, fun b hb => by rw [List.mem_singleton.1 hb]; exact ⟨okA, sAA⟩⟩
  have okEC : OkEv 3 [bC c, bB c] := ⟨by decide, by decide, by show 2 ≤ 30; decide, fun b hb => by
    simp only [List.mem_cons, List.not_mem_nil, or_false] at hb
    rcases hb with rfl | rfl
    · exact ⟨okC, sCC⟩
    · exact ⟨okB, sBB⟩⟩
  have okEC1 : OkEv 3 [bC c] := ⟨by decide, by decide, by show 1 ≤ 30; decide, fun b hb => by rw [List.mem_singleton.1 hb]; exact ⟨okC, sCC⟩⟩
  have bis2 : ∀ {H : Hp} {p1 p2 : Addr} {x y : Int × List Int}, BiAt a.c_Bill H p1 x → BiAt a.c_Bill H p2 y → BisAt a.c_Bill H [p1, p2] [x, y] := fun h1 h2 => ⟨rfl, fun i p b e1 e2 => by
    match i, e1, e2 with
    | 0, e1, e2 => cases e1; cases e2; exact h1
    | 1, e1, e2 => cases e1; cases e2; exact h2
    | i + 2, e1, _ => simp at e1⟩
  have bis1 : ∀ {H : Hp} {p1 : Addr} {x : Int × List Int}, BiAt a.c_Bill H p1 x → BisAt a.c_Bill H [p1] [x] := fun h1 => ⟨rfl, fun i p b e1 e2 => by
    match i, e1, e2 with
    | 0, e1, e2 => cases e1; cases e2; exact h1
    | i + 1, e1, _ => simp at e1⟩
  refine ⟨_, (pss_cons (ps_set (i := 1) sc__law_two_and_all.nd rfl (Or.inl rfl) (pe_tup (pa_cons (pe_glA Like.refl pas_main (by rfl) (pa_cons (pe_opA Like.refl pas_main (pe_opA Like.refl pas_main (pe_int) (pv 0)) (pe_int)) (pa_cons (pe_int) (pa_cons (pe_int) (pa_cons (pe_int) pa_nil))))) (pa_cons (pe_glA Like.refl pas_main (by rfl) (pa_cons (pe_opA Like.refl pas_main (pe_opA Like.refl pas_main (pe_int) (pv 0)) (pe_int)) (pa_cons (pe_int) (pa_cons (pe_int) pa_nil)))) pa_nil))))
    (pss_cons (ps_set (i := 2) sc__law_two_and_all.nd rfl (Or.inl rfl) (pe_glA Like.refl pas_main (by rfl) (pa_cons (pe_int) (pa_cons (pe_ixA Like.refl pas_main (pv 1) (pe_int)) (pa_cons (pe_ixA Like.refl pas_main (pv 1) (pe_int)) pa_nil)))))
    (pss_cons (ps_if (PW.pt (pw_or (pt_cmpA Like.refl pas_main (pe_glA Like.refl pas_main (by rfl) (pa_cons (pv 2) pa_nil)) (pe_int) (nomark _)) (pw_or (pt_cmpA Like.refl pas_main (pe_glA Like.refl pas_main (by rfl) (pa_cons (pe_int) (pa_cons (pe_ixA Like.refl pas_main (pv 1) (pe_int)) (pa_cons (pe_ixA Like.refl pas_main (pv 1) (pe_int)) pa_nil)))) (pe_lst (pa_cons (pe_int) (pa_cons (pe_int) (pa_cons (pe_int) pa_nil)))) (nomark _)) (pw_or1 (pt_cmpA Like.refl pas_main (pe_glA Like.refl pas_main (by rfl) (pa_cons (pe_int) (pa_cons (pe_ixA Like.refl pas_main (pv 1) (pe_int)) pa_nil))) (pe_non) (nomark _)))))) (pss_one (ps_ret (pe_bl))) pss_nil)
    (pss_cons (ps_if (PW.pt (pw_or (pt_cmpA Like.refl pas_main (pe_glA Like.refl pas_main (by rfl) (pa_cons (pe_int) (pa_cons (pe_ixA Like.refl pas_main (pv 1) (pe_int)) pa_nil))) (pe_lst (pa_cons (pe_int) pa_nil)) (nomark _)) (pw_or1 (pt_cmpA Like.refl pas_main (pe_glA Like.refl pas_main (by rfl) (pa_cons (pe_int) (pa_cons (pe_glA Like.refl pas_main (by rfl) (pa_cons (pe_opA Like.refl pas_main (pv 0) (pe_int)) (pa_cons (pe_int) (pa_cons (pe_int) (pa_cons (pe_int) pa_nil))))) (pa_cons (pe_ixA Like.refl pas_main (pv 1) (pe_int)) pa_nil)))) (pe_lst (pa_cons (pe_int) pa_nil)) (nomark _))))) (pss_one (ps_ret (pe_bl))) pss_nil)
    (pss_cons (ps_if (pt_cmpA Like.refl pas_main (pe_glA Like.refl pas_main (by rfl) (pa_cons (pe_int) (pa_cons (pe_glA Like.refl pas_main (by rfl) (pa_cons (pe_opA Like.refl pas_main (pv 0) (pe_int)) (pa_cons (pe_int) (pa_cons (pe_int) (pa_cons (pe_int) pa_nil))))) pa_nil))) (pe_non) (nomark _)) (pss_one (ps_ret (pe_bl))) pss_nil)
    (pss_cons (ps_if (PW.pt (pw_or (pt_cmpA Like.refl pas_main (pe_glA Like.refl pas_main (by rfl) (pa_cons (pv 2) (pa_cons (pe_int) pa_nil))) (pe_lst (pa_cons (pe_int) (pa_cons (pe_int) pa_nil))) (nomark _)) (pw_or (pt_cmpA Like.refl pas_main (pe_glA Like.refl pas_main (by rfl) (pa_cons (pv 2) (pa_cons (pe_int) (pa_cons (pe_int) pa_nil)))) (pe_int) (nomark _)) (pw_or1 (pt_cmpA Like.refl pas_main (pe_glA Like.refl pas_main (by rfl) (pa_cons (pv 2) (pa_cons (pe_int) (pa_cons (pe_int) pa_nil)))) (pe_int) (nomark _)))))) (pss_one (ps_ret (pe_bl))) pss_nil)
    (pss_cons (ps_set (i := 3) sc__law_two_and_all.nd rfl (Or.inl rfl) (pe_glA Like.refl pas_main (by rfl) (pa_cons (pv 2) pa_nil)))
    (pss_cons (ps_if (PW.pt (pw_or (pt_cmpA Like.refl pas_main (pe_lst (pa_cons (pe_meA (pl := _) Like.refl pas_main (pv 3) (pa_cons (pe_int) (pa_cons (pe_int) (pa_cons (pv 0) pa_nil)))) (pa_cons (pe_meA (pl := _) Like.refl pas_main (pv 3) (pa_cons (pe_int) (pa_cons (pe_int) (pa_cons (pv 0) pa_nil)))) pa_nil))) (pe_lst (pa_cons (pe_int) (pa_cons (pe_int) pa_nil))) (nomark _)) (pw_or1 (pt_cmpA Like.refl pas_main (pe_atA Like.refl pas_main (pv 3)) (pe_tup (pa_cons (pe_int) (pa_cons (pe_int) pa_nil))) (nomark _))))) (pss_one (ps_ret (pe_bl))) pss_nil)
    (pss_cons (ps_asg (pe_coA Like.refl pas_main (pv 2) (pa_cons (pe_int) pa_nil)) (pg_tup rfl (pgs_cons (pg_name (i := 4) sc__law_two_and_all.nd rfl (Or.inl rfl)) (pgs_cons (pg_name (i := 5) sc__law_two_and_all.nd rfl (Or.inl rfl)) pgs_nil))))
    (pss_one (ps_ret (pe_and (pe_cmpA Like.refl pas_main (pe_atA Like.refl pas_main (pv 4)) (pe_tup (pa_cons (pe_opA Like.refl pas_main (pe_int) (pv 0)) (pa_cons (pe_opA Like.refl pas_main (pe_opA Like.refl pas_main (pe_opA Like.refl pas_main (pe_int) (pv 0)) (pv 0)) (pe_int)) (pa_cons (pe_opA Like.refl pas_main (pe_opA Like.refl pas_main (pe_int) (pv 0)) (pe_int)) pa_nil)))) (nomark _)) (pe_one (pe_cmpA Like.refl pas_main (pv 5) (pe_int) (nomark _))))))))))))))), ?_⟩
  walk_at "go"
  refine s_mul (.inl ⟨by decide, by decide⟩) ?_
  walk_at "go"
  refine s_bill (i := 3 * c + 1) (ss := [0, 1, 2]) T GBi (hr.mono (by decide)) okA (by decide) fun p1 H1 hp1 s1 bi1 => ?_
  walk_at "go"
  refine s_mul (.inl ⟨by decide, by decide⟩) ?_
  walk_at "go"
  refine s_bill (i := 2 * c + 1) (ss := [0, 2]) T GBi (hr.mono (by decide)) okB (by decide) fun p2 H2 hp2 s2 bi2 => ?_
  walk_at "go"
  refine ⟨by show 2 ≤ sizeLine; decide, fun T3 hT3 => ?_⟩
  have s3 := same_new (o := .tup [.ref p1, .ref p2]) hT3
  have g3 : (upd H2 T3 (.tup [.ref p1, .ref p2])) T3 = some (.tup [.ref p1, .ref p2]) := upd_same
  generalize upd H2 T3 (.tup [.ref p1, .ref p2]) = H3 at *
  have c1 := (bi1.same s2).same s3
  have c2 := bi2.same s3
  have sA := (s1.trans s2).trans s3
  walk_at "go"
  refine s_ixT (SqT.of g3) (v := .ref p1) rfl ?_
  walk_at "go"
  refine s_ixT (SqT.of g3) (v := .ref p2) rfl ?_
  walk_at "go"
  refine s_evening (n := 3) (ps := [p1, p2]) (bs := [bA c, bB c]) T GI (hr.mono (by decide)) (bis2 c1 c2) okE fun e H4 he s4 ev => ?_
  have c1 := c1.same s4
  have c2 := c2.same s4
  have g3 := s4 _ _ g3
  have sA := sA.trans s4
  walk_at "go"
  -- how many bills until the mark is known
  refine s_fn GKn (hr.mono (by decide)) ⟨e, 3, [bA c, bB c], rfl, ev, okE, fun H5 s5 => ?_⟩
  rw [known_two]
  have ev := ev.same s5
  have c1 := c1.same s5
  have c2 := c2.same s5
  have g3 := s5 _ _ g3
  have sA := sA.trans s5
  walk_at "go"
  refine iteF' (by decide) ?_
  walk_at "go"
  refine s_ixT (SqT.of g3) (v := .ref p1) rfl ?_
  walk_at "go"
  refine s_ixT (SqT.of g3) (v := .ref p2) rfl ?_
  walk_at "go"
  refine s_fn GR (hr.mono (by decide)) ⟨[.int 3], [.ref p1, .ref p2], rfl, rfl, by show 2 ≤ sizeLine; decide, fun t ht => ⟨3, t, [p1, p2], [bA c, bB c], rfl, upd_same, (bis2 c1 c2).same (same_new ht), okE, by show 2 ≤ 6; decide, fun z => absurd (reset_two.symm.trans z) (by simp), fun ks ek p H6 hp s6 g6 => ?_⟩⟩
  have ek : ks = [1, 0, 1] := Option.some.inj (ek.symm.trans reset_two)
  subst ek
  have s6 := (same_new (o := .tup [.ref p1, .ref p2]) ht).trans s6
  walk_at "go"
  refine ⟨by show 3 ≤ sizeLine; decide, fun l7 hl7 => ?_⟩
  have s7 := same_new (o := .lst [.int 1, .int 0, .int 1]) hl7
  refine s_neLsts (cs := nI [1, 0, 1]) (ds := [1, 0, 1]) hr' (SqL.of (s7 _ _ g6)) (SqL.of upd_same) ?_
  have s67 := s6.trans s7
  have ev := ev.same s67
  have c1 := c1.same s67
  have c2 := c2.same s67
  have g3 := s67 _ _ g3
  have sA := sA.trans s67
  generalize upd H6 l7 (.lst [.int 1, .int 0, .int 1]) = H7 at *
  walk_at "go"
  refine iteF' (by decide) ?_
  walk_at "go"
  refine s_ixT (SqT.of g3) (v := .ref p1) rfl ?_
  walk_at "go"
  refine s_fn GR (hr.mono (by decide)) ⟨[.int 3], [.ref p1], rfl, rfl, by show 1 ≤ sizeLine; decide, fun t ht => ⟨3, t, [p1], [bA c], rfl, upd_same, (bis1 c1).same (same_new ht), okE1, by show 1 ≤ 6; decide, fun z H8 s8 => ?_, fun ks ek => absurd (reset_one.symm.trans ek) (by simp)⟩⟩
  have s8 := (same_new (o := .tup [.ref p1]) ht).trans s8
  walk_at "go"
  refine s_notN ?_
  rw [decide_eq_true (rfl : V.non = V.non)]
  have ev := ev.same s8
  have c1 := c1.same s8
  have c2 := c2.same s8
  have g3 := s8 _ _ g3
  have sA := sA.trans s8
  walk_at "go"
  -- which bills tell
  refine s_ixT (SqT.of g3) (v := .ref p1) rfl ?_
  walk_at "go"
  have tA1 : tellV [bA c] = some 0 := by
    unfold tellV
    rw [List.findIdx?_cons, odd_A]
    rfl
  refine s_fn GT (hr.mono (by decide)) ⟨[.int 3], [.ref p1], rfl, rfl, by show 1 ≤ sizeLine; decide, fun t ht => ⟨3, t, [p1], [bA c], rfl, upd_same, (bis1 c1).same (same_new ht), okE1, by show 1 ≤ 6; decide, fun z => absurd (tA1.symm.trans z) (by simp), fun i ei p H9 hp s9 g9 => ?_⟩⟩
  have ei : i = 0 := Option.some.inj (ei.symm.trans tA1)
  subst ei
  have s9 := (same_new (o := .tup [.ref p1]) ht).trans s9
  walk_at "go"
  refine ⟨by show 1 ≤ sizeLine; decide, fun l10 hl10 => ?_⟩
  have s10 := same_new (o := .lst [.int 0]) hl10
  refine s_neLsts (cs := [0]) (ds := [0]) hr' (SqL.of (s10 _ _ g9)) (SqL.of upd_same) ?_
  have s910 := s9.trans s10
  have ev := ev.same s910
  have c1 := c1.same s910
  have c2 := c2.same s910
  have g3 := s910 _ _ g3
  have sA := sA.trans s910
  generalize upd H9 l10 (.lst [.int 0]) = H10 at *
  walk_at "go"
  refine iteF' (by decide) ?_
  walk_at "go"
  refine s_mul (.inr ⟨by decide, by decide⟩) ?_
  walk_at "go"
  refine s_bill (i := c * 3) (ss := [0, 1, 2]) T GBi (hr.mono (by decide)) okC (by decide) fun p11 H11 hp11 s11 bi11 => ?_
  have ev := ev.same s11
  have c1 := c1.same s11
  have c2 := c2.same s11
  have g3 := s11 _ _ g3
  have sA := sA.trans s11
  walk_at "go"
  refine s_ixT (SqT.of g3) (v := .ref p2) rfl ?_
  walk_at "go"
  have tC2 : tellV [bC c, bB c] = some 1 := by
    unfold tellV
    rw [List.findIdx?_cons, odd_C, List.findIdx?_cons, odd_B]
    rfl
  refine s_fn GT (hr.mono (by decide)) ⟨[.int 3], [.ref p11, .ref p2], rfl, rfl, by show 2 ≤ sizeLine; decide, fun t ht => ⟨3, t, [p11, p2], [bC c, bB c], rfl, upd_same, (bis2 bi11 c2).same (same_new ht), okEC, by show 2 ≤ 6; decide, fun z => absurd (tC2.symm.trans z) (by simp), fun i ei p H12 hp s12 g12 => ?_⟩⟩
  have ei : i = 1 := Option.some.inj (ei.symm.trans tC2)
  subst ei
  have s12 := (same_new (o := .tup [.ref p11, .ref p2]) ht).trans s12
  walk_at "go"
  refine ⟨by show 1 ≤ sizeLine; decide, fun l13 hl13 => ?_⟩
  have s13 := same_new (o := .lst [.int 1]) hl13
  refine s_neLsts (cs := [1]) (ds := [1]) hr' (SqL.of (s13 _ _ g12)) (SqL.of upd_same) ?_
  have s1213 := s12.trans s13
  have ev := ev.same s1213
  have sA := sA.trans s1213
  generalize upd H12 l13 (.lst [.int 1]) = H13 at *
  walk_at "go"
  refine iteF' (by decide) ?_
  walk_at "go"
  refine s_mul (.inr ⟨by decide, by decide⟩) ?_
  walk_at "go"
  refine s_bill (i := c * 3) (ss := [0, 1, 2]) T GBi (hr.mono (by decide)) okC (by decide) fun p14 H14 hp14 s14 bi14 => ?_
  have ev := ev.same s14
  have sA := sA.trans s14
  walk_at "go"
  have tC1 : tellV [bC c] = none := by
    unfold tellV
    rw [List.findIdx?_cons, odd_C]
    rfl
  refine s_fn GT (hr.mono (by decide)) ⟨[.int 3], [.ref p14], rfl, rfl, by show 1 ≤ sizeLine; decide, fun t ht => ⟨3, t, [p14], [bC c], rfl, upd_same, (bis1 bi14).same (same_new ht), okEC1, by show 1 ≤ 6; decide, fun z H15 s15 => ?_, fun ks ek => absurd (tC1.symm.trans ek) (by simp)⟩⟩
  have s15 := (same_new (o := .tup [.ref p14]) ht).trans s15
  walk_at "go"
  refine s_notN ?_
  rw [decide_eq_true (rfl : V.non = V.non)]
  have ev := ev.same s15
  have sA := sA.trans s15
  walk_at "go"
  -- the fairest order, the best mark, the gap
  refine s_fn GF (hr.mono (by decide)) ⟨e, 0, 3, [bA c, bB c], rfl, ev, okE, by show 2 ≤ 7; decide, Int.le_refl _, by decide, fun p H16 hp s16 g16 => ?_⟩
  rw [fair_two hc1] at g16
  walk_at "go"
  refine ⟨by show 2 ≤ sizeLine; decide, fun l17 hl17 => ?_⟩
  have s17 := same_new (o := .lst [.int 0, .int 1]) hl17
  refine s_neLsts (cs := [0, 1]) (ds := [0, 1]) hr' (SqL.of (s17 _ _ g16)) (SqL.of upd_same) ?_
  have s1617 := s16.trans s17
  have ev := ev.same s1617
  have sA := sA.trans s1617
  generalize upd H16 l17 (.lst [.int 0, .int 1]) = H17 at *
  walk_at "go"
  refine iteF' (by decide) ?_
  walk_at "go"
  refine s_fn GBm (hr.mono (by decide)) ⟨e, 0, 1, 3, [bA c, bB c], rfl, ev, okE, Int.le_refl _, by decide, by decide, fun H18 s18 => ?_⟩
  rw [show (0 : Int).toNat = 0 from rfl, best_two]
  have ev := ev.same s18
  have sA := sA.trans s18
  walk_at "go"
  refine iteF' (by decide) ?_
  walk_at "go"
  refine s_fn GGa (hr.mono (by decide)) ⟨e, 0, 1, 3, [bA c, bB c], rfl, ev, okE, Int.le_refl _, by decide, by decide, fun H19 s19 => ?_⟩
  rw [show (0 : Int).toNat = 0 from rfl, gap_two]
  have ev := ev.same s19
  have sA := sA.trans s19
  walk_at "go"
  refine iteF' (by decide) ?_
  walk_at "go"
  -- an observer
  refine Kn.s_observer T GOi (hr.mono (by decide)) ev (by decide) (by simp) fun ob l H20 hob hl hobl s20 obs => ?_
  have ev20 := ev.same s20
  have sA20 := sA.trans s20
  have obs : Kn.ObsAt a.c_MarkObserver H20 ob e [0, 1, 2] l [] [] := obs
  walk_at "go"
  refine w_meA ?_
  walk_at "go"
  obtain ⟨dxo, to1, o1, o2, o3, o4⟩ := id obs
  refine ⟨ob, a.c_MarkObserver, dxo, _, a.f_MarkObserver_see, rfl, o1, T.cl_MarkObserver, T.m_MarkObserver_see, T.m_MarkObserver_see.kp, rfl, ?_⟩
  walk_at "go"
  refine s_fn GS (hr.mono (by decide)) ⟨ob, e, l, [0, 1, 2], [], [], 0, 2, 3, c, [bA c, bB c], rfl, obs, ev20, okE, by simp, by decide, by decide, by decide, by decide, by decide, .inr ⟨by rw [rem1]; simp, fun H21 r21 k21 ob21 => ?_⟩⟩
  rw [rem1] at ob21
  rw [rem1]
  have sX21 : Same H19 H21 := fun b o z => k21 b o (ne_of_none z hob) (ne_of_none z hl) (s20 _ _ z)
  have ev21 := ev.same sX21
  walk_at "go"
  refine w_meA ?_
  walk_at "go"
  obtain ⟨dxo2, to2, o1b, o2b, o3b, o4b⟩ := id ob21
  refine ⟨ob, a.c_MarkObserver, dxo2, _, a.f_MarkObserver_see, rfl, o1b, T.cl_MarkObserver, T.m_MarkObserver_see, T.m_MarkObserver_see.kp, rfl, ?_⟩
  walk_at "go"
  refine s_fn GS (hr.mono (by decide)) ⟨ob, e, l, [0, 2], _, _, 1, 0, 3, c, [bA c, bB c], rfl, ob21, ev21, okE, by simp, by decide, by decide, by show 1 ≤ 1000; decide, by decide, by decide, .inr ⟨by rw [rem2]; simp, fun H22 r22 k22 ob22 => ?_⟩⟩
  rw [rem2] at ob22
  rw [rem2]
  have sX22 : Same H19 H22 := fun b o z => k22 b o (ne_of_none z hob) (ne_of_none z hl) (sX21 _ _ z)
  have ev22 := ev.same sX22
  have sA22 := sA.trans sX22
  walk_at "go"
  refine ⟨by show 2 ≤ sizeLine; decide, fun l23 hl23 => ?_⟩
  have s23 := same_new (o := .lst [.int 2, .int 2]) hl23
  have g23 : (upd H22 l23 (.lst [.int 2, .int 2])) l23 = some (.lst [.int 2, .int 2]) := upd_same
  show tLst _ _ _ _
  generalize upd H22 l23 (.lst [.int 2, .int 2]) = H23 at *
  walk_at "go"
  refine ⟨by show 2 ≤ sizeLine; decide, fun l24 hl24 => ?_⟩
  have s24 := same_new (o := .lst [.int 2, .int 2]) hl24
  refine s_neLsts (cs := [2, 2]) (ds := [2, 2]) hr' (SqL.of (s24 _ _ g23)) (SqL.of upd_same) ?_
  generalize upd H23 l24 (.lst [.int 2, .int 2]) = H24 at *
  have s2224 := s23.trans s24
  have ob24 := ob22.same s2224
  have ev24 := ev22.same s2224
  have sA24 := sA22.trans s2224
  walk_at "go"
  refine iteF' (by decide) ?_
  walk_at "go"
  obtain ⟨dxo3, to3, o1c, o2c, o3c, o4c⟩ := id ob24
  refine s_prop T.cl_MarkObserver T.pr_MarkObserver_possible_marks GPm (hr.mono (by decide)) o1c ⟨ob, e, [0, 2], l, _, _, rfl, ob24, fun t25 ht25 => ?_⟩
  walk_at "go"
  refine ⟨by show 2 ≤ sizeLine; decide, fun T26 hT26 => ?_⟩
  have s26 := same_new (o := .tup [.int 0, .int 2]) hT26
  refine s_neTups (cs := [0, 2]) (ds := [0, 2]) hr' (SqT.of (s26 _ _ ht25)) (SqT.of upd_same) ?_
  generalize upd H24 T26 (.tup [.int 0, .int 2]) = H26 at *
  have ev26 := ev24.same s26
  have sA26 := sA24.trans s26
  walk_at "go"
  refine iteF' (by decide) ?_
  walk_at "go"
  refine w_coA ?_
  walk_at "go"
  refine ⟨e, rfl, ?_⟩
  walk_at "go"
  refine s_evc T GC (hr.mono (by decide)) ev26 okE (Int.le_refl _) (by decide) fun T27 r27 H27 hT27 s27 g27 sh27 => ?_
  refine g_pair (SqT.of g27) ?_
  rw [ev0] at sh27 ⊢
  dsimp only [List.set]
  obtain ⟨dx27, t27, i1, i2⟩ := id sh27
  walk_at "go"
  refine s_prop T.cl_Shares T.pr_Shares_cents GCe (hr.mono (by decide)) i1 ⟨r27, dx27, t27, rfl, i1, ?_⟩
  walk_at "go"
  refine s_mul (.inl ⟨by decide, by decide⟩) ?_
  walk_at "go"
  refine s_mul (.inl ⟨by decide, by decide⟩) ?_
  walk_at "go"
  refine s_mul (.inl ⟨by decide, by decide⟩) ?_
  walk_at "go"
  refine ⟨by show 3 ≤ sizeLine; decide, fun T28 hT28 => ?_⟩
  have s28 := same_new (o := .tup [.int (2 * c), .int (2 * c - c + 1), .int (2 * c + 1)]) hT28
  refine s_eqTups (cs := [2 * c, c + 1, 2 * c + 1]) (ds := [2 * c, 2 * c - c + 1, 2 * c + 1]) hr' (SqT.of (s28 _ _ i2)) (SqT.of upd_same) ?_
  rw [decide_eq_true (by rw [show 2 * c - c + 1 = c + 1 by omega])]
  walk_at "go"
  exact q _ (sA26.trans (s27.trans s28))
end

end Odd

namespace Odd
open PySem PySem.Spec PyProof.Rows L2
/-! tactics of this text: st one step, go as many as go -/
local macro_rules | `(tactic| walk_at "ar") => `(tactic| first | assumption | omega | (show (_ : Int) < _; omega) | decide)
local macro_rules | `(tactic| walk_at "st") => `(tactic| first
  | with_reducible refine' w_seq ?_
  | with_reducible refine' w_asg ?_
  | with_reducible refine' w_name ?_
  | with_reducible refine' w_c ?_
  | with_reducible refine' w_op ?_
  | with_reducible refine' w_ix ?_
  | with_reducible refine' w_at ?_
  | with_reducible refine' w_cons ?_
  | with_reducible refine' w_nil ?_
  | with_reducible refine' w_ret ?_
  | with_reducible refine' w_if ?_
  | with_reducible refine' w_test ?_
  | with_reducible refine' w_tr ?_
  | with_reducible refine' w_un ?_
  | with_reducible refine' w_andV ?_
  | with_reducible refine' w_orV ?_
  | with_reducible refine' w_notA ?_
  | with_reducible refine' w_ch ?_
  | with_reducible refine' w_and ?_
  | with_reducible refine' w_or ?_
  | with_reducible refine' w_not ?_
  | with_reducible refine' w_ifx ?_
  | with_reducible refine' w_tup ?_
  | with_reducible refine' w_lst ?_
  | with_reducible refine' w_next ?_
  | with_reducible refine' w_drop ?_
  | with_reducible refine' w_retN ?_
  | ((with_reducible refine' w_var ?h ?_); (case h => exact rfl))
  | ((with_reducible refine' w_bi ?h ?_); (case h => walk_at "mg"))
  | ((with_reducible refine' w_bv ?h ?_); (case h => walk_at "mg"))
  | ((with_reducible refine' w_gv ?h ?_); (case h => walk_at "mg"))
  | ((with_reducible refine' w_gl ?h ?k ?_); (case h => walk_at "mg"); (case k => walk_at "kp"))
  | ((with_reducible refine' w_glS ?h ?k ?_); (case h => walk_at "mg"); (case k => walk_at "kp"))
  | with_reducible refine' bl_ex ?_
  | with_reducible refine' iteT ?_
  | with_reducible refine' iteF ?_
  | with_reducible refine' ite_nf ?_
  | with_reducible refine' ite_nt ?_
  | with_reducible refine' s_add ?_
  | with_reducible refine' s_sub ?_
  | with_reducible refine' s_lt ?_
  | with_reducible refine' s_le ?_
  | with_reducible refine' s_gt ?_
  | with_reducible refine' s_ge ?_
  | with_reducible refine' s_eqI ?_
  | with_reducible refine' s_neI ?_
  | with_reducible refine' s_eqB ?_
  | with_reducible refine' s_neB ?_
  | with_reducible refine' s_truB ?_
  | with_reducible refine' s_truI ?_
  | with_reducible refine' s_neg ?_
  | ((with_reducible refine' s_mod ?h ?_); (case h => walk_at "ar")))
local macro_rules | `(tactic| walk_at "go") => `(tactic| repeat walk_at "st")

local macro_rules | `(tactic| walk_at "mg") => `(tactic| first | assumption | exact Facts.z_TypeError (by assumption) | exact Facts.z_abs (by assumption) | exact Facts.z_bool (by assumption) | exact Facts.z_classmethod (by assumption) | exact Facts.z_divmod (by assumption) | exact Facts.z_enumerate (by assumption) | exact Facts.z_int (by assumption) | exact Facts.z_isinstance (by assumption) | exact Facts.z_len (by assumption) | exact Facts.z_list (by assumption) | exact Facts.z_max (by assumption) | exact Facts.z_min (by assumption) | exact Facts.z_property (by assumption) | exact Facts.z_range (by assumption) | exact Facts.z_sorted (by assumption) | exact Facts.z_sum (by assumption) | exact Facts.z_super (by assumption) | exact Facts.z_tuple (by assumption) | exact Facts.z_zip (by assumption) | exact Facts.g__wall (by assumption) | exact Facts.g_is_between (by assumption) | exact Facts.g_check_seat (by assumption) | exact Facts.g_check_amount (by assumption) | exact Facts.g_check_seats (by assumption) | exact Facts.g_check_seat_count (by assumption) | exact Facts.g_check_bills (by assumption) | exact Facts.g_check_mark (by assumption) | exact Facts.g_check_times (by assumption) | exact Facts.g_no_shares (by assumption) | exact Facts.g_seats_behind (by assumption) | exact Facts.g_split_bill (by assumption) | exact Facts.g_twice (by assumption) | exact Facts.g_repeated (by assumption) | exact Facts.g_lowest_terms (by assumption) | exact Facts.g_long_run (by assumption) | exact Facts.g_marks_after (by assumption) | exact Facts.g_known_after (by assumption) | exact Facts.g_evening_of_few (by assumption) | exact Facts.g_reset (by assumption) | exact Facts.g_telling (by assumption) | exact Facts.g_share_for_bill (by assumption) | exact Facts.g_paid_from_each_mark (by assumption) | exact Facts.g_widest_gap (by assumption) | exact Facts.g_best_mark (by assumption) | exact Facts.g_longer_ways (by assumption) | exact Facts.g_spread_of (by assumption) | exact Facts.g_fairest_order (by assumption) | exact Facts.g__law_start (by assumption) | exact Facts.g__law_drawn (by assumption) | exact Facts.g__law_all_there (by assumption) | exact Facts.g__law_two_and_all (by assumption) | exact Facts.g_law (by assumption) | exact Facts.g_Shares (by assumption) | exact Facts.g_Bill (by assumption) | exact Facts.g_Evening (by assumption) | exact Facts.g_MarkObserver (by assumption))
local macro_rules | `(tactic| walk_at "kp") => `(tactic| first | assumption | exact (Facts.mk_Shares (by assumption)).kp | exact (Facts.mk_Bill (by assumption)).kp | exact (Facts.mk_Evening (by assumption)).kp | exact (Facts.mk_MarkObserver (by assumption)).kp | exact Fun.kp (Facts.u__wall (by assumption)).choose_spec | exact Fun.kp (Facts.u_is_between (by assumption)).choose_spec | exact Fun.kp (Facts.u_check_seat (by assumption)).choose_spec | exact Fun.kp (Facts.u_check_amount (by assumption)).choose_spec | exact Fun.kp (Facts.u_check_seats (by assumption)).choose_spec | exact Fun.kp (Facts.u_check_seat_count (by assumption)).choose_spec | exact Fun.kp (Facts.u_check_bills (by assumption)).choose_spec | exact Fun.kp (Facts.u_check_mark (by assumption)).choose_spec | exact Fun.kp (Facts.u_check_times (by assumption)).choose_spec | exact Fun.kp (Facts.u_no_shares (by assumption)).choose_spec | exact Fun.kp (Facts.u_seats_behind (by assumption)).choose_spec | exact Fun.kp (Facts.u_split_bill (by assumption)).choose_spec | exact Fun.kp (Facts.u_twice (by assumption)).choose_spec | exact Fun.kp (Facts.u_repeated (by assumption)).choose_spec | exact Fun.kp (Facts.u_lowest_terms (by assumption)).choose_spec | exact Fun.kp (Facts.u_long_run (by assumption)).choose_spec | exact Fun.kp (Facts.u_marks_after (by assumption)).choose_spec | exact Fun.kp (Facts.u_known_after (by assumption)).choose_spec | exact Fun.kp (Facts.u_evening_of_few (by assumption)).choose_spec | exact Fun.kp (Facts.u_reset (by assumption)).choose_spec | exact Fun.kp (Facts.u_telling (by assumption)).choose_spec | exact Fun.kp (Facts.u_share_for_bill (by assumption)).choose_spec | exact Fun.kp (Facts.u_paid_from_each_mark (by assumption)).choose_spec | exact Fun.kp (Facts.u_widest_gap (by assumption)).choose_spec | exact Fun.kp (Facts.u_best_mark (by assumption)).choose_spec | exact Fun.kp (Facts.u_longer_ways (by assumption)).choose_spec | exact Fun.kp (Facts.u_spread_of (by assumption)).choose_spec | exact Fun.kp (Facts.u_fairest_order (by assumption)).choose_spec | exact Fun.kp (Facts.u__law_start (by assumption)).choose_spec | exact Fun.kp (Facts.u__law_drawn (by assumption)).choose_spec | exact Fun.kp (Facts.u__law_all_there (by assumption)).choose_spec | exact Fun.kp (Facts.u__law_two_and_all (by assumption)).choose_spec | exact Fun.kp (Facts.u_law (by assumption)).choose_spec)
local macro_rules | `(tactic| walk_at "st") => `(tactic| ((with_reducible refine' w_name ?_); (try dsimp only [List.set])))

/-! ### k13: known tables -/
section
variable {P : Program} {w : World} {K : PySem.W.Frag} {mg : Str → Option Value} {base : Heap} {a : Ad}
def spLaw (K : PySem.W.Frag) : Sp := fun vs H Q _ => ∃ (a : Addr) (ns : List Int), vs = [.ref a] ∧ SqL K H a (ns.map V.int) ∧ ns.length ≤ 63 ∧ ∀ H', Q (.bl true) H'
theorem ok_law (T : Facts K mg a) {fd : FuncData} (F : Fun K "law" "law" s_law a.f_law fd) : FnOk P w K mg base (L2.CX P w) 11 a.f_law fd ["_law_script"] (spLaw K) := by
  have GSt : FnR P w K mg base (L2.CX P w) 1 a.f__law_start (spStart K) := ok_start T
  have GD : FnR P w K mg base (L2.CX P w) 1 a.f__law_drawn (spDrawn K) := ok_drawn T
  have GAll : FnR P w K mg base (L2.CX P w) 8 a.f__law_all_there spAll := ok_all T
  have GTwo : FnR P w K mg base (L2.CX P w) 9 a.f__law_two_and_all spTwo := ok_two T
  have GBi : FnR P w K mg base (L2.CX P w) 3 a.f_Bill__init_ (InitB a.c_Bill) := ok_bi_init T
  have GI : FnR P w K mg base (L2.CX P w) 4 a.f_Evening__init_ (InitE a.c_Evening a.c_Bill) := ok_ev_init T
  have GC : FnR P w K mg base (L2.CX P w) 4 a.f_Evening__call_ (spEvCall a.c_Evening a.c_Bill a.c_Shares) := ok_ev_call T
  have GCe : FnR P w K mg base (L2.CX P w) 1 a.f_Shares_cents (spShCents a.c_Shares) := ok_sh_cents T
  have GKn : FnR P w K mg base (L2.CX P w) 5 a.f_known_after (spKnown a.c_Evening a.c_Bill) := ok_known T
  refine F.okX sc_law (fun vs H Q E h => ?_) (fun cdv A' outer s H vs Q E hr h => ?_)
  · obtain ⟨sc, ns, rfl, _⟩ := h
    rfl
  · obtain ⟨sc, ns, rfl, hsc, hlen, q⟩ := h
    have hr' := hr.units
    have e9 : (10 : Int) ^ 9 = 1000000000 := by decide
    have e12 : (10 : Int) ^ 12 = 1000000000000 := by decide
    have e18 : (10 : Int) ^ 18 = 1000000000000000000 := by decide
    have e18' : (10 : Nat) ^ 18 = 1000000000000000000 := by decide
    refine ⟨_, (pss_cons (ps_set (i := 1) sc_law.nd rfl (Or.inl rfl) (pe_glA Like.refl pas_main (by rfl) (pa_cons (pv 0) pa_nil)))
    (pss_cons (ps_for own_main rfl (pi_range1 (by rfl) T.z_range (pa_cons (pe_int) pa_nil)) (pg_name (i := 2) sc_law.nd rfl (Or.inl rfl)) (pss_cons (ps_par (i := 3) (j := 4) rfl sc_law.nd rfl rfl (by decide) rfl rfl (pa_cons (pe_opA Like.refl pas_main (pe_int) (pe_glA Like.refl pas_main (by rfl) (pa_cons (pv 1) (pa_cons (pe_int) pa_nil)))) (pa_cons (pe_glA Like.refl pas_main (by rfl) (pa_cons (pv 1) (pa_cons (pe_ixA Like.refl pas_main (pe_lst (pa_cons (pe_int) (pa_cons (pe_opA Like.refl pas_main (pe_int) (pe_int)) pa_nil))) (pe_glA Like.refl pas_main (by rfl) (pa_cons (pv 1) (pa_cons (pe_int) pa_nil)))) pa_nil))) pa_nil)) (by rfl))
    (pss_cons (ps_set (i := 5) sc_law.nd rfl (Or.inl rfl) (pe_glA Like.refl pas_main (by rfl) (pa_cons (pv 1) (pa_cons (pe_ixA Like.refl pas_main (pe_lst (pa_cons (pe_int) (pa_cons (pe_opA Like.refl pas_main (pe_int) (pe_int)) pa_nil))) (pe_glA Like.refl pas_main (by rfl) (pa_cons (pv 1) (pa_cons (pe_int) pa_nil)))) pa_nil))))
    (pss_cons (ps_if (pt_not (pt_trA Like.refl pas_main (pe_glA Like.refl pas_main (by rfl) (pa_cons (pv 3) (pa_cons (pv 4) (pa_cons (pe_glA Like.refl pas_main (by rfl) (pa_cons (pv 1) (pa_cons (pv 3) pa_nil))) (pa_cons (pv 5) pa_nil))))))) (pss_one (ps_ret (pe_bl))) pss_nil)
    (pss_cons (ps_if (pt_not (pt_trA Like.refl pas_main (pe_glA Like.refl pas_main (by rfl) (pa_cons (pe_opA Like.refl pas_main (pe_int) (pe_glA Like.refl pas_main (by rfl) (pa_cons (pv 1) (pa_cons (pe_opA Like.refl pas_main (pe_int) (pe_int)) pa_nil)))) pa_nil)))) (pss_one (ps_ret (pe_bl))) pss_nil)
    (pss_cons (ps_set (i := 6) sc_law.nd rfl (Or.inl rfl) (pe_glA Like.refl pas_main (by rfl) (pa_cons (pe_int) (pa_cons (pe_glA Like.refl pas_main (by rfl) (pa_cons (pv 4) (pa_cons (pe_int) pa_nil))) (pa_cons (pe_glA Like.refl pas_main (by rfl) (pa_cons (pe_int) (pa_cons (pe_int) pa_nil))) (pa_cons (pe_glA Like.refl pas_main (by rfl) (pa_cons (pe_int) (pa_cons (pe_int) (pa_cons (pe_int) pa_nil)))) pa_nil))))))
    (pss_cons (ps_asg (pe_coA Like.refl pas_main (pv 6) (pa_cons (pe_int) pa_nil)) (pg_tup rfl (pgs_cons (pg_name (i := 7) sc_law.nd rfl (Or.inl rfl)) (pgs_cons (pg_name (i := 8) sc_law.nd rfl (Or.inl rfl)) pgs_nil))))
    (pss_one (ps_if (PW.pt (pw_or (pt_cmpA Like.refl pas_main (pv 8) (pe_int) (nomark _)) (pw_or (pt_cmpA Like.refl pas_main (pe_atA Like.refl pas_main (pv 7)) (pe_tup (pa_cons (pv 4) (pa_cons (pe_int) pa_nil))) (nomark _)) (pw_or1 (pt_cmpA Like.refl pas_main (pe_glA Like.refl pas_main (by rfl) (pa_cons (pv 6) pa_nil)) (pe_non) (nomark _)))))) (pss_one (ps_ret (pe_bl))) pss_nil)))))))))
    (pss_one (ps_ret (pe_bl))))), ?_⟩
    walk_at "go"
    refine s_fn GSt (hr.mono (by decide)) ⟨sc, ns, rfl, hsc, hlen, fun st H1 hst s1 ok1 => ?_⟩
    walk_at "go"
    refine f_rng (n := 4) (fun k σ H' => StOk K sc ns H' st ∧ ∃ x2 x3 x4 x5 x6 x7 x8, σ = [some (.ref sc), some (.ref st), x2, x3, x4, x5, x6, x7, x8]) (fun R k => ?_) (by decide)
      ⟨ok1, none, none, none, none, none, none, none, rfl⟩ (fun k σ H2 hk pv => ?_) (fun σ H' pv => ?_)
    · walk_at "go"
      exact k
    · obtain ⟨ok2, x2, x3, x4, x5, x6, x7, x8, rfl⟩ := pv
      refine w_name ?_
      dsimp only [List.set]
      walk_at "go"
      refine w_par ?_
      walk_at "go"
      refine s_fn GD (hr.mono (by decide)) ⟨st, 7, sc, ns, rfl, ok2, by decide, by decide, fun v H3 v0 v1 sb3 c3 => ?_⟩
      obtain ⟨vn, rfl⟩ := Int.eq_ofNat_of_zero_le v0
      have ok3 := ok2.to sb3 c3
      walk_at "go"
      have hn2 : 2 ≤ vn + 2 := by omega
      have hn8 : vn + 2 ≤ 8 := by omega
      rw [show (2 : Int) + (vn : Int) = ((vn + 2 : Nat) : Int) by omega]
      generalize vn + 2 = n at *
      refine s_pow ⟨by decide, by decide, by decide⟩ ?_
      walk_at "go"
      refine ⟨by show 2 ≤ sizeLine; decide, fun l4 hl4 => ?_⟩
      have s4 := same_new (o := .lst [.int 30, .int (10 ^ (12 : Int).toNat)]) hl4
      have g4 : (upd H3 l4 (.lst [.int 30, .int (10 ^ (12 : Int).toNat)])) l4 = some (.lst [.int 30, .int (10 ^ (12 : Int).toNat)]) := upd_same
      have ok4 := ok3.same s4
      have n4 : l4 ≠ st := ok3.1.ne hl4
      generalize upd H3 l4 (.lst [.int 30, .int (10 ^ (12 : Int).toNat)]) = H4 at *
      walk_at "go"
      refine s_fn GD (hr.mono (by decide)) ⟨st, 2, sc, ns, rfl, ok4, by decide, by decide, fun d5 H5 d50 d51 sb5 c5 => ?_⟩
      have ok5 := ok4.to sb5 c5
      walk_at "go"
      obtain ⟨x, hx, hx0, hx1⟩ : ∃ x : Int, atI [V.int 30, V.int (10 ^ (12 : Int).toNat)] d5 = some (V.int x) ∧ 0 < x ∧ x ≤ 10 ^ 12 := by
        have : d5 = 0 ∨ d5 = 1 := by omega
        rcases this with rfl | rfl
        · exact ⟨30, rfl, by decide, by decide⟩
        · exact ⟨_, rfl, by decide, by decide⟩
      refine s_ixL (SqL.of (sb5 _ _ n4 g4)) (v := .int x) hx ?_
      walk_at "go"
      refine s_fn GD (hr.mono (by decide)) ⟨st, x, sc, ns, rfl, ok5, hx0, by omega, fun A H6 A0 A1 sb6 c6 => ?_⟩
      have ok6 := ok5.to sb6 c6
      walk_at "go"
      refine ⟨_, _, rfl, ?_⟩
      dsimp only [List.set]
      walk_at "go"
      refine s_pow ⟨by decide, by decide, by decide⟩ ?_
      walk_at "go"
      refine ⟨by show 2 ≤ sizeLine; decide, fun l7 hl7 => ?_⟩
      have s7 := same_new (o := .lst [.int 20, .int (10 ^ (18 : Int).toNat)]) hl7
      have g7 : (upd H6 l7 (.lst [.int 20, .int (10 ^ (18 : Int).toNat)])) l7 = some (.lst [.int 20, .int (10 ^ (18 : Int).toNat)]) := upd_same
      have ok7 := ok6.same s7
      have n7 : l7 ≠ st := ok6.1.ne hl7
      generalize upd H6 l7 (.lst [.int 20, .int (10 ^ (18 : Int).toNat)]) = H7 at *
      walk_at "go"
      refine s_fn GD (hr.mono (by decide)) ⟨st, 2, sc, ns, rfl, ok7, by decide, by decide, fun d8 H8 d80 d81 sb8 c8 => ?_⟩
      have ok8 := ok7.to sb8 c8
      walk_at "go"
      obtain ⟨y, hy, hy0, hy1⟩ : ∃ y : Int, atI [V.int 20, V.int (10 ^ (18 : Int).toNat)] d8 = some (V.int y) ∧ 0 < y ∧ y ≤ 10 ^ 18 := by
        have : d8 = 0 ∨ d8 = 1 := by omega
        rcases this with rfl | rfl
        · exact ⟨20, rfl, by decide, by decide⟩
        · exact ⟨_, rfl, by decide, by decide⟩
      refine s_ixL (SqL.of (sb8 _ _ n7 g7)) (v := .int y) hy ?_
      walk_at "go"
      refine s_fn GD (hr.mono (by decide)) ⟨st, y, sc, ns, rfl, ok8, hy0, by omega, fun t H9 t0 t1 sb9 c9 => ?_⟩
      obtain ⟨tn, rfl⟩ := Int.eq_ofNat_of_zero_le t0
      have ok9 := ok8.to sb9 c9
      walk_at "go"
      refine s_fn GD (hr.mono (by decide)) ⟨st, n, sc, ns, rfl, ok9, by omega, by omega, fun m H10 m0 m1 sb10 c10 => ?_⟩
      have ok10 := ok9.to sb10 c10
      walk_at "go"
      refine s_fn GAll (hr.mono (by decide)) ⟨n, tn, A, m, rfl, hn2, hn8, A0, by omega, m0, m1, by omega, fun H11 s11 => ?_⟩
      have ok11 := ok10.same s11
      walk_at "go"
      refine s_pow ⟨by decide, by decide, by decide⟩ ?_
      walk_at "go"
      refine s_fn GD (hr.mono (by decide)) ⟨st, 10 ^ (9 : Int).toNat, sc, ns, rfl, ok11, by decide, by decide, fun c H12 c0 c1 sb12 c12 => ?_⟩
      have c1 : c < 10 ^ 9 := c1
      have ok12 := ok11.to sb12 c12
      walk_at "go"
      refine s_fn GTwo (hr.mono (by decide)) ⟨1 + c, rfl, by omega, by omega, fun H13 s13 => ?_⟩
      have ok13 := ok12.same s13
      walk_at "go"
      have okA : OkBill (A, [0]) := ⟨A0, by show A ≤ 10 ^ 12; omega, by show asc 0 [0] = true; decide, by simp⟩
      have okB : OkBill (1, [1]) := ⟨by decide, by decide, by decide, by simp⟩
      have okC : OkBill (1, [0, 1]) := ⟨by decide, by decide, by decide, by simp⟩
      have okE : OkEv 2 (bsT A) := ⟨by decide, by decide, by show 3 ≤ 30; decide, fun b hb => by
        simp only [bsT, List.mem_cons, List.not_mem_nil, or_false] at hb
        rcases hb with rfl | rfl | rfl
        · exact ⟨okA, by show ∀ s ∈ ([0] : List Int), s < 2; decide⟩
        · exact ⟨okB, by decide⟩
        · exact ⟨okC, by decide⟩⟩
      refine s_bill (i := A) (ss := [0]) T GBi (hr.mono (by decide)) okA (by decide) fun p1 H14 hp1 s14 bi1 => ?_
      walk_at "go"
      refine s_bill (i := 1) (ss := [1]) T GBi (hr.mono (by decide)) okB (by decide) fun p2 H15 hp2 s15 bi2 => ?_
      walk_at "go"
      refine s_bill (i := 1) (ss := [0, 1]) T GBi (hr.mono (by decide)) okC (by decide) fun p3 H16 hp3 s16 bi3 => ?_
      walk_at "go"
      refine s_evening (n := 2) (ps := [p1, p2, p3]) (bs := bsT A) T GI (hr.mono (by decide)) ⟨rfl, fun i p b e1 e2 => by
        match i, e1, e2 with
        | 0, e1, e2 => cases e1; cases e2; exact (bi1.same s15).same s16
        | 1, e1, e2 => cases e1; cases e2; exact bi2.same s16
        | 2, e1, e2 => cases e1; cases e2; exact bi3
        | i + 3, e1, _ => simp at e1⟩ okE fun e H17 he s17 ev => ?_
      walk_at "go"
      refine w_coA ?_
      walk_at "go"
      refine ⟨e, rfl, ?_⟩
      walk_at "go"
      refine s_evc T GC (hr.mono (by decide)) ev okE (Int.le_refl _) (by decide) fun T18 r18 H18 hT18 s18 g18 sh18 => ?_
      refine g_pair (SqT.of g18) ?_
      rw [ev_three] at sh18 ⊢
      dsimp only [List.set]
      obtain ⟨dx18, t18, i1, i2⟩ := id sh18
      walk_at "go"
      refine iteF' (by decide) ?_
      walk_at "go"
      refine s_prop T.cl_Shares T.pr_Shares_cents GCe (hr.mono (by decide)) i1 ⟨r18, dx18, t18, rfl, i1, ?_⟩
      walk_at "go"
      refine ⟨by show 2 ≤ sizeLine; decide, fun T19 hT19 => ?_⟩
      have s19 := same_new (o := .tup [.int A, .int 2]) hT19
      refine s_neTups (cs := [A, 2]) (ds := [A, 2]) hr' (SqT.of (s19 _ _ i2)) (SqT.of upd_same) ?_
      rw [decide_eq_true rfl]
      have sZ := (((s14.trans s15).trans s16).trans s17).trans (s18.trans s19)
      have ev19 := (ev.same s18).same s19
      generalize upd H18 T19 (.tup [.int A, .int 2]) = H19 at *
      walk_at "go"
      refine s_fn GKn (hr.mono (by decide)) ⟨e, 2, bsT A, rfl, ev19, okE, fun H20 s20 => ?_⟩
      rw [known_three]
      walk_at "go"
      refine s_notN ?_
      rw [decide_eq_true (rfl : V.non = V.non)]
      walk_at "go"
      exact ⟨ok13.same (sZ.trans s20), _, _, _, _, _, _, _, rfl⟩
    · walk_at "go"
      exact q _
end

end Odd

namespace Odd
open PySem PySem.Spec PyProof.Rows L2
theorem all_fn {l : PySem.W.OpenLaw} {w : World} {K : PySem.W.Frag} {mg : Str → Option Value} {a : Ad} {fa : Addr} (T : Facts K mg a) (hfa : mg "law" = some (.ref fa)) :
    ∃ fd : FuncData, (∀ (s : Shared) (v : Value), BindsTo s fd ⟨[v], []⟩ [("_law_script", v)]) ∧ ∀ base : Heap, K.In base → base.Ns mainGlobals mg → FnOk l.prog w K mg base (L2.CX l.prog w) 11 fa fd ["_law_script"] (spLaw K) := by
  have e := hfa.symm.trans T.g_law
  cases e
  obtain ⟨fd, F⟩ := T.u_law
  refine ⟨fd, fun s v => ?_, fun base _ _ => ok_law T F⟩
  obtain ⟨oc, od, kV, doc, pm, an, cdv, ct, osl, rfl, lk, hcd⟩ := F.ex
  exact .of_eq rfl
theorem walk {l : PySem.W.OpenLaw} {q : Program} {loose : List Str} {XP : (Str → Option Value) → Heap → Prop} {YP : World → Heap → Prop} {d : DefRec} {K : Params → PySem.W.Frag} (hn : l.most = some 63) (hdf : d.params.defaults = [])
    (hY : ∀ (w : World) (h : Heap), YP w h → (K w.params).In h)
    (F : ∀ (w : World) (mg : Str → Option Value) (fa : Addr) (h : Heap), (K w.params).In h → h.Ns mainGlobals mg → mg d.name = some (.ref fa) →
      ∃ fd : FuncData, (∀ (s : Shared) (u : Value), BindsTo s fd ⟨[u], []⟩ [("_law_script", u)]) ∧ ∀ base : Heap, (K w.params).In base → base.Ns mainGlobals mg → FnOk l.prog w (K w.params) mg base (L2.CX l.prog w) 11 fa fd ["_law_script"] (spLaw (K w.params))) :
    PySem.W.WalkO q loose XP YP l.row.toRowW d [] (fun f vs => PySem.call f vs) :=
  L2.walk_of (n := 63) (k := 11) (x := "_law_script") (CX := fun w => L2.CX l.prog w) (sp := fun w => spLaw (K w.params)) hn (by decide) hdf ⟨rfl, by decide, by decide⟩ hY F (fun _ _ a ns hl _ hS => ⟨a, ns, rfl, hS, hl, fun _ => rfl⟩) fun _ _ _ _ _ x => by
    obtain ⟨_, _, _, _, _, _, _, _, _, _, _, _, z⟩ := x
    exact z
end Odd
open PySem PySem.W PyProof.Rows
set_option maxRecDepth 100000 in
set_option maxHeartbeats 0 in
theorem PySem.Challenge.cw_oddcents_k13_known_tables_holds : PySem.Challenge.rw_oddcents_k13_known_tables.Holds := by
  w_on; o_law; k_head; (case hw => w_witness2)
  k_fill
  refine Odd.walk (l := PySem.Challenge.rw_oddcents_k13_known_tables) rfl rfl (fun w h Y => by first | exact PySem.W.kIn_of Y | exact PySem.W.km_in_of Y) ?F
  case F =>
    intro w mg fa h KX G hmg
    refine' Odd.all_fn (Odd.all_mk KX G ?z_TypeError ?z_abs ?z_bool ?z_classmethod ?z_divmod ?z_enumerate ?z_int ?z_isinstance ?z_len ?z_list ?z_max ?z_min ?z_property ?z_range ?z_sorted ?z_sum ?z_super ?z_tuple ?z_zip ?b_gcd ?g_MAX_AMOUNT ?g_MIN_SEAT_COUNT ?g_MAX_TIMES ?g_MAX_LISTED_BILLS ?g_MAX_BILL_NUMBER ?g_MAX_ORDERED_BILLS ?g__wall ?l1 ?c1 ?k1 ?g_is_between ?l2 ?c2 ?k2 ?g_check_seat ?l3 ?c3 ?k3 ?g_check_amount ?l4 ?c4 ?k4 ?g_check_seats ?l5 ?c5 ?k5 ?g_check_seat_count ?l6 ?c6 ?k6 ?g_check_bills ?l7 ?c7 ?k7 ?g_check_mark ?l8 ?c8 ?k8 ?g_check_times ?l9 ?c9 ?k9 ?g_no_shares ?l10 ?c10 ?k10 ?g_seats_behind ?l11 ?c11 ?k11 ?g_split_bill ?l12 ?c12 ?k12 ?g_twice ?l13 ?c13 ?k13 ?g_repeated ?l14 ?c14 ?k14 ?g_lowest_terms ?l15 ?c15 ?k15 ?g_long_run ?l16 ?c16 ?k16 ?g_marks_after ?l17 ?c17 ?k17 ?g_known_after ?l18 ?c18 ?k18 ?g_evening_of_few ?l19 ?c19 ?k19 ?g_reset ?l20 ?c20 ?k20 ?g_telling ?l21 ?c21 ?k21 ?g_share_for_bill ?l22 ?c22 ?k22 ?g_paid_from_each_mark ?l23 ?c23 ?k23 ?g_widest_gap ?l24 ?c24 ?k24 ?g_best_mark ?l25 ?c25 ?k25 ?g_longer_ways ?l26 ?c26 ?k26 ?g_spread_of ?l27 ?c27 ?k27 ?g_fairest_order ?l28 ?c28 ?k28 ?g__law_start ?l29 ?c29 ?k29 ?g__law_drawn ?l30 ?c30 ?k30 ?g__law_all_there ?l31 ?c31 ?k31 ?g__law_two_and_all ?l32 ?c32 ?k32 ?g_law ?l33 ?c33 ?k33 ?g_CentError ?x_CentError ?xk_CentError ?xs_CentError ?xt_CentError ?g_InvalidBill ?g_InvalidEvening ?g_InvalidMark ?x_InvalidMark ?xk_InvalidMark ?xs_InvalidMark ?xt_InvalidMark ?g_UnknownSeat ?x_UnknownSeat ?xk_UnknownSeat ?xs_UnknownSeat ?xt_UnknownSeat ?g_OtherTable ?x_OtherTable ?xk_OtherTable ?xs_OtherTable ?xt_OtherTable ?g_InvalidNumber ?x_InvalidNumber ?xk_InvalidNumber ?xs_InvalidNumber ?xt_InvalidNumber ?g_TooManyBills ?x_TooManyBills ?xk_TooManyBills ?xs_TooManyBills ?xt_TooManyBills ?g_Contradiction ?x_Contradiction ?xk_Contradiction ?xs_Contradiction ?xt_Contradiction ?g_Shares ?pg_Shares ?hd_Shares ?po_Shares ?sa_Shares ?ia_Shares ?ib_Shares ?ic_Shares ?id_Shares ?ob_Shares ?sf_Shares ?tyc_Shares ?kit_Shares_tuple ?kit_Shares_list ?kit_Shares_int ?na_Shares_cents ?ma_Shares__init_ ?mb_Shares__init_ ?l34 ?c34 ?k34 ?mk_Shares ?kc_Shares ?pa_Shares_cents ?pb_Shares_cents ?pc_Shares_cents ?pd_Shares_cents ?l35 ?c35 ?k35 ?pa_Shares_whole ?pb_Shares_whole ?pc_Shares_whole ?pd_Shares_whole ?l36 ?c36 ?k36 ?ma_Shares__getitem_ ?mb_Shares__getitem_ ?l37 ?c37 ?k37 ?ma_Shares__iter_ ?mb_Shares__iter_ ?l38 ?c38 ?k38 ?ma_Shares__len_ ?mb_Shares__len_ ?l39 ?c39 ?k39 ?ma_Shares__eq_ ?mb_Shares__eq_ ?l40 ?c40 ?k40 ?na_Shares__eq_ ?nf_Shares__eq_ ?nt_Shares__eq_ ?ma_Shares__add_ ?mb_Shares__add_ ?l41 ?c41 ?k41 ?ma_Shares__sub_ ?mb_Shares__sub_ ?l42 ?c42 ?k42 ?ma_Shares__mul_ ?mb_Shares__mul_ ?l43 ?c43 ?k43 ?oa_Shares__mul_ ?ob_Shares__mul_ ?oc_Shares__mul_ ?od_Shares__mul_ ?ma_Shares__neg_ ?mb_Shares__neg_ ?l44 ?c44 ?k44 ?ma_Shares__abs_ ?mb_Shares__abs_ ?l45 ?c45 ?k45 ?g_Bill ?pg_Bill ?hd_Bill ?po_Bill ?sa_Bill ?ia_Bill ?ib_Bill ?ic_Bill ?id_Bill ?ob_Bill ?sf_Bill ?tyc_Bill ?kit_Bill_tuple ?kit_Bill_list ?kit_Bill_int ?na_Bill_amount ?na_Bill_seats ?cra_Bill ?crb_Bill ?cva_Bill_MAX_SEATS ?ma_Bill__init_ ?mb_Bill__init_ ?l46 ?c46 ?k46 ?mk_Bill ?kc_Bill ?pa_Bill_amount ?pb_Bill_amount ?pc_Bill_amount ?pd_Bill_amount ?l47 ?c47 ?k47 ?pa_Bill_seats ?pb_Bill_seats ?pc_Bill_seats ?pd_Bill_seats ?l48 ?c48 ?k48 ?pa_Bill_odd_cents ?pb_Bill_odd_cents ?pc_Bill_odd_cents ?pd_Bill_odd_cents ?l49 ?c49 ?k49 ?ma_Bill__contains_ ?mb_Bill__contains_ ?l50 ?c50 ?k50 ?g_Evening ?pg_Evening ?hd_Evening ?po_Evening ?sa_Evening ?ia_Evening ?ib_Evening ?ic_Evening ?id_Evening ?ob_Evening ?sf_Evening ?tyc_Evening ?kit_Evening_tuple ?kit_Evening_list ?kit_Evening_int ?na_Evening_seat_count ?na_Evening_bills ?cra_Evening ?crb_Evening ?cva_Evening_MAX_BILLS ?ma_Evening__init_ ?mb_Evening__init_ ?l51 ?c51 ?k51 ?mk_Evening ?kc_Evening ?cma_Evening_together ?cmb_Evening_together ?cmc_Evening_together ?l52 ?c52 ?k52 ?pa_Evening_seat_count ?pb_Evening_seat_count ?pc_Evening_seat_count ?pd_Evening_seat_count ?l53 ?c53 ?k53 ?pa_Evening_bills ?pb_Evening_bills ?pc_Evening_bills ?pd_Evening_bills ?l54 ?c54 ?k54 ?ma_Evening__call_ ?mb_Evening__call_ ?l55 ?c55 ?k55 ?coc_Evening__call_ ?ma_Evening__getitem_ ?mb_Evening__getitem_ ?l56 ?c56 ?k56 ?ma_Evening__iter_ ?mb_Evening__iter_ ?l57 ?c57 ?k57 ?ma_Evening__len_ ?mb_Evening__len_ ?l58 ?c58 ?k58 ?ma_Evening__bool_ ?mb_Evening__bool_ ?l59 ?c59 ?k59 ?ma_Evening__add_ ?mb_Evening__add_ ?l60 ?c60 ?k60 ?ma_Evening__mul_ ?mb_Evening__mul_ ?l61 ?c61 ?k61 ?oa_Evening__mul_ ?ob_Evening__mul_ ?oc_Evening__mul_ ?od_Evening__mul_ ?g_MarkObserver ?pg_MarkObserver ?hd_MarkObserver ?po_MarkObserver ?sa_MarkObserver ?ia_MarkObserver ?ib_MarkObserver ?ic_MarkObserver ?id_MarkObserver ?ob_MarkObserver ?sf_MarkObserver ?tyc_MarkObserver ?kit_MarkObserver_tuple ?kit_MarkObserver_list ?kit_MarkObserver_int ?na_MarkObserver_evening ?na_MarkObserver_possible ?na_MarkObserver_accepted ?ma_MarkObserver__init_ ?mb_MarkObserver__init_ ?l62 ?c62 ?k62 ?mk_MarkObserver ?kc_MarkObserver ?pa_MarkObserver_possible_marks ?pb_MarkObserver_possible_marks ?pc_MarkObserver_possible_marks ?pd_MarkObserver_possible_marks ?l63 ?c63 ?k63 ?pa_MarkObserver_records ?pb_MarkObserver_records ?pc_MarkObserver_records ?pd_MarkObserver_records ?l64 ?c64 ?k64 ?ma_MarkObserver_see ?mb_MarkObserver_see ?l65 ?c65 ?k65) hmg
    (case z_TypeError => k_is)
    (case z_abs => k_is)
    (case z_bool => k_is)
    (case z_classmethod => k_is)
    (case z_divmod => k_is)
    (case z_enumerate => k_is)
    (case z_int => k_is)
    (case z_isinstance => k_is)
    (case z_len => k_is)
    (case z_list => k_is)
    (case z_max => k_is)
    (case z_min => k_is)
    (case z_property => k_is)
    (case z_range => k_is)
    (case z_sorted => k_is)
    (case z_sum => k_is)
    (case z_super => k_is)
    (case z_tuple => k_is)
    (case z_zip => k_is)
    (case b_gcd => k_is)
    (case g_MAX_AMOUNT => k_is)
    (case g_MIN_SEAT_COUNT => k_is)
    (case g_MAX_TIMES => k_is)
    (case g_MAX_LISTED_BILLS => k_is)
    (case g_MAX_BILL_NUMBER => k_is)
    (case g_MAX_ORDERED_BILLS => k_is)
    (case g__wall => k_is)
    (case l1 => k_is)
    (case c1 => k_is)
    (case k1 => k_is)
    (case g_is_between => k_is)
    (case l2 => k_is)
    (case c2 => k_is)
    (case k2 => k_is)
    (case g_check_seat => k_is)
    (case l3 => k_is)
    (case c3 => k_is)
    (case k3 => k_is)
    (case g_check_amount => k_is)
    (case l4 => k_is)
    (case c4 => k_is)
    (case k4 => k_is)
    (case g_check_seats => k_is)
    (case l5 => k_is)
    (case c5 => k_is)
    (case k5 => k_is)
    (case g_check_seat_count => k_is)
    (case l6 => k_is)
    (case c6 => k_is)
    (case k6 => k_is)
    (case g_check_bills => k_is)
    (case l7 => k_is)
    (case c7 => k_is)
    (case k7 => k_is)
    (case g_check_mark => k_is)
    (case l8 => k_is)
    (case c8 => k_is)
    (case k8 => k_is)
    (case g_check_times => k_is)
    (case l9 => k_is)
    (case c9 => k_is)
    (case k9 => k_is)
    (case g_no_shares => k_is)
    (case l10 => k_is)
    (case c10 => k_is)
    (case k10 => k_is)
    (case g_seats_behind => k_is)
    (case l11 => k_is)
    (case c11 => k_is)
    (case k11 => k_is)
    (case g_split_bill => k_is)
    (case l12 => k_is)
    (case c12 => k_is)
    (case k12 => k_is)
    (case g_twice => k_is)
    (case l13 => k_is)
    (case c13 => k_is)
    (case k13 => k_is)
    (case g_repeated => k_is)
    (case l14 => k_is)
    (case c14 => k_is)
    (case k14 => k_is)
    (case g_lowest_terms => k_is)
    (case l15 => k_is)
    (case c15 => k_is)
    (case k15 => k_is)
    (case g_long_run => k_is)
    (case l16 => k_is)
    (case c16 => k_is)
    (case k16 => k_is)
    (case g_marks_after => k_is)
    (case l17 => k_is)
    (case c17 => k_is)
    (case k17 => k_is)
    (case g_known_after => k_is)
    (case l18 => k_is)
    (case c18 => k_is)
    (case k18 => k_is)
    (case g_evening_of_few => k_is)
    (case l19 => k_is)
    (case c19 => k_is)
    (case k19 => k_is)
    (case g_reset => k_is)
    (case l20 => k_is)
    (case c20 => k_is)
    (case k20 => k_is)
    (case g_telling => k_is)
    (case l21 => k_is)
    (case c21 => k_is)
    (case k21 => k_is)
    (case g_share_for_bill => k_is)
    (case l22 => k_is)
    (case c22 => k_is)
    (case k22 => k_is)
    (case g_paid_from_each_mark => k_is)
    (case l23 => k_is)
    (case c23 => k_is)
    (case k23 => k_is)
    (case g_widest_gap => k_is)
    (case l24 => k_is)
    (case c24 => k_is)
    (case k24 => k_is)
    (case g_best_mark => k_is)
    (case l25 => k_is)
    (case c25 => k_is)
    (case k25 => k_is)
    (case g_longer_ways => k_is)
    (case l26 => k_is)
    (case c26 => k_is)
    (case k26 => k_is)
    (case g_spread_of => k_is)
    (case l27 => k_is)
    (case c27 => k_is)
    (case k27 => k_is)
    (case g_fairest_order => k_is)
    (case l28 => k_is)
    (case c28 => k_is)
    (case k28 => k_is)
    (case g__law_start => k_is)
    (case l29 => k_is)
    (case c29 => k_is)
    (case k29 => k_is)
    (case g__law_drawn => k_is)
    (case l30 => k_is)
    (case c30 => k_is)
    (case k30 => k_is)
    (case g__law_all_there => k_is)
    (case l31 => k_is)
    (case c31 => k_is)
    (case k31 => k_is)
    (case g__law_two_and_all => k_is)
    (case l32 => k_is)
    (case c32 => k_is)
    (case k32 => k_is)
    (case g_law => k_is)
    (case l33 => k_is)
    (case c33 => k_is)
    (case k33 => k_is)
    (case g_CentError => k_is)
    (case x_CentError => k_exc)
    (case xk_CentError => k_is)
    (case xs_CentError => k_is)
    (case xt_CentError => k_is)
    (case g_InvalidBill => k_is)
    (case g_InvalidEvening => k_is)
    (case g_InvalidMark => k_is)
    (case x_InvalidMark => k_exc)
    (case xk_InvalidMark => k_is)
    (case xs_InvalidMark => k_is)
    (case xt_InvalidMark => k_is)
    (case g_UnknownSeat => k_is)
    (case x_UnknownSeat => k_exc)
    (case xk_UnknownSeat => k_is)
    (case xs_UnknownSeat => k_is)
    (case xt_UnknownSeat => k_is)
    (case g_OtherTable => k_is)
    (case x_OtherTable => k_exc)
    (case xk_OtherTable => k_is)
    (case xs_OtherTable => k_is)
    (case xt_OtherTable => k_is)
    (case g_InvalidNumber => k_is)
    (case x_InvalidNumber => k_exc)
    (case xk_InvalidNumber => k_is)
    (case xs_InvalidNumber => k_is)
    (case xt_InvalidNumber => k_is)
    (case g_TooManyBills => k_is)
    (case x_TooManyBills => k_exc)
    (case xk_TooManyBills => k_is)
    (case xs_TooManyBills => k_is)
    (case xt_TooManyBills => k_is)
    (case g_Contradiction => k_is)
    (case x_Contradiction => k_exc)
    (case xk_Contradiction => k_is)
    (case xs_Contradiction => k_is)
    (case xt_Contradiction => k_is)
    (case g_Shares => k_is)
    (case pg_Shares => k_is)
    (case hd_Shares => k_is)
    (case po_Shares => k_is)
    (case sa_Shares => k_is)
    (case ia_Shares => k_is)
    (case ib_Shares => k_is)
    (case ic_Shares => k_is)
    (case id_Shares => k_is)
    (case ob_Shares => k_is)
    (case sf_Shares => k_is)
    (case tyc_Shares => k_is)
    (case kit_Shares_tuple => k_is)
    (case kit_Shares_list => k_is)
    (case kit_Shares_int => k_is)
    (case na_Shares_cents => k_is)
    (case ma_Shares__init_ => k_is)
    (case mb_Shares__init_ => k_is)
    (case l34 => k_is)
    (case c34 => k_is)
    (case k34 => k_is)
    (case mk_Shares => k_is)
    (case kc_Shares => k_is)
    (case pa_Shares_cents => k_is)
    (case pb_Shares_cents => k_is)
    (case pc_Shares_cents => k_is)
    (case pd_Shares_cents => k_is)
    (case l35 => k_is)
    (case c35 => k_is)
    (case k35 => k_is)
    (case pa_Shares_whole => k_is)
    (case pb_Shares_whole => k_is)
    (case pc_Shares_whole => k_is)
    (case pd_Shares_whole => k_is)
    (case l36 => k_is)
    (case c36 => k_is)
    (case k36 => k_is)
    (case ma_Shares__getitem_ => k_is)
    (case mb_Shares__getitem_ => k_is)
    (case l37 => k_is)
    (case c37 => k_is)
    (case k37 => k_is)
    (case ma_Shares__iter_ => k_is)
    (case mb_Shares__iter_ => k_is)
    (case l38 => k_is)
    (case c38 => k_is)
    (case k38 => k_is)
    (case ma_Shares__len_ => k_is)
    (case mb_Shares__len_ => k_is)
    (case l39 => k_is)
    (case c39 => k_is)
    (case k39 => k_is)
    (case ma_Shares__eq_ => k_is)
    (case mb_Shares__eq_ => k_is)
    (case l40 => k_is)
    (case c40 => k_is)
    (case k40 => k_is)
    (case na_Shares__eq_ => k_is)
    (case nf_Shares__eq_ => k_is)
    (case nt_Shares__eq_ => k_is)
    (case ma_Shares__add_ => k_is)
    (case mb_Shares__add_ => k_is)
    (case l41 => k_is)
    (case c41 => k_is)
    (case k41 => k_is)
    (case ma_Shares__sub_ => k_is)
    (case mb_Shares__sub_ => k_is)
    (case l42 => k_is)
    (case c42 => k_is)
    (case k42 => k_is)
    (case ma_Shares__mul_ => k_is)
    (case mb_Shares__mul_ => k_is)
    (case l43 => k_is)
    (case c43 => k_is)
    (case k43 => k_is)
    (case oa_Shares__mul_ => k_is)
    (case ob_Shares__mul_ => k_is)
    (case oc_Shares__mul_ => k_is)
    (case od_Shares__mul_ => k_is)
    (case ma_Shares__neg_ => k_is)
    (case mb_Shares__neg_ => k_is)
    (case l44 => k_is)
    (case c44 => k_is)
    (case k44 => k_is)
    (case ma_Shares__abs_ => k_is)
    (case mb_Shares__abs_ => k_is)
    (case l45 => k_is)
    (case c45 => k_is)
    (case k45 => k_is)
    (case g_Bill => k_is)
    (case pg_Bill => k_is)
    (case hd_Bill => k_is)
    (case po_Bill => k_is)
    (case sa_Bill => k_is)
    (case ia_Bill => k_is)
    (case ib_Bill => k_is)
    (case ic_Bill => k_is)
    (case id_Bill => k_is)
    (case ob_Bill => k_is)
    (case sf_Bill => k_is)
    (case tyc_Bill => k_is)
    (case kit_Bill_tuple => k_is)
    (case kit_Bill_list => k_is)
    (case kit_Bill_int => k_is)
    (case na_Bill_amount => k_is)
    (case na_Bill_seats => k_is)
    (case cra_Bill => k_is)
    (case crb_Bill => k_is)
    (case cva_Bill_MAX_SEATS => k_is)
    (case ma_Bill__init_ => k_is)
    (case mb_Bill__init_ => k_is)
    (case l46 => k_is)
    (case c46 => k_is)
    (case k46 => k_is)
    (case mk_Bill => k_is)
    (case kc_Bill => k_is)
    (case pa_Bill_amount => k_is)
    (case pb_Bill_amount => k_is)
    (case pc_Bill_amount => k_is)
    (case pd_Bill_amount => k_is)
    (case l47 => k_is)
    (case c47 => k_is)
    (case k47 => k_is)
    (case pa_Bill_seats => k_is)
    (case pb_Bill_seats => k_is)
    (case pc_Bill_seats => k_is)
    (case pd_Bill_seats => k_is)
    (case l48 => k_is)
    (case c48 => k_is)
    (case k48 => k_is)
    (case pa_Bill_odd_cents => k_is)
    (case pb_Bill_odd_cents => k_is)
    (case pc_Bill_odd_cents => k_is)
    (case pd_Bill_odd_cents => k_is)
    (case l49 => k_is)
    (case c49 => k_is)
    (case k49 => k_is)
    (case ma_Bill__contains_ => k_is)
    (case mb_Bill__contains_ => k_is)
    (case l50 => k_is)
    (case c50 => k_is)
    (case k50 => k_is)
    (case g_Evening => k_is)
    (case pg_Evening => k_is)
    (case hd_Evening => k_is)
    (case po_Evening => k_is)
    (case sa_Evening => k_is)
    (case ia_Evening => k_is)
    (case ib_Evening => k_is)
    (case ic_Evening => k_is)
    (case id_Evening => k_is)
    (case ob_Evening => k_is)
    (case sf_Evening => k_is)
    (case tyc_Evening => k_is)
    (case kit_Evening_tuple => k_is)
    (case kit_Evening_list => k_is)
    (case kit_Evening_int => k_is)
    (case na_Evening_seat_count => k_is)
    (case na_Evening_bills => k_is)
    (case cra_Evening => k_is)
    (case crb_Evening => k_is)
    (case cva_Evening_MAX_BILLS => k_is)
    (case ma_Evening__init_ => k_is)
    (case mb_Evening__init_ => k_is)
    (case l51 => k_is)
    (case c51 => k_is)
    (case k51 => k_is)
    (case mk_Evening => k_is)
    (case kc_Evening => k_is)
    (case cma_Evening_together => k_is)
    (case cmb_Evening_together => k_is)
    (case cmc_Evening_together => k_is)
    (case l52 => k_is)
    (case c52 => k_is)
    (case k52 => k_is)
    (case pa_Evening_seat_count => k_is)
    (case pb_Evening_seat_count => k_is)
    (case pc_Evening_seat_count => k_is)
    (case pd_Evening_seat_count => k_is)
    (case l53 => k_is)
    (case c53 => k_is)
    (case k53 => k_is)
    (case pa_Evening_bills => k_is)
    (case pb_Evening_bills => k_is)
    (case pc_Evening_bills => k_is)
    (case pd_Evening_bills => k_is)
    (case l54 => k_is)
    (case c54 => k_is)
    (case k54 => k_is)
    (case ma_Evening__call_ => k_is)
    (case mb_Evening__call_ => k_is)
    (case l55 => k_is)
    (case c55 => k_is)
    (case k55 => k_is)
    (case coc_Evening__call_ => k_is)
    (case ma_Evening__getitem_ => k_is)
    (case mb_Evening__getitem_ => k_is)
    (case l56 => k_is)
    (case c56 => k_is)
    (case k56 => k_is)
    (case ma_Evening__iter_ => k_is)
    (case mb_Evening__iter_ => k_is)
    (case l57 => k_is)
    (case c57 => k_is)
    (case k57 => k_is)
    (case ma_Evening__len_ => k_is)
    (case mb_Evening__len_ => k_is)
    (case l58 => k_is)
    (case c58 => k_is)
    (case k58 => k_is)
    (case ma_Evening__bool_ => k_is)
    (case mb_Evening__bool_ => k_is)
    (case l59 => k_is)
    (case c59 => k_is)
    (case k59 => k_is)
    (case ma_Evening__add_ => k_is)
    (case mb_Evening__add_ => k_is)
    (case l60 => k_is)
    (case c60 => k_is)
    (case k60 => k_is)
    (case ma_Evening__mul_ => k_is)
    (case mb_Evening__mul_ => k_is)
    (case l61 => k_is)
    (case c61 => k_is)
    (case k61 => k_is)
    (case oa_Evening__mul_ => k_is)
    (case ob_Evening__mul_ => k_is)
    (case oc_Evening__mul_ => k_is)
    (case od_Evening__mul_ => k_is)
    (case g_MarkObserver => k_is)
    (case pg_MarkObserver => k_is)
    (case hd_MarkObserver => k_is)
    (case po_MarkObserver => k_is)
    (case sa_MarkObserver => k_is)
    (case ia_MarkObserver => k_is)
    (case ib_MarkObserver => k_is)
    (case ic_MarkObserver => k_is)
    (case id_MarkObserver => k_is)
    (case ob_MarkObserver => k_is)
    (case sf_MarkObserver => k_is)
    (case tyc_MarkObserver => k_is)
    (case kit_MarkObserver_tuple => k_is)
    (case kit_MarkObserver_list => k_is)
    (case kit_MarkObserver_int => k_is)
    (case na_MarkObserver_evening => k_is)
    (case na_MarkObserver_possible => k_is)
    (case na_MarkObserver_accepted => k_is)
    (case ma_MarkObserver__init_ => k_is)
    (case mb_MarkObserver__init_ => k_is)
    (case l62 => k_is)
    (case c62 => k_is)
    (case k62 => k_is)
    (case mk_MarkObserver => k_is)
    (case kc_MarkObserver => k_is)
    (case pa_MarkObserver_possible_marks => k_is)
    (case pb_MarkObserver_possible_marks => k_is)
    (case pc_MarkObserver_possible_marks => k_is)
    (case pd_MarkObserver_possible_marks => k_is)
    (case l63 => k_is)
    (case c63 => k_is)
    (case k63 => k_is)
    (case pa_MarkObserver_records => k_is)
    (case pb_MarkObserver_records => k_is)
    (case pc_MarkObserver_records => k_is)
    (case pd_MarkObserver_records => k_is)
    (case l64 => k_is)
    (case c64 => k_is)
    (case k64 => k_is)
    (case ma_MarkObserver_see => k_is)
    (case mb_MarkObserver_see => k_is)
    (case l65 => k_is)
    (case c65 => k_is)
    (case k65 => k_is)

