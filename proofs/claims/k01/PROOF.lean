import PyProof.Rows.All
import Wide.All
import OpenK.AllK
import Wide.FinOn
import PyProof.EqAt
import PyProof.EqKinds
import PyProof.TupleCall
import PyProof.InstNe
import KE.KLam
import HandS.ForMost
import HandS.Exc
import HandS.ExcOwn
import HandS.TryOnly
import HandS.WordsExc
import HandS.Defaults
import HandS.MakeKw
import HandS.MakeKwOnly
import HandS.ExcInit
import HandS.ExcField
import HandS.ExcIs
import HandS.IsInst
import HandS.OwnEq
import HandS.Lambda
import HandS.EndTab
import HandS.Conv
import HandS.Zip
import HandS.ClsMeth
import HandS.CallLocal
import KE.KExcIs
import PyProof.Rows.SortShellAny
import KE.KSortedM
import HandS.Style
import HandS.TupAny
import KE.KRevSl
import HandS.Codes
import HandS.Walk
import KE.KNestM
import PySem.Challenge.RW_quietharm_k01_whole_keeps
set_option Elab.async false
set_option linter.all false
set_option maxRecDepth 100000
set_option maxHeartbeats 2000000
namespace OwnOp
open PySem PySem.Spec PyProof.Rows L2
/-! ## operators of one's own classes (plain instances): ==, !=, in, len, + and - -/
/-- a special method of the class at C -/
structure Spm (K : PySem.W.Frag) (C : Addr) (n : Str) (f : Addr) : Prop where
  hs : PySem.W.findIn K (.ref C) n = some (some (.ref f))
  hf : PySem.W.isFn K (.ref f) = true
section
variable {X : Cx} {CX : CXT} {k : Nat} {f C : Addr} {fd : FuncData} {ps : List Str} {sp : Sp} {E : XK}
/-- the callee's answer is a bool -/
theorem back_bool {pins : List (Addr × Obj)} {σ : L2.St} {Q : VK} {g : Bool → Bool} {u : Value} {s' : Shared} (h : EP X pins σ (fun v H' => ∃ b, v = .bl b ∧ Q (.bl (g b)) H') u s') :
    ∃ b, u = .bool b ∧ EP X pins σ Q (.bool (g b)) s' := by
  obtain ⟨v, H', I', r, b, rfl, q⟩ := h
  obtain rfl : u = .bool b := r
  exact ⟨b, rfl, .bl (g b), H', I', rfl, q⟩
def rOwn (C : Addr) (sp : Sp) (E : XK) (g : Bool → Bool) : R2 := fun x y H Q => ∃ a b dx fs dy gs, x = .ref a ∧ y = .ref b ∧ H a = some (.ins C dx fs) ∧ H b = some (.ins C dy gs) ∧ sp [x, y] H (fun v H' => ∃ b, v = .bl b ∧ Q (.bl (g b)) H') E
theorem op_eq_own (F : FnOk X.prog X.w X.K X.mg X.base CX k f fd ps sp) (hr : Room k X.A) (m : Spm X.K C "__eq__" f) (hb : Binds X.K fd ps []) (hx : Passes CX X E) : OpR X (compareOp .Eq) (rOwn C sp E id) := by
  intro pins s σ H x y v u Q I rx ry hq
  obtain ⟨a, b, dx, fs, dy, gs, rfl, rfl, ha, hb', q⟩ := hq
  cases rx
  cases ry
  obtain ⟨mA, J, _⟩ := ins_get I.hok ha
  obtain ⟨mB, J', _⟩ := ins_get I.hok hb'
  obtain ⟨od, J, _⟩ := J.look
  obtain ⟨od', J', _⟩ := J'.look
  obtain ⟨mm, hF⟩ := I.fr
  show wpAny (model X.prog X.w) X.A (richCompare .Eq (.ref a) (.ref b)) (EP X pins σ Q) X.xe s
  refine PySem.W.cmp_K (op := .Eq) (tb := .ref C) (Nat.lt_of_succ_lt (hu_of hr)) hF I.ok.mod.kin J J'.type (by simp [PySem.W.notFirst]) m.hs m.hf ?_
  refine thn (run_fn (us := [.ref a, .ref b]) (vs := [.ref a, .ref b]) F hr hb .nil hx I (.cons rfl (.cons rfl .nil)) q) fun u' s' e => ?_
  obtain ⟨b', rfl, e'⟩ := back_bool e
  exact e'
/-- object.__ne__, the class having an own == -/
theorem ne_call {A : Around} {EE : Value → Shared → Prop} {s : Shared} {K : PySem.W.Frag} {a : Addr} {y : Value} {ox : Obj} {od : Option Obj} {R : Value → Shared → Prop} (hu : A.units + 1 < cLine) (XK : K.In s.heap) (J : PySem.W.InstAt s.heap a ox C od)
    (hm : PySem.W.mroIn K C (.type "object") = some true) (hn : PySem.W.findIn K (.ref C) "__ne__" = some (some (.builtin "object.__ne__"))) (m : Spm K C "__eq__" f)
    (h : wpAny (model X.prog X.w) A.in1 (call (.ref f) [.ref a, y]) (fun u s' => ∃ b, u = .bool b ∧ R (.bool (!b)) s') EE s) :
    wpAny (model X.prog X.w) A (tryCompare (.ref a) "__ne__" y) (fun r s' => ∃ v, r = some v ∧ R v s') EE s := by
  have main : wpAny (model X.prog X.w) A (call (.builtin "object.__ne__") [.ref a, y]) (fun v s' => ∃ b, v = .bool b ∧ R (.bool b) s') EE s := by
    refine wpAny_call (codeAny_call_builtin F.cmp_object.ne.plain F.cmpEntry_ne (PySem.W.check_slot F.cmpKind_ne F.cmpSplit_ne (J.type.andThen (PySem.W.looks_mroIn XK hm)) (F.cmpArgs_ne _ _) ?_))
    unfold Builtin.«object.__ne__»
    repeat (first
      | with_reducible refine wpAny_cRoomFor (by first | exact hu | (show A.units + 1 < cLine; exact hu) | (have := hu; omega)) ?_
      | (refine wpAny_bind (m := callSpecialIfBound? (.ref a) (Str.ofString "__eq__") [y])
          (PySem.W.ifBound_K XK J m.hs m.hf (wpAny_mono h (fun r s' hr => by
            obtain ⟨b, rfl, hq⟩ := hr
            repeat (first | exact ⟨_, rfl, hq⟩ | exact wpAny_pure ⟨_, rfl, hq⟩ | exact wpAny_truthy_bool ⟨_, rfl, hq⟩ | (refine wpAny_bind (m := truthy (.bool _)) (wpAny_truthy_bool ?_)) | wp_step)) fun _ _ e => e)))
      | wp_step)
  unfold tryCompare
  have fin : wpAny (model X.prog X.w) A (call (.builtin "object.__ne__") ([.ref a] ++ [y]) >>= fun v => pure (some v)) (fun r s' => ∃ b, r = some (.bool b) ∧ R (.bool b) s') EE s :=
    wpAny_bind (wpAny_mono main (fun v s' h' => by obtain ⟨b, rfl, q⟩ := h'; exact wpAny_pure ⟨b, rfl, q⟩) fun _ _ h' => h')
  refine wpAny_bind (wpAny_mono (Q := fun r s' => ∃ b, r = some (.bool b) ∧ R (.bool b) s') ?_ (fun r s' h' => by obtain ⟨b, rfl, q⟩ := h'; exact wpAny_pure ⟨_, rfl, q⟩) fun _ _ h' => h')
  simp only [callSpecialIfBound?, bindSpecialIfBound?]
  refine wpAny_holding (wpAny_bind (wpAny_bind (wpAny_bind (J.type.here ((PySem.W.looks_findIn XK hn).here ?_)))))
  refine wpAny_bind (wpAny_askSetting (wpAny_ite ?_))
  split
  · exact wpAny_bind (wpAny_of_eq (F.cmp_object.ne.bind _) (wpAny_pure (by exact fin)))
  · exact wpAny_tryCatch (wpAny_bind (wpAny_of_eq (F.cmp_object.ne.bind _) (wpAny_pure (by exact fin))))
/-- the callee runs, a little deeper -/
theorem run_at {A : Around} {pins : List (Addr × Obj)} {σ : L2.St} {H : Hp} {s : Shared} {Q : VK} {us : List Value} {vs : List V} (F : FnOk X.prog X.w X.K X.mg X.base CX k f fd ps sp) (hr : Room k A) (hA : A.frames = X.A.frames) (hb : Binds X.K fd ps []) (hx : Passes CX X E)
    (I : Inv X pins σ H s) (r : Vals vs us) (h : sp vs H Q E) : wpAny (model X.prog X.w) A (call (.ref f) us) (EP X pins σ Q) X.xe s := by
  have hl : us.length = ps.length := by rw [← r.length]; exact F.len _ _ _ _ h
  have e0 : Env0 X.prog X.w X.K X.mg X.base A X.stack s H := by
    have e := I.env0
    exact ⟨by rw [hA]; exact e.frames, e.mod, e.bs, e.bsz, e.funs, e.frf, e.hok, e.bare⟩
  have b := hb s us I.kIn (by rw [List.append_nil]; exact hl)
  rw [List.append_nil] at b
  refine wpAny_call (codeAny_mono (F.run A X.stack s H ⟨us, []⟩ us vs Q E hr e0 b r h) fun r s' hq => ?_)
  cases r with
  | error e => exact hx pins σ H s e s' I hq
  | ok fl =>
    cases fl with
    | ret u => exact I.after hq
    | next => exact False.elim hq
    | brk => exact False.elim hq
    | cont => exact False.elim hq
theorem op_ne_own (F : FnOk X.prog X.w X.K X.mg X.base CX k f fd ps sp) (hr : Room (k + 1) X.A) (m : Spm X.K C "__eq__" f) (hb : Binds X.K fd ps []) (hx : Passes CX X E)
    (hm : PySem.W.mroIn X.K C (.type "object") = some true) (hn : PySem.W.findIn X.K (.ref C) "__ne__" = some (some (.builtin "object.__ne__"))) : OpR X (compareOp .NotEq) (rOwn C sp E not) := by
  intro pins s σ H x y v u Q I rx ry hq
  obtain ⟨a, b, dx, fs, dy, gs, rfl, rfl, ha, hb', q⟩ := hq
  cases rx
  cases ry
  obtain ⟨mA, J, _⟩ := ins_get I.hok ha
  obtain ⟨mB, J', _⟩ := ins_get I.hok hb'
  obtain ⟨od, J, _⟩ := J.look
  obtain ⟨od', J', _⟩ := J'.look
  have one : wpAny (model X.prog X.w) X.A (tryCompare (.ref a) "__ne__" (.ref b)) (fun r s' => ∃ v, r = some v ∧ EP X pins σ Q v s') X.xe s := by
    refine ne_call (by have := hu_of hr; omega) I.kIn J hm hn m (thn (run_at (us := [.ref a, .ref b]) (vs := [.ref a, .ref b]) F hr.in1 rfl hb hx I (.cons rfl (.cons rfl .nil)) q) fun u' s' e => ?_)
    obtain ⟨b', rfl, e'⟩ := back_bool e
    exact ⟨b', rfl, e'⟩
  show wpAny (model X.prog X.w) X.A (richCompare .NotEq (.ref a) (.ref b)) (EP X pins σ Q) X.xe s
  unfold richCompare
  simp only [oneThing_ref]
  refine wpAny_holding (wpAny_bind (wpAny_cRoomFor (Nat.lt_of_succ_lt (hu_of hr)) ?_))
  refine wpAny_bind (J.type.here (wpAny_bind (J'.type.here ?_)))
  rw [cmpInfo_NotEq]
  dsimp only
  rw [show (Value.ref C != Value.ref C) = false from by simp]
  simp only [Bool.false_eq_true, if_false]
  refine wpAny_bind (wpAny_pure ?_)
  simp only [Bool.false_eq_true, if_false]
  refine wpAny_bind (thn one fun r s' z => ?_)
  obtain ⟨v, rfl, hq⟩ := z
  exact wpAny_pure hq
/-- y in x -/
def rOwnIn (C : Addr) (sp : Sp) (E : XK) : R2 := fun y x H Q => ∃ a dx fs, x = .ref a ∧ H a = some (.ins C dx fs) ∧ sp [x, y] H (fun v H' => ∃ b, v = .bl b ∧ Q (.bl b) H') E
theorem op_in_own (F : FnOk X.prog X.w X.K X.mg X.base CX k f fd ps sp) (hr : Room k X.A) (m : Spm X.K C "__contains__" f) (hb : Binds X.K fd ps []) (hx : Passes CX X E) : OpR X (compareOp .In) (rOwnIn C sp E) := by
  intro pins s σ H y x v u Q I ry rx hq
  obtain ⟨a, dx, fs, rfl, ha, q⟩ := hq
  cases rx
  obtain ⟨mA, J, _⟩ := ins_get I.hok ha
  obtain ⟨od, J, _⟩ := J.look
  obtain ⟨mm, hF⟩ := I.fr
  refine PySem.W.in_K hF I.ok.mod.kin J m.hs m.hf ?_
  refine thn (run_fn (us := [.ref a, v]) (vs := [.ref a, y]) F hr hb .nil hx I (.cons rfl (.cons ry .nil)) q) fun u' s' e => ?_
  obtain ⟨b', rfl, e'⟩ := back_bool (g := id) e
  exact wpAny_truthy_bool e'
/-- len(x) -/
def rOwnLen (C : Addr) (sp : Sp) (E : XK) : List V → Hp → VK → Prop := fun xs H Q => ∃ a dx fs, xs = [V.ref a] ∧ H a = some (.ins C dx fs) ∧ sp xs H (fun v H' => ∃ n : Int, v = .int n ∧ 0 ≤ n ∧ n < 2 ^ 62 ∧ Q (.int n) H') E
theorem call_len_own (F : FnOk X.prog X.w X.K X.mg X.base CX k f fd ps sp) (hr : Room (k + 1) X.A) (m : Spm X.K C "__len__" f) (hb : Binds X.K fd ps []) (hx : Passes CX X E) : CallR X (.builtin "len") (rOwnLen C sp E) := by
  intro pins s σ H xs us Q I r hq
  obtain ⟨a, dx, fs, rfl, ha, q⟩ := hq
  cases r with
  | cons r1 r2 =>
    cases r2
    cases r1
    obtain ⟨mA, J, _⟩ := ins_get I.hok ha
    obtain ⟨od, J, _⟩ := J.look
    obtain ⟨mm, hF⟩ := I.fr
    refine PySem.W.len_K hF I.ok.mod.kin J m.hs m.hf ?_
    refine thn (run_at (us := [.ref a]) (vs := [.ref a]) F hr.in1 rfl hb hx I (.cons rfl .nil) q) fun u' s' e => ?_
    obtain ⟨v, H', I', r, n, rfl, h0, h1, q'⟩ := e
    obtain ⟨t, rfl⟩ := r
    exact ⟨⟨h0, by omega⟩, .int n, H', I'.tok _, ⟨_, rfl⟩, q'⟩
end
end OwnOp

set_option Elab.async false
set_option linter.all false
set_option maxRecDepth 100000
set_option maxHeartbeats 2000000
namespace OwnOp
open PySem PySem.Spec PyProof.Rows L2
theorem fills_none {T nm : String} (hf : typeLookup (.type T) (dunder nm) = pure none) (hr : typeLookup (.type T) (dunderR nm) = pure none) : fillsNumberSlot (.type T) nm = pure false := by
  unfold fillsNumberSlot
  simp only [hf, hr]
  rfl
theorem noFill_str_sub : fillsNumberSlot (.type "str") "sub" = pure false := fills_none (by rw [typeLookup_type, builtinLookup_eq_fast]; kernel_rfl) (by rw [typeLookup_type, builtinLookup_eq_fast]; kernel_rfl)
theorem noFill_none_add : fillsNumberSlot (.type "NoneType") "add" = pure false := fills_none (by rw [typeLookup_type, builtinLookup_eq_fast]; kernel_rfl) (by rw [typeLookup_type, builtinLookup_eq_fast]; kernel_rfl)
theorem noFill_none_sub : fillsNumberSlot (.type "NoneType") "sub" = pure false := fills_none (by rw [typeLookup_type, builtinLookup_eq_fast]; kernel_rfl) (by rw [typeLookup_type, builtinLookup_eq_fast]; kernel_rfl)
theorem int_radd : typeLookup (.type "int") (dunderR "add") = pure (some (.builtin "int.__radd__")) := by rw [typeLookup_type, builtinLookup_eq_fast]; kernel_rfl
theorem int_rsub : typeLookup (.type "int") (dunderR "sub") = pure (some (.builtin "int.__rsub__")) := by rw [typeLookup_type, builtinLookup_eq_fast]; kernel_rfl
section
variable {X : Cx} {A : Around} {EE : Value → Shared → Prop} {s : Shared} {K : PySem.W.Frag} {a C f : Addr} {ox : Obj} {od : Option Obj} {b : Value} {T : String} {op : Operator} {Q : Value → Shared → Prop}
theorem binop_left (XK : K.In s.heap) (J : PySem.W.InstAt s.heap a ox C od) (hb : PySem.W.Looks (model X.prog X.w) s.heap (typeOf b) (.type T)) (hc : PySem.W.selfFirst K C = true)
    (m : Spm K C (PySem.dunder op.info.2) f) (hT : fillsNumberSlot (.type T) op.info.2 = pure false)
    (h : wpAny (model X.prog X.w) A (call (.ref f) [.ref a, b]) (PySem.W.CmpBack Q) EE s) : wpAny (model X.prog X.w) A (binaryOp op (.ref a) b) Q EE s := by
  obtain ⟨cd, hcd, hm⟩ := PySem.W.any_some hc
  obtain ⟨rest, hm⟩ : ∃ rest, cd.mro = .ref C :: rest := by
    cases q : cd.mro with
    | nil => rw [q] at hm; cases hm
    | cons a r => rw [q] at hm; exact ⟨r, by rw [List.head?_cons] at hm; cases (beq_iff_eq.mp hm); rfl⟩
  unfold binaryOp
  refine wpAny_holding (wpAny_bind ?_)
  unfold binaryOp1
  refine wpAny_bind (J.type.here (wpAny_bind (hb.here (wpAny_bind ((PySem.W.fills_K XK hcd hm m.hs).here ?_)))))
  rw [show (Value.ref C == Value.type T) = false from rfl]
  simp only [Bool.false_eq_true, if_false]
  refine wpAny_bind (wpAny_of_eq hT ?_)
  simp only [Bool.and_false, Bool.false_eq_true, if_false, Bool.false_and]
  refine wpAny_bind (wpAny_pure ?_)
  simp only [Bool.false_eq_true, if_false]
  refine wpAny_bind (m := tryMethod (.ref a) _ b) ?_
  unfold tryMethod
  refine wpAny_bind (PySem.W.special_fn XK J m.hs (beq_iff_eq.mp m.hf) (wpAny_mono h (fun v s' hv => ?_) fun _ _ e => e))
  cases v <;> first | exact hv.elim | exact wpAny_pure (wpAny_pure (wpAny_pure hv))
theorem slotPy {M : Model} {h : Heap} {n : String} (XK : K.In h) (h1 : PySem.W.findIn K (.ref C) (PySem.dunder n) = some (some (.ref f))) (h2 : PySem.W.findIn K (.ref C) (PySem.dunderR n) = some none) : PySem.W.Looks M h (numberSlotInPython (.ref C) n) true := by
  intro A Q E s k q
  unfold numberSlotInPython
  refine wpAny_bind ((PySem.W.looks_findIn XK h1) A _ E s k ?_)
  refine wpAny_bind (wpAny_pure ?_)
  refine wpAny_bind ((PySem.W.looks_findIn XK h2) A _ E s k ?_)
  refine wpAny_bind (wpAny_pure ?_)
  exact wpAny_pure q
theorem binop1_left2 {nm rb : String} (XK : K.In s.heap) (J : PySem.W.InstAt s.heap a ox C od) (hb : PySem.W.Looks (model X.prog X.w) s.heap (typeOf b) (.type T)) (hc : PySem.W.selfFirst K C = true)
    (m : Spm K C (PySem.dunder nm) f) (hT : fillsNumberSlot (.type T) nm = pure true) (hsub : PySem.W.subIn K (.type T) (.ref C) = some false) (hno : PySem.W.findIn K (.ref C) (PySem.dunderR nm) = some none)
    (hR : typeLookup (.type T) (dunderR nm) = pure (some (.builtin rb)))
    (h : wpAny (model X.prog X.w) A (call (.ref f) [.ref a, b]) (PySem.W.CmpBack Q) EE s) : wpAny (model X.prog X.w) A (binaryOp1 nm (.ref a) b) (fun r s' => ∃ v, r = some v ∧ Q v s') EE s := by
  obtain ⟨cd, hcd, hm⟩ := PySem.W.any_some hc
  obtain ⟨rest, hm⟩ : ∃ rest, cd.mro = .ref C :: rest := by
    cases q : cd.mro with
    | nil => rw [q] at hm; cases hm
    | cons a r => rw [q] at hm; exact ⟨r, by rw [List.head?_cons] at hm; cases (beq_iff_eq.mp hm); rfl⟩
  unfold binaryOp1
  refine wpAny_bind (J.type.here (wpAny_bind (hb.here (wpAny_bind ((PySem.W.fills_K XK hcd hm m.hs).here ?_)))))
  rw [show (Value.ref C == Value.type T) = false from rfl]
  simp only [Bool.false_eq_true, if_false]
  refine wpAny_bind (wpAny_of_eq hT ?_)
  simp only [Bool.and_self, if_true]
  refine wpAny_bind ((PySem.W.looks_subIn XK hsub).here ?_)
  simp only [Bool.false_eq_true, if_false, Bool.not_false, Bool.and_self, if_true]
  refine wpAny_bind ((slotPy XK m.hs hno).here ?_)
  simp only [if_true]
  refine wpAny_bind (m := numberSlotInPython (.type T) nm) (wpAny_of_eq (a := false) (by rfl) ?_)
  simp only [Bool.not_false, if_true]
  refine wpAny_bind (wpAny_of_eq hR ?_)
  refine wpAny_bind (m := tryMethod (.ref a) _ b) ?_
  unfold tryMethod
  refine wpAny_bind (PySem.W.special_fn XK J m.hs (beq_iff_eq.mp m.hf) (wpAny_mono h (fun v s' hv => ?_) fun _ _ e => e))
  cases v <;> first | exact hv.elim | exact wpAny_pure (wpAny_pure ⟨_, rfl, hv⟩)
end
section
variable {X : Cx} {CX : CXT} {k : Nat} {f C : Addr} {fd : FuncData} {ps : List Str} {sp : Sp} {E : XK}
/-- x + w, x - w (w a text, None or an int): the answer is an object -/
def rOwnOp (C : Addr) (sp : Sp) (E : XK) : R2 := fun x y H Q => ∃ a dx fs, x = .ref a ∧ H a = some (.ins C dx fs) ∧ ((∃ z, y = .str z) ∨ y = .non ∨ ∃ i, y = .int i) ∧ sp [x, y] H (fun v H' => ∃ p, v = .ref p ∧ Q v H') E
/-- what the operator's names are -/
structure OpN (op : Operator) (nm rb : String) : Prop where
  info : ∃ sym, op.info = (sym, nm)
  s0 : fillsNumberSlot (.type "str") nm = pure false
  n0 : fillsNumberSlot (.type "NoneType") nm = pure false
  i1 : fillsNumberSlot (.type "int") nm = pure true
  rI : typeLookup (.type "int") (dunderR nm) = pure (some (.builtin rb))
theorem opn_add : OpN .Add "add" "int.__radd__" := ⟨⟨_, rfl⟩, PySem.noFill_str_add, noFill_none_add, F.fills_int_add, int_radd⟩
theorem opn_sub : OpN .Sub "sub" "int.__rsub__" := ⟨⟨_, rfl⟩, noFill_str_sub, noFill_none_sub, F.fills_int_sub, int_rsub⟩
theorem back_ref {pins : List (Addr × Obj)} {σ : L2.St} {Q : VK} {u : Value} {s' : Shared} (h : EP X pins σ (fun v H' => ∃ p, v = .ref p ∧ Q v H') u s') : PySem.W.CmpBack (EP X pins σ Q) u s' := by
  obtain ⟨v, H', I', r, p, rfl, q⟩ := h
  obtain rfl : u = .ref p := r
  exact ⟨.ref p, H', I', rfl, q⟩
theorem op_bin_own {op : Operator} {nm rb : String} (O : OpN op nm rb) (F : FnOk X.prog X.w X.K X.mg X.base CX k f fd ps sp) (hr : Room k X.A) (m : Spm X.K C (PySem.dunder nm) f) (hb : Binds X.K fd ps []) (hx : Passes CX X E) (hc : PySem.W.selfFirst X.K C = true)
    (hsub : PySem.W.subIn X.K (.type "int") (.ref C) = some false) (hno : PySem.W.findIn X.K (.ref C) (PySem.dunderR nm) = some none) : OpR X (binaryOp op) (rOwnOp C sp E) := by
  intro pins s σ H x y v u Q I rx ry hq
  obtain ⟨a, dx, fs, rfl, ha, hy, q⟩ := hq
  cases rx
  obtain ⟨mA, J, _⟩ := ins_get I.hok ha
  obtain ⟨od, J, _⟩ := J.look
  have run := thn (run_fn (us := [.ref a, u]) (vs := [.ref a, y]) F hr hb .nil hx I (.cons rfl (.cons ry .nil)) q) fun u' s' e => back_ref e
  obtain ⟨sym, hi⟩ := O.info
  have e2 : op.info.2 = nm := by rw [hi]
  rcases hy with ⟨z, rfl⟩ | rfl | ⟨i, rfl⟩
  · obtain ⟨t, rfl⟩ := ry
    exact binop_left (T := "str") I.kIn J (fun A Q E s _ q => wpAny_typeOf (show s.TypeIs (.str z t) "str" from rfl) q) hc (by rw [e2]; exact m) (by rw [e2]; exact O.s0) run
  · cases ry
    exact binop_left (T := "NoneType") I.kIn J (fun A Q E s _ q => wpAny_typeOf (show s.TypeIs .none "NoneType" from rfl) q) hc (by rw [e2]; exact m) (by rw [e2]; exact O.n0) run
  · obtain ⟨t, rfl⟩ := ry
    unfold binaryOp
    refine wpAny_holding ?_
    rw [hi]
    refine wpAny_bind (thn (binop1_left2 (T := "int") I.kIn J (fun A Q E s _ q => wpAny_typeOf (show s.TypeIs (.int i t) "int" from rfl) q) hc m O.i1 hsub hno O.rI run) fun r s' z => ?_)
    obtain ⟨v, rfl, hv⟩ := z
    exact wpAny_pure hv
end
end OwnOp

set_option Elab.async false
set_option linter.all false
set_option maxRecDepth 100000
set_option maxHeartbeats 2000000
namespace OwnOp
open PySem PySem.Spec PyProof.Rows L2 ClX
/-! ## cls(e, .., k = v, ..) of a local that holds a class, C.m(e, .., k = v, ..) of a classmethod -/
/-- x(e, .., k = v, ..), x in slot i the class at C -/
def tMakeL (i : Nat) (C : Addr) (n m : Nat) (sp : Sp) (gV : List V → List V → List V) (E : XK) (t tk : TA) : TE := fun σ H Q => σ[i]? = some (some (.ref C)) ∧ tMakeK C n m sp gV E t tk σ H Q
/-- C.m(e, .., k = v, ..), C's classmethod -/
def tCMethN (C : Addr) (n m : Nat) (sp : Sp) (gV : List V → List V → List V) (E : XK) (ta : TE) (t tk : TA) : TE := fun σ H Q => ta σ H fun x H1 => x = .ref C ∧ t σ H1 fun vs H2 => tk σ H2 fun zs H3 => vs.length = n ∧ zs.length = m ∧ sp (gV (.ref C :: vs) zs) H3 Q E
section
variable {X : Cx} {CX : CXT} {k n i : Nat} {f g C p : Addr} {fd : FuncData} {ps ks : List Str} {sp : Sp} {E : XK} {x m : Str} {mc : Value} {pp apos pos : Pos} {o e : Expr} {es : List Expr} {kws : List Keyword} {ta : TE} {t tk : TA} {gg : List Value → List Value → List Value} {gV : List V → List V → List V}
theorem pe_makeL (hN : X.N[i]? = some x) (hv : Vis X.env.scope x) (M : Mk X.K C f) (F : FnOk X.prog X.w X.K X.mg X.base CX k f fd ps sp) (hr : Room (k + 1) X.A) (hb : KBn X.K fd ps (n + 1) ks gg gV) (hx : Passes CX X E) (ha : PA X (e :: es) t) (hkw : PK X kws tk)
    (hall : (backToKw pos (keywordEach kws X.env)).all (·.1.isSome) = true := by rfl) (hks : (backToKw pos (keywordEach kws X.env)).filterMap (·.1) = ks := by rfl) (hd : (x == ("__debug__" : Str)) = false := by decide) (hcd : (x == ("__classdict__" : Str)) = false := by decide)
    (he : starEach (e :: es) X.env = (false, eval e X.env) :: starEach es X.env := by rfl) (hpl : ((backTo pos (starEach (e :: es) X.env)).any (·.1) || (backToKw pos (keywordEach kws X.env)).any (·.1.isNone)) = false := by rfl) :
    PE X (.Call (.Name x pp) (e :: es) kws pos) (tMakeL i C n ks.length sp gV E t tk) := by
  refine ⟨fun pins s σ H Q I h => ?_⟩
  obtain ⟨h0, h⟩ := h
  refine wpAny_Call_Name_kw ?_
  refine thn ((pe_var (pos := pp) hN hv hd hcd).run pins s σ H (fun v H' => v = .ref C ∧ H' = H) I ⟨.ref C, h0, rfl, rfl⟩) fun u s0 ⟨v, H', I0, rv, ev, eH⟩ => ?_
  subst ev
  subst eH
  obtain rfl : u = Value.ref C := rv
  refine PySem.W.callWith_KW (h₀ := X.base) I0.ok.mod.kin M.kp hall (thn (ha.run pos pins s0 σ _ _ I0 h) fun us s1 ⟨vs, H1, I1, r, q⟩ => ?_) hpl he
  refine thn (hkw.run pos pins s1 σ H1 _ I1 q) fun ws s2 ⟨zs, H2, I2, rz, l1, l2, q2⟩ => ⟨I2.kIn, ?_⟩
  rw [hks]
  exact run_makeK M F hr hb hx I2 r rz l1 l2 q2
theorem pe_cmethN {pl : Sem Bool} (he : PE X o ta) (r : CRead X.K C mc) (c : CMet X.K C mc m p g) (F : FnOk X.prog X.w X.K X.mg X.base CX k g fd ps sp) (hr : Room k X.A) (hb : KBn X.K fd ps (n + 1) ks gg gV) (hx : Passes CX X E) (ha : PA X (e :: es) t) (hkw : PK X kws tk)
    (hall : (backToKw pos (keywordEach kws X.env)).all (·.1.isSome) = true := by rfl) (hks : (backToKw pos (keywordEach kws X.env)).filterMap (·.1) = ks := by rfl)
    (hst : starEach (e :: es) X.env = (false, eval e X.env) :: starEach es X.env := by rfl) (hpl : ((backTo pos (starEach (e :: es) X.env)).any (·.1) || (backToKw pos (keywordEach kws X.env)).any (·.1.isNone)) = false := by rfl)
    (ht : eval (.Call (.Attribute o m apos) (e :: es) kws pos) X.env = (do
      let ov ← eval o X.env
      standAt apos.atName
      let (f, first) ← holding [ov] (getMethod ov m pl)
      callWith pos f first (backTo pos (starEach (e :: es) X.env)) (backToKw pos (keywordEach kws X.env))) := by rfl) :
    PE X (.Call (.Attribute o m apos) (e :: es) kws pos) (tCMethN C n ks.length sp gV E ta t tk) := by
  refine ⟨fun pins s σ H Q I h => ?_⟩
  refine PySem.W.methodCall_KW (pl := pl) (thn (he.run pins s σ H _ I h) fun u s1 ⟨x, H1, I1, rx, ex, q⟩ => ?_) ht
  subst ex
  obtain rfl : u = Value.ref C := rx
  refine getmethcm_ok I1 r c fun s2 I2 => ?_
  have hq := pin_at I2
  refine PySem.W.callWith_of hpl (PySem.W.keeps_M (self := .ref C) c.fi) (PyProof.Rows.evalArgs_kw2 hall (thn (ha.run pos _ s2 σ H1 _ I2 q) fun us s3 ⟨vs, H2, I3, rv, q2⟩ => ?_) hst)
  refine thn (hkw.run pos _ s3 σ H2 _ I3 q2) fun ws s4 ⟨zs, H3, I4, rz, l1, l2, q3⟩ => ⟨⟨pin_at I4, I4.kIn⟩, ?_⟩
  rw [hks]
  have n1 : (Value.ref C :: us).length = n + 1 := by rw [List.length_cons, ← rv.length, l1]
  have r1 : Vals (V.ref C :: vs) (Value.ref C :: us) := .cons rfl rv
  have z : wpAny (model X.prog X.w) X.A (call (.ref _) us (ks.zip ws)) (EP X _ σ Q) X.xe s4 :=
    wpAny_call (PySem.W.method_call (pin_at I4) (codeAny_mono (F.run X.A X.stack s4 H3 ⟨Value.ref C :: us, ks.zip ws⟩ (gg (Value.ref C :: us) ws) (gV (V.ref C :: vs) zs) Q E hr I4.env0 (hb.to s4 _ _ I4.kIn n1 (rz.length.symm.trans l2)) (hb.rel r1 rz) q3) fun r s' hq => by
      cases r with
      | error e => exact hx _ σ H3 s4 e s' I4 hq
      | ok fl =>
        cases fl with
        | ret u => exact I4.after hq
        | next => exact False.elim hq
        | brk => exact False.elim hq
        | cont => exact False.elim hq))
  exact thn z fun _ _ y => unpinE y
end
end OwnOp

set_option Elab.async false
set_option linter.all false
set_option maxRecDepth 100000
namespace KW
open PySem L2
/-! ## the text by places -/
def topS (i : Nat) : Stmt := PySem.Challenge.pw_quietharm_k01_whole_keeps.main.body.getD i (.Pass ⟨0, 0, 0, 0⟩)
abbrev sIsInt : Stmt := topS 1
abbrev sBetween : Stmt := topS 2
abbrev sOneOf : Stmt := topS 3
abbrev sBkInit : Stmt := inClass (topS 6) 0
abbrev sBpInit : Stmt := inClass (topS 7) 0
abbrev sPossible : Stmt := topS 15
abbrev sAreHarms : Stmt := topS 16
abbrev sAreSums : Stmt := topS 17
abbrev sIsOrder : Stmt := topS 18
abbrev sKInit : Stmt := inClass (topS 19) 0
abbrev sKFull : Stmt := inClass (topS 19) 1
abbrev sKEq : Stmt := inClass (topS 19) 2
abbrev sKLen : Stmt := inClass (topS 19) 3
abbrev sKIn : Stmt := inClass (topS 19) 4
abbrev sKAdd : Stmt := inClass (topS 19) 5
abbrev sKSub : Stmt := inClass (topS 19) 6
abbrev sPInit : Stmt := inClass (topS 20) 0
abbrev sPEq : Stmt := inClass (topS 20) 1
abbrev sPBut : Stmt := inClass (topS 20) 2
abbrev sPTurned : Stmt := inClass (topS 20) 3
abbrev sNumber : Stmt := topS 22
abbrev sPart : Stmt := topS 23
abbrev sPick : Stmt := topS 24
abbrev sKeepR : Stmt := topS 25
abbrev sOpR : Stmt := topS 26
abbrev sPlanR : Stmt := topS 27
abbrev sButR : Stmt := topS 28
abbrev sLaw : Stmt := topS 29
end KW

set_option Elab.async false
set_option linter.all false
set_option maxRecDepth 100000
set_option maxHeartbeats 2000000
namespace OwnOp
open PySem PySem.Spec PyProof.Rows L2 LamX
/-! ## a caught error with its own dict: isinstance, a field; the def that asks a lambda and tells the error's part -/
theorem iteB {c : Bool} {A B : Prop} (hc : c = true) (h : A) : if c = true then A else B := by
  rw [if_pos hc]
  exact h
theorem iteBF {c : Bool} {A B : Prop} (hc : c = false) (h : B) : if c = true then A else B := by
  rw [hc, if_neg Bool.false_ne_true]
  exact h
/-- isinstance(e, c), e the exception in hand: one of the classes that Ds tells, its own dict at dd -/
def rIsE2 (K : PySem.W.Frag) (cls : Value) (d : Option Addr) (a : Addr) : List V → Hp → VK → Prop := fun xs H Q =>
  ∃ (D dd : Addr) (fs : List (Str × V)) (c : V) (cv : Value) (b : Bool), cls = .ref D ∧ ExcC K D ∧ d = some dd ∧ H dd = some (.xd fs) ∧ xs = [.ref a, c] ∧ (∀ u, RelV c u → u = cv) ∧ PySem.W.kitOne K (.ref D) cv = some b ∧ Q (.bl b) H
theorem call_isE2 {X : Cx} {a : Addr} {oe : Obj} {cls : Value} {d : Option Addr} {pn : List (Addr × Obj)} (hz : Zc cls d oe) (hf : ∃ vs, oe.data = .fields vs) : CallR (X.suite a ((a, oe) :: pn)) (.builtin "isinstance") (rIsE2 X.K cls d a) := by
  intro pins s σ H xs us Q I r h
  obtain ⟨D, dd, fs, c, cv, b, rfl, C, rfl, hd, rfl, hcv, e, q⟩ := h
  cases r with
  | cons rx rr =>
    cases rr with
    | cons rt rr =>
      cases rr
      cases rx
      have ec := hcv _ rt
      subst ec
      obtain ⟨hget, _⟩ := I.pin (a, oe) (List.mem_append.mpr (.inl List.mem_cons_self))
      obtain ⟨vs, hv⟩ := hf
      have hx : ObjOk X.prog X.w H s.heap dd (.xd fs) := I.hok dd _ hd
      obtain ⟨mA, hns, hr⟩ := hx
      obtain ⟨od, ho, hl⟩ := lookIn_ns hns
      have J : PySem.W.InstAt s.heap a oe D (some od) := ⟨hget, hz.1, by unfold PySem.W.notCls; rw [hv] <;> rfl, by rw [hz.2]; exact ho⟩
      have hcl : (PySem.W.clsIn X.K D).isSome = true := by
        obtain ⟨cd, hc, _⟩ := PySem.W.any_some C.hd
        rw [hc]; rfl
      exact PySem.W.kia_one (PySem.W.kitx_exc hcl C.hg C.hk C.hs C.ha C.hn C.ht C.hm) I.kIn J e (fun z => nomatch z) fun tk => ⟨.bl b, H, I.kept (t' := tk) fun _ _ z => z, rfl, q⟩
/-- e.f of the exception in hand, its class among several -/
def tXf2 (K : PySem.W.Frag) (a : Addr) (cls : Value) (d : Option Addr) (n : Str) (te : TE) : TE := fun σ H Q => ∃ C, XfC K C ∧ PySem.W.findIn K (.ref C) n = some none ∧ tXf a cls d C n te σ H Q
theorem pe_xf2 {X : Cx} {a : Addr} {oe : Obj} {cls : Value} {d : Option Addr} {pn : List (Addr × Obj)} {e : Expr} {te : TE} {pos : Pos} {n : Str} (hz : Zc cls d oe) (hf : ∃ vs, oe.data = .fields vs) (he : PE (X.suite a ((a, oe) :: pn)) e te)
    (hb : attributeBase e n X.env (eval e X.env) = eval e X.env := by rfl) : PE (X.suite a ((a, oe) :: pn)) (.Attribute e n pos) (tXf2 X.K a cls d n te) := by
  refine ⟨fun pins s σ H Q I h => ?_⟩
  obtain ⟨C, T, hno, h⟩ := h
  exact (pe_xf T hno hz hf he hb).run pins s σ H Q I h
/-- what _law_part makes of the lambda's reading: CH the class that is caught, CK and CP those that are told apart -/
def TPart (K : PySem.W.Frag) (CH CK CP : Addr) : (XK → Hp → VK → Prop) → Hp → VK → Prop := fun tl H Q =>
  tl (fun cls d H' => ∃ (D dd : Addr) (v : V) (b1 b2 : Bool), cls = .ref D ∧ ExcC K D ∧ XfC K D ∧ PySem.W.findIn K (.ref D) "part" = some none ∧ PySem.W.exmOne K cls (.ref CH) = some true ∧
    d = some dd ∧ H' dd = some (.xd [("part", v)]) ∧ PySem.W.kitOne K (.ref D) (.ref CK) = some b1 ∧ PySem.W.kitOne K (.ref D) (.ref CP) = some b2 ∧ b1 ≠ b2 ∧ Q v H') H (fun _ H' => Q (.str "none") H')
section
variable {X : Cx}
/-- the wish may lean on the number of slots -/
theorem takes_len {W : WX} (tk : Takes X W) : Takes X (fun cls d σ H => σ.length = X.N.length → W cls d σ H) := fun u s' ⟨a, B, sI, pins, σ, H, cls, d, e, I, nb, up, sky, na, os, ag, w⟩ =>
  tk u s' ⟨a, B, sI, pins, σ, H, cls, d, e, I, nb, up, sky, na, os, ag, w I.len⟩
theorem part_gives {q : Str} {g CH CK CP : Addr} {cdg : Value} (hme : X.mg "HarmError" = some (.ref CH)) (hmk : X.mg "BadKeep" = some (.ref CK)) (hmp : X.mg "BadPlan" = some (.ref CP)) (hmi : X.mg "isinstance" = none) :
    GivesTo X ["ask", "error"] "_law_part" (defScope KW.sPart) g cdg (defBody KW.sPart) "ask" q (TPart X.K CH CK CP) := by
  intro f c' s H Q tl act hc h
  have nd : (["ask", "error"] : List Str).Nodup := by decide +kernel
  refine ⟨_, pss_cons (ps_try_as (i := 1) (X := (cxOf C8.CX0 X.prog X.w X.K X.mg X.base ["ask", "error"] "_law_part" (defScope KW.sPart) g cdg X.A X.stack s H C8.E0).nox) (c := .ref CH)
      (tb := fun W D σ H => ∃ Ech : XK, (∀ cls d (σ' : L2.St) H', Ech cls d H' → σ'.length = 2 → W cls d σ' H') ∧ σ[0]? = some (some (.ref f)) ∧ H c' = some (CodeO c' q) ∧ tl Ech H (fun _ H' => D.nx σ H'))
      (Wout := fun _ _ _ _ => False) rfl rfl nd rfl rfl ⟨rfl, by decide, .inl hme⟩ LamX.takes0 (fun W pn xe tk _ => ?_)
      (fun a oe cls d pn hz hf => pss_one (ps_ret (pe_ifExp (pt_cmpR op_ne (pe_callB (call_isE2 hz hf) (by rfl) hmi (by decide +kernel) (pa_cons (pv 1) (pa_cons (pe_glob (v := .ref CK) rfl hmk rfl) pa_nil)))
        (pe_callB (call_isE2 hz hf) (by rfl) hmi (by decide +kernel) (pa_cons (pv 1) (pa_cons (pe_glob (v := .ref CP) rfl hmp rfl) pa_nil))) (nomark _)) (pe_xf2 hz hf (pv 1)) pe_str)))) (pss_one (ps_ret pe_str)), ?_⟩
  · refine ⟨fun pins s' σ H' D I h' => ?_⟩
    obtain ⟨Ech, hW, h1, h2, h3⟩ := h'
    have hp := act _ pn xe Ech ⟨126, 8, 126, 11⟩ ⟨126, 8, 126, 13⟩ (takes_len tk) hW
    have hq := pss_one (ps_expr (pos := ⟨126, 8, 126, 13⟩) hp)
    exact hq.run pins s' σ H' D I ⟨h1, h2, h3⟩
  · refine ⟨_, fun cls d σ' H' hE hl => ?_, rfl, hc, h⟩
    obtain ⟨D, dd, v, b1, b2, rfl, xc, xf, hno, hex, rfl, hd, k1, k2, hb, hq⟩ := hE
    refine ⟨true, hex, fun _ a _ => ?_, fun z => nomatch z⟩
    have hs : (σ'.set 1 (some (V.ref a)))[1]? = some (some (V.ref a)) := by
      rw [List.getElem?_set_self (by omega)]
    refine ⟨_, hs, D, dd, _, .ref CK, .ref CK, b1, rfl, xc, rfl, hd, rfl, (fun u r => r), k1, ?_⟩
    refine ⟨_, hs, D, dd, _, .ref CP, .ref CP, b2, rfl, xc, rfl, hd, rfl, (fun u r => r), k2, ?_⟩
    refine ⟨rfl, _, rfl, ?_⟩
    have e : (!decide (V.bl b1 = V.bl b2)) = true := by
      cases b1 <;> cases b2 <;> first | exact absurd rfl hb | rfl
    refine iteB e ?_
    exact ⟨D, xf, hno, _, hs, rfl, rfl, dd, _, v, rfl, hd, rfl, hq⟩
end
end OwnOp

set_option Elab.async false
set_option linter.all false
set_option maxRecDepth 100000
set_option maxHeartbeats 2000000
namespace KW
open PySem PySem.Spec PyProof.Rows L2 LamX OwnOp
/-! ## values: flat ones, and tuples and lists of flat ones -/
/-- flat, and a text of the usual signs -/
def okV : V → Bool
  | .non => true
  | .bl _ => true
  | .int _ => true
  | .str z => PySem.PyData.strOk z
  | _ => false
theorem okV.flat {v : V} (h : okV v = true) : flatV v = true := by
  cases v <;> first | rfl | cases h
theorem okV.all {xs : List V} (h : xs.all okV = true) : xs.all flatV = true := List.all_eq_true.mpr fun x hx => okV.flat (List.all_eq_true.mp h x hx)
inductive Dat where
  | fl (v : V) | tup (xs : List V) | lst (xs : List V)
/-- v is what d says, in the heap H -/
inductive Is (K : PySem.W.Frag) (H : Hp) : V → Dat → Prop where
  | fl {v : V} (h : okV v = true) : Is K H v (.fl v)
  | tup {p : Addr} {xs : List V} (h : SqT K H p xs) (hf : xs.all okV = true) : Is K H (.ref p) (.tup xs)
  | lst {p : Addr} {xs : List V} (h : SqL K H p xs) (hf : xs.all okV = true) : Is K H (.ref p) (.lst xs)
theorem Same.sqT {K : PySem.W.Frag} {H H' : Hp} {a : Addr} {xs : List V} (e : Same H H') (h : SqT K H a xs) : SqT K H' a xs := by
  rcases h with (h | ⟨o, h⟩) | h
  · exact .inl (.inl (e _ _ h))
  · exact .inl (.inr ⟨o, e _ _ h⟩)
  · exact .inr h
theorem Same.is {K : PySem.W.Frag} {H H' : Hp} {v : V} {d : Dat} (e : Same H H') (h : Is K H v d) : Is K H' v d := by
  cases h with
  | fl h => exact .fl h
  | tup h hf => exact .tup (Same.sqT e h) hf
  | lst h hf => exact .lst (e.seq h) hf
theorem same_upd {H : Hp} {p : Addr} {o : HO} (h : H p = none) : Same H (upd H p o) := fun b u e => by
  rw [upd_ne (ne_of_none e h)]
  exact e
/-- the type's name -/
def tyD : Dat → String
  | .fl .non => "NoneType"
  | .fl (.bl _) => "bool"
  | .fl (.int _) => "int"
  | .fl (.str _) => "str"
  | .fl _ => "object"
  | .tup _ => "tuple"
  | .lst _ => "list"
theorem Is.ty {K : PySem.W.Frag} {H : Hp} {v : V} {d : Dat} (h : Is K H v d) : TyX K H v (.type (tyD d)) := by
  cases h with
  | fl h =>
    cases v with
    | non => exact .base .non
    | bl b => exact .base (.bl b)
    | int i => exact .base (.int i)
    | str x => exact .base (.str x)
    | _ => exact absurd (show false = true from h) Bool.false_ne_true
  | tup h hf =>
    rcases h with (h | ⟨o, h⟩) | ⟨o, its, n, hk, hc, _⟩
    · exact .base (.tup h)
    · exact .fTuple h
    · exact .kTuple hk hc
  | lst h hf =>
    rcases h with (h | ⟨o, h⟩) | ⟨o, its, n, hk, hc, _⟩
    · exact .base (.lst h)
    · exact .base (.frz h)
    · exact .kList hk hc
def isInt : Dat → Bool
  | .fl (.int _) => true
  | _ => false
def isIntB : Dat → Bool
  | .fl (.int _) => true
  | .fl (.bl _) => true
  | _ => false
def isBool : Dat → Bool
  | .fl (.bl _) => true
  | _ => false
def isStr : Dat → Bool
  | .fl (.str _) => true
  | _ => false
def isTup : Dat → Bool
  | .tup _ => true
  | _ => false
section
variable {K : PySem.W.Frag} {H : Hp} {v : V} {d : Dat}
theorem Is.kInt (h : Is K H v d) : PySem.W.kitOne K (.type (tyD d)) (.type "int") = some (isIntB d) := by
  cases h with
  | fl h =>
    cases v with
    | non => exact kit_ty (show kitB "NoneType" "int" = some false by decide +kernel)
    | bl b => exact kit_ty (show kitB "bool" "int" = some true by decide +kernel)
    | int i => exact kit_ty (show kitB "int" "int" = some true by decide +kernel)
    | str x => exact kit_ty (show kitB "str" "int" = some false by decide +kernel)
    | _ => exact absurd (show false = true from h) Bool.false_ne_true
  | tup h hf => exact kit_ty (show kitB "tuple" "int" = some false by decide +kernel)
  | lst h hf => exact kit_ty (show kitB "list" "int" = some false by decide +kernel)
theorem Is.kBool (h : Is K H v d) : PySem.W.kitOne K (.type (tyD d)) (.type "bool") = some (isBool d) := by
  cases h with
  | fl h =>
    cases v with
    | non => exact kit_ty (show kitB "NoneType" "bool" = some false by decide +kernel)
    | bl b => exact kit_ty (show kitB "bool" "bool" = some true by decide +kernel)
    | int i => exact kit_ty (show kitB "int" "bool" = some false by decide +kernel)
    | str x => exact kit_ty (show kitB "str" "bool" = some false by decide +kernel)
    | _ => exact absurd (show false = true from h) Bool.false_ne_true
  | tup h hf => exact kit_ty (show kitB "tuple" "bool" = some false by decide +kernel)
  | lst h hf => exact kit_ty (show kitB "list" "bool" = some false by decide +kernel)
theorem Is.kStr (h : Is K H v d) : PySem.W.kitOne K (.type (tyD d)) (.type "str") = some (isStr d) := by
  cases h with
  | fl h =>
    cases v with
    | non => exact kit_ty (show kitB "NoneType" "str" = some false by decide +kernel)
    | bl b => exact kit_ty (show kitB "bool" "str" = some false by decide +kernel)
    | int i => exact kit_ty (show kitB "int" "str" = some false by decide +kernel)
    | str x => exact kit_ty (show kitB "str" "str" = some true by decide +kernel)
    | _ => exact absurd (show false = true from h) Bool.false_ne_true
  | tup h hf => exact kit_ty (show kitB "tuple" "str" = some false by decide +kernel)
  | lst h hf => exact kit_ty (show kitB "list" "str" = some false by decide +kernel)
theorem Is.kTup (h : Is K H v d) : PySem.W.kitOne K (.type (tyD d)) (.type "tuple") = some (isTup d) := by
  cases h with
  | fl h =>
    cases v with
    | non => exact kit_ty (show kitB "NoneType" "tuple" = some false by decide +kernel)
    | bl b => exact kit_ty (show kitB "bool" "tuple" = some false by decide +kernel)
    | int i => exact kit_ty (show kitB "int" "tuple" = some false by decide +kernel)
    | str x => exact kit_ty (show kitB "str" "tuple" = some false by decide +kernel)
    | _ => exact absurd (show false = true from h) Bool.false_ne_true
  | tup h hf => exact kit_ty (show kitB "tuple" "tuple" = some true by decide +kernel)
  | lst h hf => exact kit_ty (show kitB "list" "tuple" = some false by decide +kernel)
end
/-! ## the defs of checks.py -/
structure DefAt (K : PySem.W.Frag) (mg : Str → Option Value) (x qual : Str) (st : Stmt) where
  f : Addr
  fd : FuncData
  F : Fun K x qual st f fd
  g : mg x = some (.ref f)
def betw : Dat → Int → Int → Bool
  | .fl (.int i), lo, hi => decide (lo ≤ i ∧ i ≤ hi)
  | _, _, _ => false
def oneOf (v : V) (ws : List V) : Bool := match v with
  | .str _ => inV v ws
  | _ => false
def spIsInt (K : PySem.W.Frag) : Sp := fun vs H Q _ => ∃ v d, vs = [v] ∧ Is K H v d ∧ Q (.bl (isInt d)) H
def spBetween (K : PySem.W.Frag) : Sp := fun vs H Q _ => ∃ v d lo hi, vs = [v, .int lo, .int hi] ∧ Is K H v d ∧ Q (.bl (betw d lo hi)) H
def spOneOf (K : PySem.W.Frag) : Sp := fun vs H Q _ => ∃ v d p ws, vs = [v, .ref p] ∧ Is K H v d ∧ SqT K H p ws ∧ ws.all flatV = true ∧ Q (.bl (oneOf v ws)) H
/-- the built-in names that stand -/
structure Blt (mg : Str → Option Value) : Prop where
  isi : mg "isinstance" = none
  int : mg "int" = none
  bool : mg "bool" = none
  str : mg "str" = none
  tuple : mg "tuple" = none
  all : mg "all" = none
  sorted : mg "sorted" = none
  list : mg "list" = none
  range : mg "range" = none
  len : mg "len" = none
  sum : mg "sum" = none
  zip : mg "zip" = none
  enum : mg "enumerate" = none
section
variable {P : Program} {w : World} {K : PySem.W.Frag} {mg : Str → Option Value} {base : Heap} {f : Addr} {fd : FuncData}
theorem scIsInt : FnScope ["value"] ["value"] (defScope sIsInt) := ⟨rfl, rfl, rfl, by decide +kernel, rfl, by decide +kernel, by decide +kernel⟩
theorem ok_isInt (F : Fun K "is_integer" "is_integer" sIsInt f fd) (B : Blt mg) : FnOk P w K mg base CX0 1 f fd ["value"] (spIsInt K) := by
  refine F.ok scIsInt (fun vs H Q E h => ?_) (fun cdv A outer s H vs Q E hr h => ?_)
  · obtain ⟨v, d, rfl, _⟩ := h
    rfl
  · obtain ⟨v, d, rfl, hv, k⟩ := h
    refine ⟨_, pss_one (ps_ret (pe_and (pe_callB call_isi (by rfl) B.isi PyProof.Rows.boot_isinstance (pa_cons (pv 0) (pa_cons (pe_bltn (v := .ty "int") (by rfl) B.int PyProof.Rows.boot_int rfl) pa_nil)))
      (pe_one (pe_not (pe_callB call_isi (by rfl) B.isi PyProof.Rows.boot_isinstance (pa_cons (pv 0) (pa_cons (pe_bltn (v := .ty "bool") (by rfl) B.bool PyProof.Rows.boot_bool rfl) pa_nil))))))), ?_⟩
    refine ⟨_, rfl, v, _, _, _, _, rfl, .ty "int", hv.ty, hv.kInt, _, rfl, ?_⟩
    cases e : isIntB d with
    | false =>
      refine iteF ?_
      have e2 : isInt d = false := by
        cases d with
        | fl v => cases v <;> first | rfl | cases e
        | _ => rfl
      rw [← e2]
      exact k
    | true =>
      refine iteT ?_
      refine ⟨_, rfl, v, _, _, _, _, rfl, .ty "bool", hv.ty, hv.kBool, _, rfl, ?_⟩
      have e2 : (!isBool d) = isInt d := by
        cases d with
        | fl v => cases v <;> first | rfl | cases e
        | _ => cases e
      rw [e2]
      exact k
theorem scBetween : FnScope ["value", "least", "greatest"] ["value", "least", "greatest"] (defScope sBetween) := ⟨rfl, rfl, rfl, by decide +kernel, rfl, by decide +kernel, by decide +kernel⟩
theorem ok_between (F : Fun K "is_between" "is_between" sBetween f fd) (I : DefAt K mg "is_integer" "is_integer" sIsInt) (B : Blt mg) : FnOk P w K mg base CX0 2 f fd ["value", "least", "greatest"] (spBetween K) := by
  refine F.ok scBetween (fun vs H Q E h => ?_) (fun cdv A outer s H vs Q E hr h => ?_)
  · obtain ⟨v, d, lo, hi, rfl, _⟩ := h
    rfl
  · obtain ⟨v, d, lo, hi, rfl, hv, k⟩ := h
    have b := I.F.binds (ps := ["value"]) fun _ _ _ _ _ _ us hl => match us, hl with | [_], _ => rfl
    refine ⟨_, pss_one (ps_ret (pe_and (pe_call (ok_isInt I.F B) hr rfl I.g I.F.kp b .nil pass0 (pa_cons (pv 0) pa_nil)) (pe_one (pe_chain op_le op_le (pv 1) (pv 0) (pv 2))))), ?_⟩
    refine ⟨_, rfl, v, d, rfl, hv, _, rfl, ?_⟩
    cases e : isInt d with
    | false =>
      refine iteF ?_
      have e2 : betw d lo hi = false := by
        cases d with
        | fl v => cases v <;> first | rfl | cases e
        | _ => rfl
      rw [← e2]
      exact k
    | true =>
      refine iteT ?_
      cases hv with
      | fl h =>
        cases v with
        | int i =>
          refine ⟨_, rfl, _, rfl, _, _, rfl, rfl, _, rfl, ?_⟩
          refine ite2 (fun c => ?_) (fun c => ?_)
          · refine ⟨_, rfl, _, _, rfl, rfl, ?_⟩
            have c1 : lo ≤ i := of_decide_eq_true c
            have e3 : decide (i ≤ hi) = betw (.fl (.int i)) lo hi := by
              show decide (i ≤ hi) = decide (lo ≤ i ∧ i ≤ hi)
              exact decide_eq_decide.mpr ⟨fun z => ⟨c1, z⟩, fun z => z.2⟩
            show Q (.bl (decide (i ≤ hi))) H
            rw [e3]
            exact k
          · have e3 : false = betw (.fl (.int i)) lo hi := (decide_eq_false fun z => c (decide_eq_true z.1)).symm
            rw [e3]
            exact k
        | _ => cases e
      | tup => cases e
      | lst => cases e
theorem scOneOf : FnScope ["value", "words"] ["value", "words"] (defScope sOneOf) := ⟨rfl, rfl, rfl, by decide +kernel, rfl, by decide +kernel, by decide +kernel⟩
theorem ok_oneOf (F : Fun K "is_one_of" "is_one_of" sOneOf f fd) (B : Blt mg) : FnOk P w K mg base CX0 1 f fd ["value", "words"] (spOneOf K) := by
  refine F.ok scOneOf (fun vs H Q E h => ?_) (fun cdv A outer s H vs Q E hr h => ?_)
  · obtain ⟨v, d, p, ws, rfl, _⟩ := h
    rfl
  · obtain ⟨v, d, p, ws, rfl, hv, hw, hf, k⟩ := h
    refine ⟨_, pss_one (ps_ret (pe_and (pe_callB call_isi (by rfl) B.isi PyProof.Rows.boot_isinstance (pa_cons (pv 0) (pa_cons (pe_bltn (v := .ty "str") (by rfl) B.str PyProof.Rows.boot_str rfl) pa_nil)))
      (pe_one (pe_cmpR op_in_seq (pv 0) (pv 1) (by rfl))))), ?_⟩
    refine ⟨_, rfl, v, _, _, _, _, rfl, .ty "str", hv.ty, hv.kStr, _, rfl, ?_⟩
    cases e : isStr d with
    | false =>
      refine iteF ?_
      have e2 : oneOf v ws = false := by
        cases hv with
        | fl h => cases v <;> first | rfl | cases e
        | _ => rfl
      rw [← e2]
      exact k
    | true =>
      refine iteT ?_
      cases hv with
      | fl h =>
        cases v with
        | str z =>
          exact ⟨_, rfl, _, rfl, p, ws, rfl, .inr hw, rfl, hf, k⟩
        | _ => cases e
      | tup => cases e
      | lst => cases e
end
end KW

set_option Elab.async false
set_option linter.all false
set_option maxRecDepth 100000
set_option maxHeartbeats 2000000
namespace KW
open PySem PySem.Spec PyProof.Rows L2 LamX OwnOp
/-! ## comprehensions that filter and map -/
theorem take_more {α : Type} : ∀ {l : List α} {i : Nat} {x : α}, l[i]? = some x → l.take (i + 1) = l.take i ++ [x]
  | [], i, x, h => by simp at h
  | a :: l, 0, x, h => by
    have e : a = x := Option.some.inj h
    subst e
    rfl
  | a :: l, i + 1, x, h => by
    have ih := take_more (l := l) (i := i) (x := x) h
    show a :: l.take (i + 1) = a :: l.take i ++ [x]
    rw [ih]
    rfl
def sel (c : V → Bool) (gf : V → V) (xs : List V) : List V := (xs.filter c).map gf
theorem sel_more {c : V → Bool} {gf : V → V} {xs : List V} {i : Nat} {x : V} (h : xs[i]? = some x) : sel c gf (xs.take (i + 1)) = sel c gf (xs.take i) ++ (if c x = true then [gf x] else []) := by
  unfold sel
  rw [take_more h, List.filter_append, List.map_append]
  cases e : c x <;> simp [List.filter, e]
theorem sel_len (c : V → Bool) (gf : V → V) (xs : List V) : (sel c gf xs).length ≤ xs.length := by
  unfold sel
  rw [List.length_map]
  exact List.length_filter_le _ _
theorem same_keep {H1 H : Hp} {D : Addr} {o : HO} (s : Same H1 H) (hD : H1 D = none) : Same H1 (upd H D o) := fun b u e => by
  rw [upd_ne (ne_of_none e hD)]
  exact s b u e
section
variable {K : PySem.W.Frag} {a : Addr} {xs : List V} {tt : TT} {te : TE} {vs : List Nat} {σ : L2.St} {H1 : Hp} {D : Addr} {Qd : Hp → Prop} {n : Nat}
theorem lc_selT (c : V → Bool) (gf : V → V) (hl : SqT K H1 a xs) (hD : H1 D = none) (hn : xs.length ≤ 1000) (hw : ∀ x, wipe ((wipe σ vs).set n (some x)) vs = wipe σ vs)
    (ht : ∀ x ∈ xs, ∀ H, Same H1 H → ∀ R : Bool → Hp → Prop, (∀ H', Same H H' → R (c x) H') → tt ((wipe σ vs).set n (some x)) H R)
    (he : ∀ x ∈ xs, c x = true → ∀ H, Same H1 H → ∀ R : VK, (∀ H', Same H H' → R (gf x) H') → te ((wipe σ vs).set n (some x)) H R)
    (hd : ∀ H, Same H1 H → H D = some (.lst (sel c gf xs)) → Qd H) :
    ∃ W : Nat → Nat → Hp → Prop, (∃ m, W 0 m (upd H1 D (.lst []))) ∧ ∀ i m H, W i m H →
      ((Itt K a).stop i H ∧ Qd H) ∨ ((Itt K a).go i H ∧ ∃ Nx : Hp → Prop, (∀ H', Nx H' → ∃ m', m' < m ∧ W (i + 1) m' H') ∧ ∀ x H', (Itt K a).yld i H x H' → gName n x (wipe σ vs) H' fun σ2 H2 => wipe σ2 vs = wipe σ vs ∧ tt σ2 H2 fun b H3 =>
        if b = true then te σ2 H3 fun y H4 => ∃ acc, H4 D = some (.lst acc) ∧ acc.length < sizeLine ∧ Nx (upd H4 D (.lst (acc ++ [y]))) else Nx H3) := by
  refine lc_tup (xs := xs) (fun i H => Same H1 H ∧ H D = some (.lst (sel c gf (xs.take i)))) ⟨same_upd hD, by rw [upd_same]; rfl⟩ (fun i H _ p => Same.sqT p.1 hl) ?_ ?_
  · rintro i x H hx ⟨s1, hd1⟩
    have hm : x ∈ xs := List.mem_of_getElem? hx
    refine ⟨hw x, ht x hm H s1 _ fun H2 s2 => ?_⟩
    cases e : c x with
    | false =>
      refine iteF ⟨s1.trans s2, ?_⟩
      rw [sel_more hx, e]
      simpa using s2 _ _ hd1
    | true =>
      refine iteT (he x hm e H2 (s1.trans s2) _ fun H3 s3 => ⟨_, s3 _ _ (s2 _ _ hd1), ?_, ?_, ?_⟩)
      · refine small1000 (Nat.le_trans (sel_len _ _ _) ?_)
        rw [List.length_take]
        omega
      · exact same_keep ((s1.trans s2).trans s3) hD
      · rw [upd_same, sel_more hx, e]
        rfl
  · rintro H ⟨s1, hd1⟩
    rw [List.take_length] at hd1
    exact hd H s1 hd1
theorem lc_selL (c : V → Bool) (gf : V → V) (hl : SqL K H1 a xs) (hD : H1 D = none) (hn : xs.length ≤ 1000) (hw : ∀ x, wipe ((wipe σ vs).set n (some x)) vs = wipe σ vs)
    (ht : ∀ x ∈ xs, ∀ H, Same H1 H → ∀ R : Bool → Hp → Prop, (∀ H', Same H H' → R (c x) H') → tt ((wipe σ vs).set n (some x)) H R)
    (he : ∀ x ∈ xs, c x = true → ∀ H, Same H1 H → ∀ R : VK, (∀ H', Same H H' → R (gf x) H') → te ((wipe σ vs).set n (some x)) H R)
    (hd : ∀ H, Same H1 H → H D = some (.lst (sel c gf xs)) → Qd H) :
    ∃ W : Nat → Nat → Hp → Prop, (∃ m, W 0 m (upd H1 D (.lst []))) ∧ ∀ i m H, W i m H →
      ((Itl K a).stop i H ∧ Qd H) ∨ ((Itl K a).go i H ∧ ∃ Nx : Hp → Prop, (∀ H', Nx H' → ∃ m', m' < m ∧ W (i + 1) m' H') ∧ ∀ x H', (Itl K a).yld i H x H' → gName n x (wipe σ vs) H' fun σ2 H2 => wipe σ2 vs = wipe σ vs ∧ tt σ2 H2 fun b H3 =>
        if b = true then te σ2 H3 fun y H4 => ∃ acc, H4 D = some (.lst acc) ∧ acc.length < sizeLine ∧ Nx (upd H4 D (.lst (acc ++ [y]))) else Nx H3) := by
  refine lc_list (xs := xs) (fun i H => Same H1 H ∧ H D = some (.lst (sel c gf (xs.take i)))) ⟨same_upd hD, by rw [upd_same]; rfl⟩ (fun i H _ p => p.1.seq hl) ?_ ?_
  · rintro i x H hx ⟨s1, hd1⟩
    have hm : x ∈ xs := List.mem_of_getElem? hx
    refine ⟨hw x, ht x hm H s1 _ fun H2 s2 => ?_⟩
    cases e : c x with
    | false =>
      refine iteF ⟨s1.trans s2, ?_⟩
      rw [sel_more hx, e]
      simpa using s2 _ _ hd1
    | true =>
      refine iteT (he x hm e H2 (s1.trans s2) _ fun H3 s3 => ⟨_, s3 _ _ (s2 _ _ hd1), ?_, ?_, ?_⟩)
      · refine small1000 (Nat.le_trans (sel_len _ _ _) ?_)
        rw [List.length_take]
        omega
      · exact same_keep ((s1.trans s2).trans s3) hD
      · rw [upd_same, sel_more hx, e]
        rfl
  · rintro H ⟨s1, hd1⟩
    rw [List.take_length] at hd1
    exact hd H s1 hd1
end
end KW

set_option Elab.async false
set_option linter.all false
set_option maxRecDepth 100000
set_option maxHeartbeats 2000000
namespace KW
open PySem PySem.Spec PyProof.Rows L2 LamX OwnOp
/-! ## the defs of keeps.py that look at parts -/
/-- a tuple of the module's own -/
structure TupAt (K : PySem.W.Frag) (mg : Str → Option Value) (x : Str) (xs : List V) where
  a : Addr
  g : mg x = some (.ref a)
  at_ : ∀ H, SqT K H a xs
/-- a number of the module's own -/
structure NumAt (mg : Str → Option Value) (x : Str) (i : Int) : Prop where
  g : ∃ t, mg x = some (.int i t)
theorem NumAt.pe {X : Cx} {x : Str} {i : Int} {pos : Pos} (N : NumAt X.mg x i) (hg : Gl X x) (hd : (x == ("__debug__" : Str)) = false := by decide) : PE X (.Name x pos) (tC (.int i)) := by
  obtain ⟨t, g⟩ := N.g
  exact pe_glob hg g ⟨t, rfl⟩ hd
def wAstray : V := .str "astray"
def allH : List V := [.str "astray", .str "late", .str "lost", .str "torn", .str "worn"]
def allK : List V := [.str "bare", .str "whole", .str "named", .str "noted"]
def allC : List V := [.str "first", .str "newest", .str "most"]
def allP : List V := [.str "sums", .str "order", .str "choice", .str "mends", .str "limit"]
def harmOk (d : Dat) (w : V) : Bool := !decide (w = wAstray) || betw d 2 2
def harmsFor (d : Dat) : List V := allH.filter (harmOk d)
theorem sel_id {c : V → Bool} {xs : List V} : sel c (fun v => v) xs = xs.filter c := by
  unfold sel
  simp
def strV : V → Bool
  | .str _ => true
  | _ => false
theorem str_of_mem {ws : List V} (h : ws.all strV = true) {x : V} (hx : x ∈ ws) : ∃ z, x = .str z := by
  have e := List.all_eq_true.mp h x hx
  cases x <;> first | exact ⟨_, rfl⟩ | cases e
def spPossible (K : PySem.W.Frag) : Sp := fun vs H Q _ => ∃ v d, vs = [v] ∧ Is K H v d ∧ ∀ H' p, Same H H' → H p = none → H' p = some (.tup (harmsFor d)) → Q (.ref p) H'
section
variable {P : Program} {w : World} {K : PySem.W.Frag} {mg : Str → Option Value} {base : Heap} {f : Addr} {fd : FuncData}
theorem scPossible : FnScope ["blocks", "word"] ["blocks"] (defScope sPossible) := ⟨rfl, rfl, rfl, by decide +kernel, rfl, by decide +kernel, by decide +kernel⟩
theorem ok_possible (F : Fun K "possible_harms" "possible_harms" sPossible f fd) (Bt : DefAt K mg "is_between" "is_between" sBetween) (I : DefAt K mg "is_integer" "is_integer" sIsInt) (B : Blt mg)
    (TH : TupAt K mg "HARMS" allH) (NB : NumAt mg "MOST_BLOCKS" 2) : FnOk P w K mg base CX0 3 f fd ["blocks"] (spPossible K) := by
  refine F.ok scPossible (fun vs H Q E h => ?_) (fun cdv A outer s H vs Q E hr h => ?_)
  · obtain ⟨v, d, rfl, _⟩ := h
    rfl
  · obtain ⟨v, d, rfl, hv, k⟩ := h
    have b := Bt.F.binds (ps := ["value", "least", "greatest"]) fun _ _ _ _ _ _ us hl => match us, hl with | [_, _, _], _ => rfl
    refine ⟨_, pss_one (ps_ret (pe_callTy call_tuple_of (by rfl) B.tuple PyProof.Rows.boot_tuple (pa_cons (pe_lc (own := [("word", 1)]) (g := gName 1) (by rfl) scPossible.nd (pi_tup (pe_glob (v := .ref TH.a) (by rfl) TH.g rfl))
      (blkOk_by (own := [("word", 1)]) (N := ["blocks", "word"]) (sc := defScope sPossible) (by decide +kernel)) (fun _ _ _ _ _ => pg_name (i := 1) scPossible.nd rfl (Or.inl rfl))
      (fun _ _ _ _ _ => pts_one (PW.pt (pw_or (pt_cmpR op_ne (pv 1) pe_str (nomark _)) (pw_or1 (pt_val (pe_call (ok_between Bt.F I B) hr rfl Bt.g Bt.F.kp b .nil pass0 (pa_cons (pv 0) (pa_cons pe_int (pa_cons (NB.pe rfl) pa_nil)))))))))
      (fun _ _ _ _ _ => pv 1)) pa_nil))), ?_⟩
    refine ⟨TH.a, rfl, ⟨_, TH.at_ _⟩, fun D hD => ?_⟩
    refine lc_selT (c := harmOk d) (gf := fun v => v) (TH.at_ _) hD (by decide) (fun x => rfl) (fun x hx H2 s2 R hR => ?_) (fun x hx hc H2 s2 R hR => ?_) (fun H2 s2 hd2 => ?_)
    · obtain ⟨z, rfl⟩ := str_of_mem (ws := allH) rfl hx
      refine ⟨_, rfl, rfl, _, rfl, ?_⟩
      show if (!decide (V.str z = wAstray)) = true then _ else _
      cases e : (!decide (V.str z = wAstray)) with
      | true =>
        refine iteT ?_
        have e2 : harmOk d (.str z) = true := by
          unfold harmOk
          rw [e, Bool.true_or]
        rw [← e2]
        exact hR _ (Same.refl _)
      | false =>
        refine iteF ?_
        refine ⟨_, rfl, v, d, 2, 2, rfl, KW.Same.is s2 hv, _, rfl, ?_⟩
        have e2 : harmOk d (.str z) = betw d 2 2 := by
          unfold harmOk
          rw [e, Bool.false_or]
        rw [← e2]
        exact hR _ (Same.refl _)
    · exact ⟨_, rfl, hR _ (Same.refl _)⟩
    · refine ⟨D, _, rfl, .inl ⟨SqL.of hd2, fun p hp => ?_⟩⟩
      rw [sel_id]
      exact k _ p (s2.trans (same_upd hp)) (s2.free hp) upd_same
end
end KW

set_option Elab.async false
set_option linter.all false
set_option maxRecDepth 100000
set_option maxHeartbeats 2000000
namespace OwnOp
open PySem PySem.Spec PyProof.Rows L2
/-! ## sorted of a tuple of ints, of texts -/
section
variable {prog : Program} {w : World} {A : Around} {E : Value → Shared → Prop} {s : Shared}
/-- the list that takes what is walked -/
def tookHeap (h : Heap) (vs : List Value) : Heap := (h.push (seqObj "list" #[] 0)).update h.objs.size (Obj.mapSeq (· ++ vs.toArray))
theorem took_tup {l : Addr} {vs : List Value} {Q : List Value → Shared → Prop} (hl : IsTup s.heap l vs.toArray) (h : Q vs { s with heap := tookHeap s.heap vs }) (hsz : vs.length ≤ sizeLine) : wpAny (model prog w) A (collect (.ref l)) Q E s := by
  obtain ⟨o, ho, hc, n, hd⟩ := hl
  have old : (s.heap.push (seqObj "list" #[] 0)).get? l = some o := Heap.get?_push_of_some _ ho
  have own : (s.heap.push (seqObj "list" #[] 0)).get? s.heap.objs.size = some (seqObj "list" #[] 0) := Heap.get?_push_size _ rfl
  unfold collect
  refine wpAny_bind (wpAny_runValue (codeAny_builtin entry_proto_collect' ?_))
  show wpAny _ _ (newList [] >>= fun m => again (.builtin "list.__iadd__" ⟨[m, .ref l], []⟩)) _ _ s
  refine wpAny_bind (wpAny_newList (wpAny_pure ⟨Code.quiet_builtin _ (by decide +kernel), codeAny_builtin entry_list_iadd' ?_⟩))
  show wpAny _ _ (Builtin.List.listExtendWith (.ref s.heap.objs.size) (.ref l) (.ref s.heap.objs.size)) _ _ { s with heap := s.heap.push (seqObj "list" #[] 0) }
  unfold Builtin.List.listExtendWith
  refine wpAny_bind (wpAny_typeOf (T := "tuple") ⟨o, old, hc⟩ ?_)
  rw [if_pos (by rw [show (Value.type "tuple" == Value.type "tuple") = true from rfl, Bool.or_true])]
  refine wpAny_bind (listItems_at old hd (wpAny_bind (listItems_at (xs := #[]) (n := 0) own rfl ?_)))
  rw [if_neg (by simp)]
  refine wpAny_bind (listUpdate_at (xs := #[]) (n := 0) own rfl ?_ (Nat.zero_le _) (by show (#[] ++ vs.toArray).size ≤ sizeLine + 1; simp only [Array.size_append, List.size_toArray, List.length_nil]; omega))
  refine wpAny_pure ?_
  show wpAny (model prog w) A (load s.heap.objs.size >>= fun o => match o.data with | .seq xs _ => pure xs.toList | _ => unsupported "internal:collect") Q E { s with heap := tookHeap s.heap vs }
  refine wpAny_bind (wpAny_load (get?_update_seq own _) ?_)
  show wpAny _ _ (pure ((#[] : Array Value) ++ vs.toArray).toList) Q E _
  rw [show ((#[] : Array Value) ++ vs.toArray).toList = vs by simp]
  exact wpAny_pure h
theorem sorted_tupK {κ : KeyKind} (hO : κ.OneLt) {l : Addr} {vs : List Value} {Q : Value → Shared → Prop} (hl : IsTup s.heap l vs.toArray) (h0 : KeysOf κ (pairsOf vs)) (hkk : ∀ v₁ v₂ rest, vs = v₁ :: v₂ :: rest → keyKind' (v₁ :: v₂ :: rest).toArray = pure oneType') (h64 : vs.length < 64)
    (h : ∀ st' : SortSt, (arrOf st').Perm (pairsOf vs) → SortedToK κ (arrOf st') (pairsOf vs).size → Q (.ref (s.heap.objs.size + 1)) { s with heap := sortedAll s.heap vs ((arrOf st').map (·.2)) }) : wpAny (model prog w) A (call (.builtin "sorted") [.ref l]) Q E s := by
  have e1 : (tookHeap s.heap vs).objs.size = s.heap.objs.size + 1 := by
    unfold tookHeap
    rw [Heap.size_update, size_push']
  have e2 : ((tookHeap s.heap vs).push (seqObj "list" vs.toArray 0)).get? (s.heap.objs.size + 1) = some (seqObj "list" vs.toArray 0) := by
    rw [← e1]; exact Heap.get?_push_size _ rfl
  refine Calls.call_function_entry kind_sorted plain_sorted entry_sorted (args_sorted1 _) ?_
  unfold Builtin.«sorted»
  refine wpAny_bind (m := checkCount "sorted" 1 1 _) (wpAny_pure (wpAny_bind (took_tup hl (wpAny_bind (wpAny_newList ?_)) (Nat.le_of_lt (small1000 (by omega))))))
  show wpAny _ _ _ _ _ { s with heap := (tookHeap s.heap vs).push (seqObj "list" vs.toArray 0) }
  rw [e1]
  exact wpAny_bind (wpAny_holding (wpAny_call_entry slot_list_sort ⟨_, e2, rfl⟩ entry_list_sort (list_sort_treeK hO e2 h0 hkk h64 fun st' a1 a2 => ⟨_, rfl, wpAny_pure ⟨_, rfl, h st' a1 a2⟩⟩) (args_list_sort _)))
end
section
variable {X : Cx}
def rSortedTI (K : PySem.W.Frag) : List V → Hp → VK → Prop := fun vs H Q => ∃ (a : Addr) (ns : List Int), vs = [V.ref a] ∧ SqT K H a (ns.map V.int) ∧ ns.length < 64 ∧ ∀ (ns' : List Int) (p : Addr), ns'.Perm ns → ns'.Pairwise (· ≤ ·) → H p = none → Q (.ref p) (upd H p (.lst (ns'.map V.int)))
theorem cr_sortedTI : CallR X (.builtin "sorted") (rSortedTI X.K) := by
  intro pins s σ H vs us Q I r h
  obtain ⟨a, ns, rfl, hs, h64, q⟩ := h
  obtain ⟨its, rv, hl, _⟩ := I.tuple hs
  rw [Vals.ref1 r]
  have hi := rv.ints
  refine sorted_tupK intKind_oneLt hl hi.keysOfInt (fun v₁ v₂ rest e => keyKind_ints (by rw [← e]; exact hi)) (by rw [hi.length]; exact h64) fun st' hp hs' => ?_
  obtain ⟨ns', h1, h2, h3⟩ := sorted_out hi hp (sortedTo_of_int hs')
  obtain ⟨ep, he'⟩ := PyProof.Rows.sortedAll_at s.heap its ((arrOf st').map (·.2))
  have hlen : (ns'.map V.int).length ≤ sizeLine := by rw [List.length_map, h2.length_eq]; exact small64 h64
  exact ⟨.ref _, upd H (s.heap.objs.size + 1) (.lst (ns'.map V.int)), I.laid (t' := s.toks) (fun _ _ => PyProof.Rows.sortedAll_old) (Nat.le_succ _) ⟨hlen, _, ep, vals_of_ints h1, he'⟩, rfl, q ns' _ h2 h3 (I.hok.fresh (Nat.le_succ _))⟩
def rSortedTS (K : PySem.W.Frag) : List V → Hp → VK → Prop := fun vs H Q => ∃ (a : Addr) (xs : List Str), vs = [V.ref a] ∧ SqT K H a (xs.map V.str) ∧ xs.length < 64 ∧ ∀ (ys : List Str) (p : Addr), ys.Perm xs → sortedS ys = true → H p = none → Q (.ref p) (upd H p (.lst (ys.map V.str)))
theorem cr_sortedTS : CallR X (.builtin "sorted") (rSortedTS X.K) := by
  intro pins s σ H vs us Q I r h
  obtain ⟨a, xs, rfl, hs, h64, q⟩ := h
  obtain ⟨its, rv, hl, _⟩ := I.tuple hs
  rw [Vals.ref1 r]
  have hlen0 := rv.length
  rw [List.length_map] at hlen0
  have hS := rv.strs
  refine sorted_tupK strKind_oneLt hl hS.keysOf (fun v₁ v₂ rest e => keyKind_strs (by rw [← e]; exact hS)) (by rw [← hlen0]; exact h64) fun st' hp hs' => ?_
  obtain ⟨ys, h1, h2, h3⟩ := sorted_out_str hS hp hs'
  obtain ⟨ep, he'⟩ := PyProof.Rows.sortedAll_at s.heap its ((arrOf st').map (·.2))
  have hlen : (ys.map V.str).length ≤ sizeLine := by rw [List.length_map, h2.length_eq]; exact small64 h64
  exact ⟨.ref _, upd H (s.heap.objs.size + 1) (.lst (ys.map V.str)), I.laid (t' := s.toks) (fun _ _ => PyProof.Rows.sortedAll_old) (Nat.le_succ _) ⟨hlen, _, ep, vals_of_strs h1, he'⟩, rfl, q ys _ h2 h3 (I.hok.fresh (Nat.le_succ _))⟩
end
end OwnOp

set_option Elab.async false
set_option linter.all false
set_option maxRecDepth 100000
set_option maxHeartbeats 2000000
namespace KW
open PySem PySem.Spec PyProof.Rows L2 LamX OwnOp
/-! ## == of flat tuples and lists -/
def toPy : V → PyData
  | .bl b => .bool b
  | .int i => .int i
  | .str z => .str z
  | _ => .none
def eqL : List V → List V → Bool
  | [], [] => true
  | x :: xs, y :: ys => eqV x y && eqL xs ys
  | [], _ :: _ => false
  | _ :: _, [] => false
section
variable {K : PySem.W.Frag} {H : Hp}
theorem dp_ok {v : V} (h : okV v = true) : Dp K H v (toPy v) := by
  cases v <;> first | exact .non | exact .bl _ | exact .int _ | exact .str _ | cases h
theorem dpAll_ok : ∀ {xs : List V}, xs.all okV = true → DpAll K H xs (xs.map toPy)
  | [], _ => .nil
  | x :: xs, h => by
    rw [List.all_cons, Bool.and_eq_true] at h
    exact .cons (dp_ok h.1) (dpAll_ok h.2)
theorem lay_ok {v : V} (h : okV v = true) : (toPy v).canLay0 = true := by
  cases v <;> first | rfl | exact h | cases h
theorem depth_ok (v : V) : (toPy v).depth = 0 := by cases v <;> rfl
theorem layAll_ok : ∀ {xs : List V}, xs.all okV = true → PyData.canLayAll0 (xs.map toPy) = true
  | [], _ => rfl
  | x :: xs, h => by
    rw [List.all_cons, Bool.and_eq_true] at h
    show ((toPy x).canLay0 && PyData.canLayAll0 (xs.map toPy)) = true
    rw [lay_ok h.1, layAll_ok h.2]
    rfl
theorem depthAll_ok : ∀ xs : List V, PyData.depthAll (xs.map toPy) = 0
  | [] => rfl
  | x :: xs => by
    show max (toPy x).depth (PyData.depthAll (xs.map toPy)) = 0
    rw [depth_ok, depthAll_ok xs]
    rfl
theorem shaped_ok {v : V} (h : okV v = true) : SeqAt.shaped (toPy v) = true := by
  show ((toPy v).canLay0 && decide ((toPy v).depth ≤ 64)) = true
  rw [lay_ok h, depth_ok]
  rfl
theorem shaped_tup {xs : List V} (h : xs.all okV = true) : SeqAt.shaped (.tuple (xs.map toPy)) = true := by
  show (PyData.canLayAll0 (xs.map toPy) && decide (PyData.depthAll (xs.map toPy) + 1 ≤ 64)) = true
  rw [layAll_ok h, depthAll_ok]
  rfl
theorem shaped_lst {xs : List V} (h : xs.all okV = true) : SeqAt.shaped (.list (xs.map toPy)) = true := by
  show (PyData.canLayAll0 (xs.map toPy) && decide (PyData.depthAll (xs.map toPy) + 1 ≤ 64)) = true
  rw [layAll_ok h, depthAll_ok]
  rfl
theorem eqv_ok {x y : V} (hx : okV x = true) (hy : okV y = true) : PyData.eqv (toPy x) (toPy y) = eqV x y := by
  cases x <;> first | (cases hx; done) | (cases y <;> first | (cases hy; done) | (simp [toPy, PyData.eqv, eqV]; done) | rfl)
theorem eqvAll_ok : ∀ {xs ys : List V}, xs.all okV = true → ys.all okV = true → PyData.eqvAll (xs.map toPy) (ys.map toPy) = eqL xs ys
  | [], [], _, _ => by simp [PyData.eqvAll, eqL]
  | x :: xs, y :: ys, hx, hy => by
    rw [List.all_cons, Bool.and_eq_true] at hx hy
    show PyData.eqvAll (toPy x :: xs.map toPy) (toPy y :: ys.map toPy) = (eqV x y && eqL xs ys)
    rw [← eqv_ok hx.1 hy.1, ← eqvAll_ok hx.2 hy.2]
    simp [PyData.eqvAll]
  | [], _ :: _, _, _ => by simp [PyData.eqvAll, eqL]
  | _ :: _, [], _, _ => by simp [PyData.eqvAll, eqL]
theorem eqv_tup {xs ys : List V} (hx : xs.all okV = true) (hy : ys.all okV = true) : PyData.eqv (.tuple (xs.map toPy)) (.tuple (ys.map toPy)) = eqL xs ys := by
  rw [← eqvAll_ok hx hy]
  simp [PyData.eqv]
theorem eqv_lst {xs ys : List V} (hx : xs.all okV = true) (hy : ys.all okV = true) : PyData.eqv (.list (xs.map toPy)) (.list (ys.map toPy)) = eqL xs ys := by
  rw [← eqvAll_ok hx hy]
  simp [PyData.eqv]
/-- of one kind -/
def kin : V → V → Bool
  | .non, .non => true
  | .bl _, .bl _ => true
  | .int _, .int _ => true
  | .str _, .str _ => true
  | _, _ => false
theorem eqV_kin {x y : V} (h : kin x y = true) : eqV x y = decide (x = y) := by
  cases x <;> cases y <;> first | (cases h; done) | rfl | skip
  · rename_i a b
    show (a == b) = _
    by_cases e : a = b
    · subst e; simp
    · rw [decide_eq_false fun z => e (V.bl.inj z)]; simpa using e
  · rename_i a b
    show (a == b) = _
    by_cases e : a = b
    · subst e; simp
    · rw [decide_eq_false fun z => e (V.int.inj z)]; simpa using e
  · rename_i a b
    show (a == b) = _
    by_cases e : a = b
    · subst e; simp
    · rw [decide_eq_false fun z => e (V.str.inj z)]; simpa using e
theorem eqL_str : ∀ {xs ys : List V}, xs.all strV = true → ys.all strV = true → eqL xs ys = decide (xs = ys)
  | [], [], _, _ => rfl
  | x :: xs, y :: ys, hx, hy => by
    rw [List.all_cons, Bool.and_eq_true] at hx hy
    show (eqV x y && eqL xs ys) = _
    rw [eqL_str hx.2 hy.2, eqV_kin (by cases x <;> cases y <;> first | rfl | (cases hx.1; done) | (cases hy.1; done))]
    by_cases a : x = y <;> by_cases b : xs = ys <;> simp [a, b]
  | [], _ :: _, _, _ => rfl
  | _ :: _, [], _, _ => rfl
def intV : V → Bool
  | .int _ => true
  | _ => false
theorem eqL_int : ∀ {xs ys : List V}, xs.all intV = true → ys.all intV = true → eqL xs ys = decide (xs = ys)
  | [], [], _, _ => rfl
  | x :: xs, y :: ys, hx, hy => by
    rw [List.all_cons, Bool.and_eq_true] at hx hy
    show (eqV x y && eqL xs ys) = _
    rw [eqL_int hx.2 hy.2, eqV_kin (by cases x <;> cases y <;> first | rfl | (cases hx.1; done) | (cases hy.1; done))]
    by_cases a : x = y <;> by_cases b : xs = ys <;> simp [a, b]
  | [], _ :: _, _, _ => rfl
  | _ :: _, [], _, _ => rfl
end
end KW

set_option Elab.async false
set_option linter.all false
set_option maxRecDepth 100000
set_option maxHeartbeats 2000000
namespace KW
open PySem PySem.Spec PyProof.Rows L2 LamX OwnOp
theorem strOkAll : allH.all okV = true := by decide +kernel
theorem harms_sub (d : Dat) : ∀ x ∈ harmsFor d, x ∈ allH := fun x hx => (List.mem_filter.mp hx).1
theorem harms_str (d : Dat) : (harmsFor d).all strV = true := List.all_eq_true.mpr fun x hx => List.all_eq_true.mp (show allH.all strV = true from rfl) x (harms_sub d x hx)
theorem harms_ok (d : Dat) : (harmsFor d).all okV = true := List.all_eq_true.mpr fun x hx => List.all_eq_true.mp strOkAll x (harms_sub d x hx)
theorem harms_len (d : Dat) : (harmsFor d).length ≤ 5 := List.length_filter_le _ _
/-- all items are words of ws: then they are texts -/
theorem oneOf_str {x : V} {ws : List V} (h : oneOf x ws = true) : strV x = true := by
  cases x <;> first | rfl | cases h
def areHarms (d db : Dat) : Bool := match d with
  | .tup xs => xs.all (fun x => oneOf x (harmsFor db)) && decide (xs = (harmsFor db).filter fun x => inV x xs)
  | _ => false
/-- not too long -/
def short : Dat → Prop
  | .tup xs => xs.length ≤ 1000
  | .lst xs => xs.length ≤ 1000
  | _ => True
def spAreHarms (K : PySem.W.Frag) : Sp := fun vs H Q _ => ∃ v d b db, vs = [v, b] ∧ Is K H v d ∧ Is K H b db ∧ short d ∧ ∀ H', Same H H' → Q (.bl (areHarms d db)) H'
def mapB (c : V → Bool) (x : V) : V := .bl (c x)
theorem sel_all (c : V → Bool) (xs : List V) : sel (fun _ => true) (mapB c) xs = (xs.map c).map V.bl := by
  unfold sel mapB
  rw [List.filter_eq_self.mpr (fun _ _ => rfl), List.map_map]
  rfl
section
variable {P : Program} {w : World} {K : PySem.W.Frag} {mg : Str → Option Value} {base : Heap} {f : Addr} {fd : FuncData}
theorem scAreHarms : FnScope ["value", "blocks", "words", "word"] ["value", "blocks"] (defScope sAreHarms) := ⟨rfl, rfl, rfl, by decide +kernel, rfl, by decide +kernel, by decide +kernel⟩
theorem ok_areHarms (F : Fun K "are_harms" "are_harms" sAreHarms f fd) (Ps : DefAt K mg "possible_harms" "possible_harms" sPossible) (Oo : DefAt K mg "is_one_of" "is_one_of" sOneOf) (Bt : DefAt K mg "is_between" "is_between" sBetween) (I : DefAt K mg "is_integer" "is_integer" sIsInt) (B : Blt mg)
    (TH : TupAt K mg "HARMS" allH) (NB : NumAt mg "MOST_BLOCKS" 2) : FnOk P w K mg base CX0 4 f fd ["value", "blocks"] (spAreHarms K) := by
  refine F.ok scAreHarms (fun vs H Q E h => ?_) (fun cdv A outer s H vs Q E hr h => ?_)
  · obtain ⟨v, d, b, db, rfl, _⟩ := h
    rfl
  · obtain ⟨v, d, b, db, rfl, hv, hb, hsh, k⟩ := h
    have bP := Ps.F.binds (ps := ["blocks"]) fun _ _ _ _ _ _ us hl => match us, hl with | [_], _ => rfl
    have bO := Oo.F.binds (ps := ["value", "words"]) fun _ _ _ _ _ _ us hl => match us, hl with | [_, _], _ => rfl
    have hr1 : Room 1 _ := hr.mono (by decide)
    refine ⟨_, pss_cons (ps_set (i := 2) scAreHarms.nd rfl (Or.inr rfl) (pe_call (ok_possible Ps.F Bt I B TH NB) hr rfl Ps.g Ps.F.kp bP .nil pass0 (pa_cons (pv 1) pa_nil)))
      (pss_cons (ps_if (PW.pt (pw_or (pt_not (pt_val (pe_callB call_isi (by rfl) B.isi PyProof.Rows.boot_isinstance (pa_cons (pv 0) (pa_cons (pe_bltn (v := .ty "tuple") (by rfl) B.tuple PyProof.Rows.boot_tuple rfl) pa_nil)))))
        (pw_or1 (pt_not (pt_val (pe_callB (cr_all rfl) (by rfl) B.all PyProof.Rows.boot_all (pa_cons (pe_lc (own := [("word", 3)]) (g := gName 3) (by rfl) scAreHarms.nd (pi_tup (pv 0))
          (blkOk_by (own := [("word", 3)]) (N := ["value", "blocks", "words", "word"]) (sc := defScope sAreHarms) (by decide +kernel)) (fun _ _ _ _ _ => pg_name (i := 3) scAreHarms.nd rfl (Or.inl rfl)) (fun _ _ _ _ _ => pts_nil)
          (fun _ _ _ _ _ => pe_call (ok_oneOf Oo.F B) hr1 rfl Oo.g Oo.F.kp bO .nil pass0 (pa_cons (pv 3) (pa_cons (pv 2) pa_nil)))) pa_nil)))))))
        (pss_one (ps_ret pe_bl)) pss_nil)
      (pss_one (ps_ret (pe_cmpR (op_eqD hr.units) (pv 0) (pe_callTy call_tuple_of (by rfl) B.tuple PyProof.Rows.boot_tuple (pa_cons (pe_lc (own := [("word", 3)]) (g := gName 3) (tt := tTest (tOp (rIn K false) (tVar 3) (tVar 0))) (by rfl) scAreHarms.nd (pi_tup (pv 2))
          (blkOk_by (own := [("word", 3)]) (N := ["value", "blocks", "words", "word"]) (sc := defScope sAreHarms) (by decide +kernel)) (fun _ _ _ _ _ => pg_name (i := 3) scAreHarms.nd rfl (Or.inl rfl))
          (fun _ _ _ _ _ => pts_one (pt_cmpR op_in_seq (pv 3) (pv 0) (by rfl))) (fun _ _ _ _ _ => pv 3)) pa_nil)) (nomark _))))), ?_⟩
    -- words = possible_harms(blocks)
    refine ⟨_, rfl, b, db, rfl, hb, fun H1 W s1 hW hw => ?_⟩
    have hW1 : SqT K H1 W (harmsFor db) := SqT.of hw
    -- is it a tuple
    refine ⟨_, rfl, v, _, _, _, _, rfl, .ty "tuple", (KW.Same.is s1 hv).ty, (KW.Same.is s1 hv).kTup, _, rfl, ?_⟩
    cases e : isTup d with
    | false =>
      refine iteT ?_
      refine iteT ?_
      have e2 : areHarms d db = false := by
        cases d <;> first | rfl | cases e
      rw [← e2]
      exact k _ s1
    | true =>
      refine iteF ?_
      cases hv with
      | fl => cases e
      | lst => cases e
      | tup ht hf =>
        rename_i p xs
        refine ⟨_, rfl, p, rfl, ⟨_, KW.Same.sqT s1 ht⟩, fun D hD => ?_⟩
        refine lc_selT (c := fun _ => true) (gf := mapB fun x => oneOf x (harmsFor db)) (KW.Same.sqT s1 ht) hD hsh (fun x => rfl) (fun x hx H2 s2 R hR => hR _ (Same.refl _)) (fun x hx hc H2 s2 R hR => ?_) (fun H2 s2 hd2 => ?_)
        · exact ⟨_, rfl, _, rfl, x, .fl x, W, _, rfl, .fl (List.all_eq_true.mp hf x hx), KW.Same.sqT s2 hW1, okV.all (harms_ok db), hR _ (Same.refl _)⟩
        · rw [sel_all] at hd2
          refine ⟨D, _, rfl, SqL.of hd2, _, rfl, ?_⟩
          have eA : ((xs.map fun x => oneOf x (harmsFor db)).all id) = xs.all (fun x => oneOf x (harmsFor db)) := by
            rw [List.all_map]
            rfl
          cases e2 : xs.all (fun x => oneOf x (harmsFor db)) with
          | false =>
            refine iteB (by rw [eA, e2]; rfl) ?_
            have e3 : areHarms (.tup xs) db = false := by
              show (xs.all (fun x => oneOf x (harmsFor db)) && _) = false
              rw [e2, Bool.false_and]
            rw [← e3]
            exact k _ (s1.trans s2)
          | true =>
            refine iteBF (by rw [eA, e2]; rfl) ?_
            have hstr : xs.all strV = true := List.all_eq_true.mpr fun x hx => oneOf_str (List.all_eq_true.mp e2 x hx)
            refine ⟨_, rfl, _, rfl, W, rfl, ⟨_, KW.Same.sqT s2 hW1⟩, fun D2 hD2 => ?_⟩
            refine lc_selT (c := fun x => inV x xs) (gf := fun x => x) (KW.Same.sqT s2 hW1) hD2 (Nat.le_trans (harms_len db) (by decide)) (fun x => rfl) (fun x hx H3 s3 R hR => ?_) (fun x hx hc H3 s3 R hR => ⟨_, rfl, hR _ (Same.refl _)⟩) (fun H3 s3 hd3 => ?_)
            · exact ⟨_, rfl, _, rfl, p, xs, rfl, .inr (KW.Same.sqT s3 (KW.Same.sqT s2 (KW.Same.sqT s1 ht))), okV.flat (List.all_eq_true.mp (harms_ok db) x hx), okV.all hf, _, rfl, hR _ (Same.refl _)⟩
            · rw [sel_id] at hd3
              refine ⟨D2, _, rfl, .inl ⟨SqL.of hd3, fun l hl => ?_⟩⟩
              have hok : ((harmsFor db).filter fun x => inV x xs).all okV = true := List.all_eq_true.mpr fun x hx => List.all_eq_true.mp (harms_ok db) x (List.mem_filter.mp hx).1
              have hst2 : ((harmsFor db).filter fun x => inV x xs).all strV = true := List.all_eq_true.mpr fun x hx => List.all_eq_true.mp (harms_str db) x (List.mem_filter.mp hx).1
              have s4 := same_upd (o := HO.tup ((harmsFor db).filter fun x => inV x xs)) hl
              refine ⟨_, _, .tup (KW.Same.sqT s4 (KW.Same.sqT s3 (KW.Same.sqT s2 (KW.Same.sqT s1 ht)))) (dpAll_ok hf), .tup (SqT.of upd_same) (dpAll_ok hok), shaped_tup hf, shaped_tup hok, ?_⟩
              rw [eqv_tup hf hok, eqL_str hstr hst2]
              have e3 : areHarms (.tup xs) db = decide (xs = (harmsFor db).filter fun x => inV x xs) := by
                show (xs.all (fun x => oneOf x (harmsFor db)) && _) = _
                rw [e2, Bool.true_and]
              rw [← e3]
              exact k _ (s1.trans (s2.trans (s3.trans s4)))
end
end KW

set_option Elab.async false
set_option linter.all false
set_option maxRecDepth 100000
set_option maxHeartbeats 2000000
namespace OwnOp
open PySem PySem.Spec PyProof.Rows L2
/-- len(range(..)) -/
def tLenRg (te : L2.St → Hp → (Int → Int → Hp → Prop) → Prop) : TE := fun σ H Q => te σ H fun a b H1 => RgOk a b ∧ Q (.int ((b - a).toNat : Nat)) H1
theorem pe_lenRg {X : Cx} {e : Expr} {te : L2.St → Hp → (Int → Int → Hp → Prop) → Prop} {p pos : Pos} (hg : Gl X "len") (hm : X.mg "len" = none) (he : PRg X e te) (na : starEach [e] X.env = (false, eval e X.env) :: starEach [] X.env := by rfl) : PE X (.Call (.Name "len" p) [e] [] pos) (tLenRg te) := by
  refine ⟨fun pins s σ H Q I h => ?_⟩
  refine Call_ (ld_blt I hg hm PySem.boot_len (PyProof.Rows.callWith_builtin1 (args_cons (thn (he pins s σ H _ I h) fun x s1 ⟨r, a, b, t, u, v, H1, ex, hr, I1, ok, q⟩ => args_nil ?_) na) na))
  subst ex
  obtain ⟨b1, b2, b3, b4, b5⟩ := ok
  exact call_len_range hr (rangeSize_nat a b) (by omega) ⟨.int _, H1, I1.tok _, ⟨_, rfl⟩, q⟩
end OwnOp
namespace KW
open PySem PySem.Spec PyProof.Rows L2 LamX OwnOp
def areSums (d : Dat) : Bool := match d with
  | .tup xs => decide (1 ≤ xs.length ∧ xs.length ≤ 2) && xs.all (fun x => oneOf x allK)
  | _ => false
def rgI (n : Nat) : List Int := (List.range n).map fun (i : Nat) => (i : Int)
/-- an int's number -/
def unI : V → Int
  | .int i => i
  | _ => 0
def isOrder (d : Dat) : Bool := match d with
  | .tup xs => decide (1 ≤ xs.length ∧ xs.length ≤ 3) && (xs.all intV && decide ((xs.map unI).Perm (rgI xs.length)))
  | _ => false
theorem map_unI : ∀ {xs : List V}, xs.all intV = true → (xs.map unI).map V.int = xs
  | [], _ => rfl
  | x :: xs, h => by
    rw [List.all_cons, Bool.and_eq_true] at h
    cases x with
    | int i =>
      show V.int i :: (xs.map unI).map V.int = _
      rw [map_unI h.2]
    | _ => cases h.1
theorem rgV_eq (n : Nat) : rgV 0 (n : Int) = (rgI n).map V.int := by
  unfold rgV rgI
  rw [List.map_map, show ((n : Int) - 0).toNat = n by omega]
  refine List.map_congr_left fun i _ => ?_
  show V.int (0 + (i : Int)) = V.int (i : Int)
  rw [Int.zero_add]
theorem rgI_sorted (n : Nat) : (rgI n).Pairwise (· ≤ ·) := by
  unfold rgI
  rw [List.pairwise_map]
  exact (List.pairwise_lt_range (n := n)).imp fun h => by omega
theorem intV_map (ns : List Int) : (ns.map V.int).all intV = true := List.all_eq_true.mpr fun x hx => by
  obtain ⟨i, _, rfl⟩ := List.mem_map.mp hx
  rfl
theorem okV_map (ns : List Int) : (ns.map V.int).all okV = true := List.all_eq_true.mpr fun x hx => by
  obtain ⟨i, _, rfl⟩ := List.mem_map.mp hx
  rfl
theorem map_int_inj {a b : List Int} (h : a.map V.int = b.map V.int) : a = b := (List.map_inj_right fun _ _ z => V.int.inj z).mp h
/-- what sorting tells -/
theorem sorted_is {ns' ns : List Int} {n : Nat} (hp : ns'.Perm ns) (hs : ns'.Pairwise (· ≤ ·)) : decide (ns'.map V.int = rgV 0 (n : Int)) = decide (ns.Perm (rgI n)) := by
  rw [rgV_eq]
  refine decide_eq_decide.mpr ⟨fun z => ?_, fun z => ?_⟩
  · rw [map_int_inj z] at hp
    exact hp.symm
  · rw [PySem.W.ksm_same (hp.trans z) hs (rgI_sorted n)]
def spD (K : PySem.W.Frag) (g : Dat → Bool) : Sp := fun vs H Q _ => ∃ v d, vs = [v] ∧ Is K H v d ∧ short d ∧ ∀ H', Same H H' → Q (.bl (g d)) H'
theorem strOkK : allK.all okV = true := by decide +kernel
section
variable {P : Program} {w : World} {K : PySem.W.Frag} {mg : Str → Option Value} {base : Heap} {f : Addr} {fd : FuncData}
theorem scAreSums : FnScope ["value", "kind"] ["value"] (defScope sAreSums) := ⟨rfl, rfl, rfl, by decide +kernel, rfl, by decide +kernel, by decide +kernel⟩
theorem ok_areSums (F : Fun K "are_sums" "are_sums" sAreSums f fd) (Oo : DefAt K mg "is_one_of" "is_one_of" sOneOf) (B : Blt mg) (TK : TupAt K mg "KINDS" allK) (NB : NumAt mg "MOST_BLOCKS" 2) : FnOk P w K mg base CX0 2 f fd ["value"] (spD K areSums) := by
  refine F.ok scAreSums (fun vs H Q E h => ?_) (fun cdv A outer s H vs Q E hr h => ?_)
  · obtain ⟨v, d, rfl, _⟩ := h
    rfl
  · obtain ⟨v, d, rfl, hv, hsh, k⟩ := h
    have bO := Oo.F.binds (ps := ["value", "words"]) fun _ _ _ _ _ _ us hl => match us, hl with | [_, _], _ => rfl
    refine ⟨_, pss_cons (ps_if (PW.pt (pw_or (pt_not (pt_val (pe_callB call_isi (by rfl) B.isi PyProof.Rows.boot_isinstance (pa_cons (pv 0) (pa_cons (pe_bltn (v := .ty "tuple") (by rfl) B.tuple PyProof.Rows.boot_tuple rfl) pa_nil)))))
        (pw_or1 (pt_not (pt_chain op_le op_le pe_int (pe_callB call_len_seq (by rfl) B.len PySem.boot_len (pa_cons (pv 0) pa_nil)) (NB.pe rfl))))))
        (pss_one (ps_ret pe_bl)) pss_nil)
      (pss_one (ps_ret (pe_callB (cr_all rfl) (by rfl) B.all PyProof.Rows.boot_all (pa_cons (pe_lc (own := [("kind", 1)]) (g := gName 1) (by rfl) scAreSums.nd (pi_tup (pv 0))
          (blkOk_by (own := [("kind", 1)]) (N := ["value", "kind"]) (sc := defScope sAreSums) (by decide +kernel)) (fun _ _ _ _ _ => pg_name (i := 1) scAreSums.nd rfl (Or.inl rfl)) (fun _ _ _ _ _ => pts_nil)
          (fun _ _ _ _ _ => pe_call (ok_oneOf Oo.F B) hr rfl Oo.g Oo.F.kp bO .nil pass0 (pa_cons (pv 1) (pa_cons (pe_glob (v := .ref TK.a) (by rfl) TK.g rfl) pa_nil)))) pa_nil)))), ?_⟩
    refine ⟨_, rfl, v, _, _, _, _, rfl, .ty "tuple", hv.ty, hv.kTup, _, rfl, ?_⟩
    cases e : isTup d with
    | false =>
      refine iteT ?_
      refine iteT ?_
      have e2 : areSums d = false := by cases d <;> first | rfl | cases e
      rw [← e2]
      exact k _ (Same.refl _)
    | true =>
      refine iteF ?_
      cases hv with
      | fl => cases e
      | lst => cases e
      | tup ht hf =>
        rename_i p xs
        have no : ¬ (1 ≤ xs.length ∧ xs.length ≤ 2) → areSums (.tup xs) = false := fun z => by
          show (decide _ && _) = false
          rw [decide_eq_false z, Bool.false_and]
        refine ⟨_, rfl, p, xs, rfl, .inr ht, _, _, rfl, rfl, _, rfl, ?_⟩
        refine ite2 (fun c1 => ?_) (fun c1 => ?_)
        · have c1' : (1 : Int) ≤ (xs.length : Int) := of_decide_eq_true c1
          refine ⟨_, _, rfl, rfl, _, rfl, ?_⟩
          by_cases c2 : (xs.length : Int) ≤ 2
          · refine iteBF (by rw [decide_eq_true c2]; rfl) ?_
            refine ⟨_, rfl, p, rfl, ⟨_, ht⟩, fun D hD => ?_⟩
            refine lc_selT (c := fun _ => true) (gf := mapB fun x => oneOf x allK) ht hD hsh (fun x => rfl) (fun x hx H2 s2 R hR => hR _ (Same.refl _)) (fun x hx hc H2 s2 R hR => ?_) (fun H2 s2 hd2 => ?_)
            · exact ⟨_, rfl, x, .fl x, TK.a, _, rfl, .fl (List.all_eq_true.mp hf x hx), TK.at_ _, okV.all strOkK, hR _ (Same.refl _)⟩
            · rw [sel_all] at hd2
              refine ⟨D, _, rfl, SqL.of hd2, ?_⟩
              have e2 : areSums (.tup xs) = ((xs.map fun x => oneOf x allK).all id) := by
                show (decide _ && _) = _
                rw [decide_eq_true (by omega), Bool.true_and, List.all_map]
                rfl
              rw [← e2]
              exact k _ s2
          · refine iteB (by rw [decide_eq_false c2]; rfl) ?_
            rw [← no (by omega)]
            exact k _ (Same.refl _)
        · have c1' : ¬ (1 : Int) ≤ (xs.length : Int) := fun z => c1 (decide_eq_true z)
          refine ⟨_, rfl, ?_⟩
          refine iteT ?_
          rw [← no (by omega)]
          exact k _ (Same.refl _)
theorem scIsOrder : FnScope ["value", "shelf"] ["value"] (defScope sIsOrder) := ⟨rfl, rfl, rfl, by decide +kernel, rfl, by decide +kernel, by decide +kernel⟩
theorem ok_isOrder (F : Fun K "is_order" "is_order" sIsOrder f fd) (I : DefAt K mg "is_integer" "is_integer" sIsInt) (B : Blt mg) (NS : NumAt mg "MOST_SHELVES" 3) : FnOk P w K mg base CX0 2 f fd ["value"] (spD K isOrder) := by
  refine F.ok scIsOrder (fun vs H Q E h => ?_) (fun cdv A outer s H vs Q E hr h => ?_)
  · obtain ⟨v, d, rfl, _⟩ := h
    rfl
  · obtain ⟨v, d, rfl, hv, hsh, k⟩ := h
    have b := I.F.binds (ps := ["value"]) fun _ _ _ _ _ _ us hl => match us, hl with | [_], _ => rfl
    refine ⟨_, pss_cons (ps_if (PW.pt (pw_or (pt_not (pt_val (pe_callB call_isi (by rfl) B.isi PyProof.Rows.boot_isinstance (pa_cons (pv 0) (pa_cons (pe_bltn (v := .ty "tuple") (by rfl) B.tuple PyProof.Rows.boot_tuple rfl) pa_nil)))))
        (pw_or1 (pt_not (pt_chain op_le op_le pe_int (pe_callB call_len_seq (by rfl) B.len PySem.boot_len (pa_cons (pv 0) pa_nil)) (NS.pe rfl))))))
        (pss_one (ps_ret pe_bl)) pss_nil)
      (pss_one (ps_ret (pe_and (pe_callB (cr_all rfl) (by rfl) B.all PyProof.Rows.boot_all (pa_cons (pe_lc (own := [("shelf", 1)]) (g := gName 1) (by rfl) scIsOrder.nd (pi_tup (pv 0))
          (blkOk_by (own := [("shelf", 1)]) (N := ["value", "shelf"]) (sc := defScope sIsOrder) (by decide +kernel)) (fun _ _ _ _ _ => pg_name (i := 1) scIsOrder.nd rfl (Or.inl rfl)) (fun _ _ _ _ _ => pts_nil)
          (fun _ _ _ _ _ => pe_call (ok_isInt I.F B) hr rfl I.g I.F.kp b .nil pass0 (pa_cons (pv 1) pa_nil))) pa_nil))
        (pe_one (pe_cmpR (op_eqD hr.units) (pe_callB cr_sortedTI (by rfl) B.sorted (by decide +kernel) (pa_cons (pv 0) pa_nil)) (pe_listRg rfl (by rfl) B.list (prg_1 (by rfl) B.range (pe_callB call_len_seq (by rfl) B.len PySem.boot_len (pa_cons (pv 0) pa_nil)))) (nomark _)))))), ?_⟩
    refine ⟨_, rfl, v, _, _, _, _, rfl, .ty "tuple", hv.ty, hv.kTup, _, rfl, ?_⟩
    cases e : isTup d with
    | false =>
      refine iteT ?_
      refine iteT ?_
      have e2 : isOrder d = false := by cases d <;> first | rfl | cases e
      rw [← e2]
      exact k _ (Same.refl _)
    | true =>
      refine iteF ?_
      cases hv with
      | fl => cases e
      | lst => cases e
      | tup ht hf =>
        rename_i p xs
        have no : ¬ (1 ≤ xs.length ∧ xs.length ≤ 3) → isOrder (.tup xs) = false := fun z => by
          show (decide _ && _) = false
          rw [decide_eq_false z, Bool.false_and]
        refine ⟨_, rfl, p, xs, rfl, .inr ht, _, _, rfl, rfl, _, rfl, ?_⟩
        refine ite2 (fun c1 => ?_) (fun c1 => ?_)
        · have c1' : (1 : Int) ≤ (xs.length : Int) := of_decide_eq_true c1
          refine ⟨_, _, rfl, rfl, _, rfl, ?_⟩
          by_cases c2 : (xs.length : Int) ≤ 3
          · refine iteBF (by rw [decide_eq_true c2]; rfl) ?_
            refine ⟨_, rfl, p, rfl, ⟨_, ht⟩, fun D hD => ?_⟩
            refine lc_selT (c := fun _ => true) (gf := mapB intV) ht hD hsh (fun x => rfl) (fun x hx H2 s2 R hR => hR _ (Same.refl _)) (fun x hx hc H2 s2 R hR => ?_) (fun H2 s2 hd2 => ?_)
            · refine ⟨_, rfl, x, .fl x, rfl, .fl (List.all_eq_true.mp hf x hx), ?_⟩
              have e5 : isInt (.fl x) = intV x := by cases x <;> rfl
              rw [e5]
              exact hR _ (Same.refl _)
            · rw [sel_all] at hd2
              refine ⟨D, _, rfl, SqL.of hd2, _, rfl, ?_⟩
              have eA : ((xs.map intV).all id) = xs.all intV := by
                rw [List.all_map]
                rfl
              have e2 : isOrder (.tup xs) = (xs.all intV && decide ((xs.map unI).Perm (rgI xs.length))) := by
                show (decide _ && _) = _
                rw [decide_eq_true (by omega), Bool.true_and]
              cases e3 : xs.all intV with
              | false =>
                refine iteBF (by rw [eA, e3]) ?_
                rw [e3, Bool.false_and] at e2
                rw [← e2]
                exact k _ s2
              | true =>
                refine iteB (by rw [eA, e3]) ?_
                rw [e3, Bool.true_and] at e2
                have ht2 : SqT K H2 p ((xs.map unI).map V.int) := by
                  rw [map_unI e3]
                  exact KW.Same.sqT s2 ht
                refine ⟨_, rfl, p, xs.map unI, rfl, ht2, by rw [List.length_map]; omega, fun ns' q hp hs hq => ?_⟩
                have s3 := same_upd (o := HO.lst (ns'.map V.int)) hq
                refine ⟨_, rfl, p, xs, rfl, .inr (KW.Same.sqT s3 (KW.Same.sqT s2 ht)), _, rfl, .of_le (by omega) (by omega) (by omega) (by omega), fun q2 hq2 => ?_⟩
                have s4 := same_upd (o := HO.lst (rgV 0 (xs.length : Int))) hq2
                have ok2 : (rgV 0 (xs.length : Int)).all okV = true := by
                  rw [rgV_eq]
                  exact okV_map _
                have in2 : (rgV 0 (xs.length : Int)).all intV = true := by
                  rw [rgV_eq]
                  exact intV_map _
                refine ⟨_, _, .lst (SqL.of (s4 _ _ upd_same)) (dpAll_ok (okV_map ns')), .lst (SqL.of upd_same) (dpAll_ok ok2), shaped_lst (okV_map ns'), shaped_lst ok2, ?_⟩
                rw [eqv_lst (okV_map ns') ok2, eqL_int (intV_map ns') in2, sorted_is hp hs, ← e2]
                exact k _ (s2.trans (s3.trans s4))
          · refine iteB (by rw [decide_eq_false c2]; rfl) ?_
            rw [← no (by omega)]
            exact k _ (Same.refl _)
        · have c1' : ¬ (1 : Int) ≤ (xs.length : Int) := fun z => c1 (decide_eq_true z)
          refine ⟨_, rfl, ?_⟩
          refine iteT ?_
          rw [← no (by omega)]
          exact k _ (Same.refl _)
end
end KW

set_option Elab.async false
set_option linter.all false
set_option maxRecDepth 100000
set_option maxHeartbeats 2000000
namespace KW
open PySem PySem.Spec PyProof.Rows L2 LamX OwnOp
/-! ## the errors with a part -/
/-- an error class of the text whose __init__ stores its part -/
structure ExAt (K : PySem.W.Frag) (mg : Str → Option Value) (x qual : Str) (st : Stmt) where
  C : Addr
  fI : Addr
  fd : FuncData
  g : mg x = some (.ref C)
  F : Fun K "__init__" qual st fI fd
  T : OexC K C
  iC : PySem.W.findIn K (.ref C) "__init__" = some (some (.ref fI))
  tI : PySem.W.typeIn K (.ref fI) = some (.type "function")
  np : PySem.W.findIn K (.ref C) "part" = some none
  xc : ExcC K C
def spEx (K : PySem.W.Frag) (C : Addr) : Sp := fun vs H Q _ => ∃ a y, vs = [.ref a, y] ∧ H a = some (exo a C none) ∧ ∀ dx, H dx = none → dx ≠ a → Q .non (upd (upd H dx (exd dx [("part", y)])) a (exo a C (some dx)))
theorem same_del {H : Hp} {a d : Addr} {o1 o2 o3 : HO} {u : HO} (ha : H a = none) (hd : H d = none) : Same H (upd (del (upd (upd (upd H a o1) d o2) a o3) a) d u) := fun b o e => by
  have n1 : b ≠ a := ne_of_none e ha
  have n2 : b ≠ d := ne_of_none e hd
  rw [upd_ne n2, del_ne n1, upd_ne n1, upd_ne n2, upd_ne n1]
  exact e
/-- X('W') made: its dict is new and holds the part -/
theorem ex_made {K : PySem.W.Frag} {C : Addr} {y : V} {σ : L2.St} {H : Hp} {E : XK} (h : ∀ d H', Same H H' → H' d = some (.xd [("part", y)]) → E (.ref C) (some d) H') : tMkO C (spEx K C) [] (tCons (tC y) tNil) σ H E := by
  refine ⟨by show 1 ≤ 1000; decide, fun a ha => ⟨a, y, rfl, upd_same, fun dx hdx hne => ⟨rfl, dx, [("part", y)], upd_same, ?_, ?_, ?_⟩⟩⟩
  · rw [upd_ne hne, upd_same]
  · rw [upd_ne hne] at hdx
    exact hdx
  · have hd0 : H dx = none := by
      rw [upd_ne hne] at hdx
      exact hdx
    exact h dx _ (same_del ha hd0) upd_same
section
variable {P : Program} {w : World} {K : PySem.W.Frag} {mg : Str → Option Value} {base : Heap} {f : Addr} {fd : FuncData}
theorem scBkInit : FnScope ["self", "part"] ["self", "part"] (defScope sBkInit) := ⟨rfl, rfl, rfl, by decide +kernel, rfl, by decide +kernel, by decide +kernel⟩
theorem scBpInit : FnScope ["self", "part"] ["self", "part"] (defScope sBpInit) := ⟨rfl, rfl, rfl, by decide +kernel, rfl, by decide +kernel, by decide +kernel⟩
theorem ok_bk (Ex : ExAt K mg "BadKeep" "BadKeep.__init__" sBkInit) : FnOk P w K mg base CX0 1 Ex.fI Ex.fd ["self", "part"] (spEx K Ex.C) := by
  refine Ex.F.ok scBkInit (fun vs H Q E h => ?_) (fun cdv A outer s H vs Q E hr h => ?_)
  · obtain ⟨a, y, rfl, _⟩ := h
    rfl
  · obtain ⟨a, y, rfl, ha, k⟩ := h
    refine ⟨_, pss_one (ps_ost (pv 0) (pv 1)), ?_⟩
    exact ⟨_, rfl, _, rfl, a, Ex.C, rfl, Ex.T, Ex.np, .inl ⟨ha, fun dx hdx hne => k dx hdx hne⟩⟩
theorem ok_bp (Ex : ExAt K mg "BadPlan" "BadPlan.__init__" sBpInit) : FnOk P w K mg base CX0 1 Ex.fI Ex.fd ["self", "part"] (spEx K Ex.C) := by
  refine Ex.F.ok scBpInit (fun vs H Q E h => ?_) (fun cdv A outer s H vs Q E hr h => ?_)
  · obtain ⟨a, y, rfl, _⟩ := h
    rfl
  · obtain ⟨a, y, rfl, ha, k⟩ := h
    refine ⟨_, pss_one (ps_ost (pv 0) (pv 1)), ?_⟩
    exact ⟨_, rfl, _, rfl, a, Ex.C, rfl, Ex.T, Ex.np, .inl ⟨ha, fun dx hdx hne => k dx hdx hne⟩⟩
/-! ## Keep.__init__ -/
def keepBad (ds db dh dm : Dat) : Option Str := if betw ds 1 3 = false then some "SHELVES" else if betw db 1 2 = false then some "BLOCKS" else if areHarms dh db = false then some "HARMS" else if betw dm 0 2 = false then some "MOST" else none
def kfs (s b h m : V) : List (Str × V) := [("shelves", s), ("blocks", b), ("harms", h), ("most", m)]
theorem ks1 : ¬ (("shelves" : Str) = "blocks") := by decide +kernel
theorem ks2 : ¬ (("shelves" : Str) = "harms") := by decide +kernel
theorem ks3 : ¬ (("shelves" : Str) = "most") := by decide +kernel
theorem ks4 : ¬ (("blocks" : Str) = "harms") := by decide +kernel
theorem ks5 : ¬ (("blocks" : Str) = "most") := by decide +kernel
theorem ks6 : ¬ (("harms" : Str) = "most") := by decide +kernel
theorem putF_len (g : Str) (v : V) : ∀ fs : List (Str × V), (putF g v fs).length ≤ fs.length + 1
  | [] => Nat.le_refl _
  | (x, y) :: r => by
    unfold putF
    split
    · exact Nat.le_succ _
    · exact Nat.succ_le_succ (putF_len g v r)
theorem putF_lt {g : Str} {v : V} {fs : List (Str × V)} {n : Nat} (h : fs.length < n) (hn : n < 900) : (putF g v fs).length < n + 1 := Nat.lt_of_le_of_lt (putF_len g v fs) (Nat.succ_lt_succ h)
theorem lt1 {a1 : Str} {v1 : V} : (putF a1 v1 []).length < 1000 := Nat.lt_of_le_of_lt (putF_len _ _ _) (by decide)
theorem lt2 {a1 a2 : Str} {v1 v2 : V} : (putF a2 v2 (putF a1 v1 [])).length < 1000 := Nat.lt_of_le_of_lt (putF_len _ _ _) (Nat.lt_of_le_of_lt (Nat.succ_le_succ (putF_len _ _ _)) (by decide))
theorem lt3 {a1 a2 a3 : Str} {v1 v2 v3 : V} : (putF a3 v3 (putF a2 v2 (putF a1 v1 []))).length < 1000 := Nat.lt_of_le_of_lt (putF_len _ _ _) (Nat.lt_of_le_of_lt (Nat.succ_le_succ (Nat.le_trans (putF_len _ _ _) (Nat.succ_le_succ (putF_len _ _ _)))) (by decide))
theorem lt4 {a1 a2 a3 a4 : Str} {v1 v2 v3 v4 : V} : (putF a4 v4 (putF a3 v3 (putF a2 v2 (putF a1 v1 [])))).length < 1000 := Nat.lt_of_le_of_lt (putF_len _ _ _) (Nat.lt_of_le_of_lt (Nat.succ_le_succ (Nat.le_trans (putF_len _ _ _) (Nat.succ_le_succ (Nat.le_trans (putF_len _ _ _) (Nat.succ_le_succ (putF_len _ _ _)))))) (by decide))
theorem kfs_put (s b h m : V) : putF "most" m (putF "harms" h (putF "blocks" b (putF "shelves" s []))) = kfs s b h m := by
  unfold kfs
  simp only [putF, ks1, ks2, ks3, ks4, ks5, ks6, if_false]
structure KCls (K : PySem.W.Frag) (mg : Str → Option Value) where
  C : Addr
  g : mg "Keep" = some (.ref C)
  cl : Cls K C
  n1 : NoAttr K C "shelves"
  n2 : NoAttr K C "blocks"
  n3 : NoAttr K C "harms"
  n4 : NoAttr K C "most"
def spKInit (K : PySem.W.Frag) (C CB : Addr) : Sp := fun vs H Q E => ∃ p dx s b h m ds db dh dm, vs = [.ref p, s, b, h, m] ∧ H p = some (.ins C dx []) ∧ Is K H s ds ∧ Is K H b db ∧ Is K H h dh ∧ Is K H m dm ∧ short dh ∧
  (∀ wd, keepBad ds db dh dm = some wd → ∀ d H', Same H H' → H' d = some (.xd [("part", .str wd)]) → E (.ref CB) (some d) H') ∧
  (keepBad ds db dh dm = none → ∀ H', (∀ c o, H c = some o → c ≠ p → H' c = some o) → H' p = some (.ins C dx (kfs s b h m)) → Q .non H')
/-- the defs that look at parts -/
structure Parts (K : PySem.W.Frag) (mg : Str → Option Value) where
  I : DefAt K mg "is_integer" "is_integer" sIsInt
  Bt : DefAt K mg "is_between" "is_between" sBetween
  Oo : DefAt K mg "is_one_of" "is_one_of" sOneOf
  Ps : DefAt K mg "possible_harms" "possible_harms" sPossible
  Ah : DefAt K mg "are_harms" "are_harms" sAreHarms
  As : DefAt K mg "are_sums" "are_sums" sAreSums
  Io : DefAt K mg "is_order" "is_order" sIsOrder
  TH : TupAt K mg "HARMS" allH
  TK : TupAt K mg "KINDS" allK
  TC : TupAt K mg "CHOICES" allC
  TP : TupAt K mg "PARTS" allP
  NB : NumAt mg "MOST_BLOCKS" 2
  NS : NumAt mg "MOST_SHELVES" 3
  B : Blt mg
  BK : ExAt K mg "BadKeep" "BadKeep.__init__" sBkInit
  BP : ExAt K mg "BadPlan" "BadPlan.__init__" sBpInit
theorem Parts.bBt (T : Parts K mg) : Binds K T.Bt.fd ["value", "least", "greatest"] [] := T.Bt.F.binds (ps := ["value", "least", "greatest"]) fun _ _ _ _ _ _ us hl => match us, hl with | [_, _, _], _ => rfl
theorem Parts.bOo (T : Parts K mg) : Binds K T.Oo.fd ["value", "words"] [] := T.Oo.F.binds (ps := ["value", "words"]) fun _ _ _ _ _ _ us hl => match us, hl with | [_, _], _ => rfl
theorem Parts.bPs (T : Parts K mg) : Binds K T.Ps.fd ["blocks"] [] := T.Ps.F.binds (ps := ["blocks"]) fun _ _ _ _ _ _ us hl => match us, hl with | [_], _ => rfl
theorem Parts.bAh (T : Parts K mg) : Binds K T.Ah.fd ["value", "blocks"] [] := T.Ah.F.binds (ps := ["value", "blocks"]) fun _ _ _ _ _ _ us hl => match us, hl with | [_, _], _ => rfl
theorem Parts.bAs (T : Parts K mg) : Binds K T.As.fd ["value"] [] := T.As.F.binds (ps := ["value"]) fun _ _ _ _ _ _ us hl => match us, hl with | [_], _ => rfl
theorem Parts.bIo (T : Parts K mg) : Binds K T.Io.fd ["value"] [] := T.Io.F.binds (ps := ["value"]) fun _ _ _ _ _ _ us hl => match us, hl with | [_], _ => rfl
theorem Parts.bBK (T : Parts K mg) : Binds K T.BK.fd ["self", "part"] [] := T.BK.F.binds (ps := ["self", "part"]) fun _ _ _ _ _ _ us hl => match us, hl with | [_, _], _ => rfl
theorem Parts.bBP (T : Parts K mg) : Binds K T.BP.fd ["self", "part"] [] := T.BP.F.binds (ps := ["self", "part"]) fun _ _ _ _ _ _ us hl => match us, hl with | [_, _], _ => rfl
theorem Parts.okBt (T : Parts K mg) : FnOk P w K mg base CX0 2 T.Bt.f T.Bt.fd ["value", "least", "greatest"] (spBetween K) := ok_between T.Bt.F T.I T.B
theorem Parts.okOo (T : Parts K mg) : FnOk P w K mg base CX0 1 T.Oo.f T.Oo.fd ["value", "words"] (spOneOf K) := ok_oneOf T.Oo.F T.B
theorem Parts.okPs (T : Parts K mg) : FnOk P w K mg base CX0 3 T.Ps.f T.Ps.fd ["blocks"] (spPossible K) := ok_possible T.Ps.F T.Bt T.I T.B T.TH T.NB
theorem Parts.okAh (T : Parts K mg) : FnOk P w K mg base CX0 4 T.Ah.f T.Ah.fd ["value", "blocks"] (spAreHarms K) := ok_areHarms T.Ah.F T.Ps T.Oo T.Bt T.I T.B T.TH T.NB
theorem Parts.okAs (T : Parts K mg) : FnOk P w K mg base CX0 2 T.As.f T.As.fd ["value"] (spD K areSums) := ok_areSums T.As.F T.Oo T.B T.TK T.NB
theorem Parts.okIo (T : Parts K mg) : FnOk P w K mg base CX0 2 T.Io.f T.Io.fd ["value"] (spD K isOrder) := ok_isOrder T.Io.F T.I T.B T.NS
theorem scKInit : FnScope ["self", "shelves", "blocks", "harms", "most"] ["self", "shelves", "blocks", "harms", "most"] (defScope sKInit) := ⟨rfl, rfl, rfl, by decide +kernel, rfl, by decide +kernel, by decide +kernel⟩
theorem ok_kInit {dvs : List V} {kws : List (Str × V)} (F : FunD K "__init__" "Keep.__init__" (defArgs sKInit) (defBody sKInit) (defScope sKInit) dvs kws f fd) (T : Parts K mg) (KC : KCls K mg) :
    FnOk P w K mg base (L2.CX P w) 5 f fd ["self", "shelves", "blocks", "harms", "most"] (spKInit K KC.C T.BK.C) := by
  refine F.ok scKInit (fun vs H Q E h => ?_) (fun cdv A outer s H vs Q E hr h => ?_)
  · obtain ⟨p, dx, s, b, h, m, ds, db, dh, dm, rfl, _⟩ := h
    rfl
  · obtain ⟨p, dx, vs1, vb, vh, vm, ds, db, dh, dm, rfl, hp, hs, hb, hh, hm, hsh, kE, kQ⟩ := h
    have hr2 : Room 2 _ := hr.mono (by decide)
    refine ⟨_, pss_cons (ps_if (pt_not (pt_val (pe_call T.okBt hr2 rfl T.Bt.g T.Bt.F.kp T.bBt .nil pass0 (pa_cons (pv 1) (pa_cons pe_int (pa_cons (T.NS.pe rfl) pa_nil)))))) (pss_one (ps_raise rfl (takes_of rfl rfl rfl rfl) (pmk_oex T.BK.T T.BK.iC T.BK.tI (ok_bk T.BK) hr2 T.bBK .nil pass0 rfl T.BK.g (pa_cons pe_str pa_nil)))) pss_nil)
      (pss_cons (ps_if (pt_not (pt_val (pe_call T.okBt hr2 rfl T.Bt.g T.Bt.F.kp T.bBt .nil pass0 (pa_cons (pv 2) (pa_cons pe_int (pa_cons (T.NB.pe rfl) pa_nil)))))) (pss_one (ps_raise rfl (takes_of rfl rfl rfl rfl) (pmk_oex T.BK.T T.BK.iC T.BK.tI (ok_bk T.BK) hr2 T.bBK .nil pass0 rfl T.BK.g (pa_cons pe_str pa_nil)))) pss_nil)
      (pss_cons (ps_if (pt_not (pt_val (pe_call T.okAh hr rfl T.Ah.g T.Ah.F.kp T.bAh .nil pass0 (pa_cons (pv 3) (pa_cons (pv 2) pa_nil))))) (pss_one (ps_raise rfl (takes_of rfl rfl rfl rfl) (pmk_oex T.BK.T T.BK.iC T.BK.tI (ok_bk T.BK) hr2 T.bBK .nil pass0 rfl T.BK.g (pa_cons pe_str pa_nil)))) pss_nil)
      (pss_cons (ps_if (pt_not (pt_val (pe_call T.okBt hr2 rfl T.Bt.g T.Bt.F.kp T.bBt .nil pass0 (pa_cons (pv 4) (pa_cons pe_int (pa_cons pe_int pa_nil)))))) (pss_one (ps_raise rfl (takes_of rfl rfl rfl rfl) (pmk_oex T.BK.T T.BK.iC T.BK.tI (ok_bk T.BK) hr2 T.bBK .nil pass0 rfl T.BK.g (pa_cons pe_str pa_nil)))) pss_nil)
      (pss_cons (ps_fld (pv 0) (pv 1) rfl) (pss_cons (ps_fld (pv 0) (pv 2) rfl) (pss_cons (ps_fld (pv 0) (pv 3) rfl) (pss_one (ps_fld (pv 0) (pv 4) rfl)))))))), ?_⟩
    refine ⟨_, rfl, vs1, ds, 1, 3, rfl, hs, _, rfl, ?_⟩
    cases e1 : betw ds 1 3 with
    | false =>
      refine iteT ?_
      exact ex_made fun d H' s1 hd => kE "SHELVES" (by unfold keepBad; rw [if_pos e1]) d H' s1 hd
    | true =>
      refine iteF ?_
      refine ⟨_, rfl, vb, db, 1, 2, rfl, hb, _, rfl, ?_⟩
      cases e2 : betw db 1 2 with
      | false =>
        refine iteT ?_
        exact ex_made fun d H' s1 hd => kE "BLOCKS" (by unfold keepBad; rw [if_neg (by rw [e1]; decide), if_pos e2]) d H' s1 hd
      | true =>
        refine iteF ?_
        refine ⟨_, rfl, _, rfl, vh, dh, vb, db, rfl, hh, hb, hsh, fun H1 s1 => ⟨_, rfl, ?_⟩⟩
        cases e3 : areHarms dh db with
        | false =>
          refine iteT ?_
          exact ex_made fun d H' s2 hd => kE "HARMS" (by unfold keepBad; rw [if_neg (by rw [e1]; decide), if_neg (by rw [e2]; decide), if_pos e3]) d H' (s1.trans s2) hd
        | true =>
          refine iteF ?_
          refine ⟨_, rfl, vm, dm, 0, 2, rfl, KW.Same.is s1 hm, _, rfl, ?_⟩
          cases e4 : betw dm 0 2 with
          | false =>
            refine iteT ?_
            exact ex_made fun d H' s2 hd => kE "MOST" (by unfold keepBad; rw [if_neg (by rw [e1]; decide), if_neg (by rw [e2]; decide), if_neg (by rw [e3]; decide), if_pos e4]) d H' (s1.trans s2) hd
          | true =>
            refine iteF ?_
            have hp1 := s1 _ _ hp
            refine ⟨_, rfl, _, rfl, p, KC.C, dx, _, rfl, hp1, KC.cl, KC.n1, (by show 0 < 1000; decide), ?_⟩
            refine ⟨_, rfl, _, rfl, p, KC.C, dx, _, rfl, upd_same, KC.cl, KC.n2, lt1, ?_⟩
            refine ⟨_, rfl, _, rfl, p, KC.C, dx, _, rfl, upd_same, KC.cl, KC.n3, lt2, ?_⟩
            refine ⟨_, rfl, _, rfl, p, KC.C, dx, _, rfl, upd_same, KC.cl, KC.n4, lt3, ?_⟩
            refine kQ (by unfold keepBad; rw [if_neg (by rw [e1]; decide), if_neg (by rw [e2]; decide), if_neg (by rw [e3]; decide), if_neg (by rw [e4]; decide)]) _ (fun c o hc hne => ?_) ?_
            · rw [upd_ne hne, upd_ne hne, upd_ne hne, upd_ne hne]
              exact s1 _ _ hc
            · rw [upd_same, kfs_put]
end
end KW

set_option Elab.async false
set_option linter.all false
set_option maxRecDepth 100000
set_option maxHeartbeats 2000000
namespace KW
open PySem PySem.Spec PyProof.Rows L2 LamX OwnOp
/-! ## how Keep's arguments bind -/
section
variable {P : Program} {w : World} {K : PySem.W.Frag} {mg : Str → Option Value} {base : Heap} {f : Addr} {fd : FuncData} {aE : Addr}
abbrev FKI (K : PySem.W.Frag) (aE f : Addr) (fd : FuncData) : Prop := FunD K "__init__" "Keep.__init__" (defArgs sKInit) (defBody sKInit) (defScope sKInit) [.ref aE] [("most", .int 1)] f fd
abbrev psK : List Str := ["self", "shelves", "blocks", "harms", "most"]
/-- Keep(a, b): two parts by default -/
theorem kb2 (F : FKI K aE f fd) : ∃ ds, Vals [.ref aE, .int 1] ds ∧ Binds K fd psK ds :=
  F.binds 3 0 (by simp) rfl (fun T D doc pm an cdv ct us its ks h1 h2 h3 => match us, its, ks, h1, h2, h3 with
    | [_, _, _], [_], [_], _, _, _ => ⟨_, rfl, _, _, _, _, _, _, rfl, rfl, rfl⟩) (by simp)
/-- Keep(a, b, c) -/
theorem kb3 (F : FKI K aE f fd) : ∃ ds, Vals [.int 1] ds ∧ Binds K fd psK ds :=
  F.binds 4 1 (by simp) rfl (fun T D doc pm an cdv ct us its ks h1 h2 h3 => match us, its, ks, h1, h2, h3 with
    | [_, _, _, _], [_], [_], _, _, _ => ⟨_, rfl, _, _, _, _, _, _, rfl, rfl, rfl⟩) (by simp)
/-- Keep(a, b, c, most=d) -/
theorem kb4 (F : FKI K aE f fd) : ∃ its mv : List Value, KBn K fd psK 4 ["most"] (fun us ws => us ++ ws) (fun vs zs => vs ++ zs) :=
  F.kbinds 4 ["most"] [] (fun us _ _ ws => us ++ ws) (by simp) (by simp) (fun q hq => by cases hq) (fun r1 _ _ r4 => r1.append r4)
    (fun T D doc pm an cdv ct us its mv ws h1 h2 h3 h4 => match us, its, mv, ws, h1, h2, h3, h4 with
    | [_, _, _, _], [_], [], [_], _, _, _, _ => ⟨_, rfl, rfl⟩)
end
end KW

set_option Elab.async false
set_option linter.all false
set_option maxRecDepth 100000
set_option maxHeartbeats 2000000
namespace KW
open PySem PySem.Spec PyProof.Rows L2 LamX OwnOp
/-! ## keeps as objects -/
structure KD where
  s : Int
  b : Int
  hs : List V
  m : Int
  deriving DecidableEq
def KD.bad (d : KD) : Option Str := keepBad (.fl (.int d.s)) (.fl (.int d.b)) (.tup d.hs) (.fl (.int d.m))
/-- at p stands a keep with the parts d -/
structure KeepAt (K : PySem.W.Frag) (C : Addr) (H : Hp) (p : Addr) (d : KD) : Prop where
  ob : ∃ dx hr, H p = some (.ins C dx (kfs (.int d.s) (.int d.b) (.ref hr) (.int d.m))) ∧ SqT K H hr d.hs
  ok : d.bad = none
theorem Same.keep {K : PySem.W.Frag} {C : Addr} {H H' : Hp} {p : Addr} {d : KD} (s : Same H H') (h : KeepAt K C H p d) : KeepAt K C H' p d := by
  obtain ⟨dx, hr, h1, h2⟩ := h.ob
  exact ⟨⟨dx, hr, s _ _ h1, KW.Same.sqT s h2⟩, h.ok⟩
theorem KD.use {d : KD} (h : d.bad = none) : (1 ≤ d.s ∧ d.s ≤ 3) ∧ (1 ≤ d.b ∧ d.b ≤ 2) ∧ areHarms (.tup d.hs) (.fl (.int d.b)) = true ∧ (0 ≤ d.m ∧ d.m ≤ 2) := by
  unfold KD.bad keepBad at h
  split at h
  · cases h
  · rename_i e1
    split at h
    · cases h
    · rename_i e2
      split at h
      · cases h
      · rename_i e3
        split at h
        · cases h
        · rename_i e4
          refine ⟨?_, ?_, ?_, ?_⟩
          · exact of_decide_eq_true (eq_true_of_ne_false e1)
          · exact of_decide_eq_true (eq_true_of_ne_false e2)
          · exact eq_true_of_ne_false e3
          · exact of_decide_eq_true (eq_true_of_ne_false e4)
theorem harms_use {hs : List V} {db : Dat} (h : areHarms (.tup hs) db = true) : hs.all (fun x => oneOf x (harmsFor db)) = true ∧ hs = (harmsFor db).filter fun x => inV x hs := by
  have h' : (hs.all (fun x => oneOf x (harmsFor db)) && decide (hs = (harmsFor db).filter fun x => inV x hs)) = true := h
  rw [Bool.and_eq_true] at h'
  exact ⟨h'.1, of_decide_eq_true h'.2⟩
theorem harms_strs {hs : List V} {db : Dat} (h : areHarms (.tup hs) db = true) : hs.all strV = true := List.all_eq_true.mpr fun x hx => oneOf_str (List.all_eq_true.mp (harms_use h).1 x hx)
theorem harms_oks {hs : List V} {db : Dat} (h : areHarms (.tup hs) db = true) : hs.all okV = true := by
  rw [(harms_use h).2]
  exact List.all_eq_true.mpr fun x hx => List.all_eq_true.mp (harms_ok db) x (List.mem_filter.mp hx).1
theorem harms_le {hs : List V} {db : Dat} (h : areHarms (.tup hs) db = true) : hs.length ≤ 5 := by
  rw [(harms_use h).2]
  exact Nat.le_trans (List.length_filter_le _ _) (harms_len db)
/-- what isinstance asks of the class -/
structure KIsi (K : PySem.W.Frag) (C : Addr) : Prop where
  ha : PySem.W.findIn K (.ref C) "__class__" = some (some (.builtin "object.__class__"))
  hn : PySem.W.specialIn K (.builtin "object.__class__") "__get__" = some (some (.builtin "getset_descriptor.__get__"))
  ht : PySem.W.takesIn K (.builtin "object.__class__") = some true
  hm : PySem.W.mroIn K C (.type "object") = some true
  kit : PySem.W.kitOne K (.ref C) (.ref C) = some true
theorem kfs_s (s b h m : V) : (kfs s b h m).lookup ("shelves" : Str) = some s := by
  simp [kfs, List.lookup]
theorem kfs_b (s b h m : V) : (kfs s b h m).lookup ("blocks" : Str) = some b := by
  have e : (("blocks" : Str) == "shelves") = false := by decide +kernel
  simp [kfs, List.lookup, e]
theorem kfs_h (s b h m : V) : (kfs s b h m).lookup ("harms" : Str) = some h := by
  have e1 : (("harms" : Str) == "shelves") = false := by decide +kernel
  have e2 : (("harms" : Str) == "blocks") = false := by decide +kernel
  simp [kfs, List.lookup, e1, e2]
theorem kfs_m (s b h m : V) : (kfs s b h m).lookup ("most" : Str) = some m := by
  have e1 : (("most" : Str) == "shelves") = false := by decide +kernel
  have e2 : (("most" : Str) == "blocks") = false := by decide +kernel
  have e3 : (("most" : Str) == "harms") = false := by decide +kernel
  simp [kfs, List.lookup, e1, e2, e3]
def spKEq (K : PySem.W.Frag) (C : Addr) : Sp := fun vs H Q _ => ∃ a b d e, vs = [.ref a, .ref b] ∧ KeepAt K C H a d ∧ KeepAt K C H b e ∧ Q (.bl (decide (d = e))) H
def spKLen (K : PySem.W.Frag) (C : Addr) : Sp := fun vs H Q _ => ∃ a d, vs = [.ref a] ∧ KeepAt K C H a d ∧ Q (.int d.s) H
def spKIn (K : PySem.W.Frag) (C : Addr) : Sp := fun vs H Q _ => ∃ a d x dx, vs = [.ref a, x] ∧ KeepAt K C H a d ∧ Is K H x dx ∧ Q (.bl (oneOf x d.hs)) H
theorem int_beq {i j : Int} : decide (V.int i = V.int j) = decide (i = j) := decide_eq_decide.mpr ⟨V.int.inj, fun h => by rw [h]⟩
section
variable {P : Program} {w : World} {K : PySem.W.Frag} {mg : Str → Option Value} {base : Heap} {f : Addr} {fd : FuncData} {aE : Addr}
theorem scKEq : FnScope ["self", "other"] ["self", "other"] (defScope sKEq) := ⟨rfl, rfl, rfl, by decide +kernel, rfl, by decide +kernel, by decide +kernel⟩
theorem ok_kEq (F : Fun K "__eq__" "Keep.__eq__" sKEq f fd) (B : Blt mg) (KC : KCls K mg) (KI : KIsi K KC.C) : FnOk P w K mg base CX0 1 f fd ["self", "other"] (spKEq K KC.C) := by
  refine F.ok scKEq (fun vs H Q E h => ?_) (fun cdv A outer s H vs Q E hr h => ?_)
  · obtain ⟨a, b, d, e, rfl, _⟩ := h
    rfl
  · obtain ⟨a, b, d, e, rfl, ka, kb, k⟩ := h
    obtain ⟨dx, h1, a1, a2⟩ := ka.ob
    obtain ⟨dy, h2, b1, b2⟩ := kb.ob
    have ua := KD.use ka.ok
    have ub := KD.use kb.ok
    refine ⟨_, pss_one (ps_ret (pe_and (pe_callB call_isi (by rfl) B.isi PyProof.Rows.boot_isinstance (pa_cons (pv 1) (pa_cons (pe_glob (v := .ref KC.C) (by rfl) KC.g rfl) pa_nil)))
      (pe_and (pe_cmpR op_eq (pe_fld (pv 0) rfl) (pe_fld (pv 1) rfl) (nomark _)) (pe_and (pe_cmpR op_eq (pe_fld (pv 0) rfl) (pe_fld (pv 1) rfl) (nomark _)) (pe_and (pe_cmpR (op_eqD hr.units) (pe_fld (pv 0) rfl) (pe_fld (pv 1) rfl) (nomark _))
      (pe_one (pe_cmpR op_eq (pe_fld (pv 0) rfl) (pe_fld (pv 1) rfl) (nomark _)))))))), ?_⟩
    refine ⟨_, rfl, _, _, _, _, _, rfl, .own KC.C, .base (.ins b1 KC.cl KI.ha KI.hn KI.ht KI.hm), KI.kit, _, rfl, ?_⟩
    refine iteT ?_
    refine ⟨_, rfl, a, KC.C, dx, _, _, rfl, a1, KC.cl, KC.n1, kfs_s _ _ _ _, _, rfl, b, KC.C, dy, _, _, rfl, b1, KC.cl, KC.n1, kfs_s _ _ _ _, rfl, _, rfl, ?_⟩
    have no : ¬ d = e → Q (.bl false) H := fun z => by
      rw [decide_eq_false z] at k
      exact k
    refine ite2 (fun c1 => ?_) (fun c1 => no fun z => c1 (by rw [z]; exact decide_eq_true rfl))
    refine ⟨_, rfl, a, KC.C, dx, _, _, rfl, a1, KC.cl, KC.n2, kfs_b _ _ _ _, _, rfl, b, KC.C, dy, _, _, rfl, b1, KC.cl, KC.n2, kfs_b _ _ _ _, rfl, _, rfl, ?_⟩
    refine ite2 (fun c2 => ?_) (fun c2 => no fun z => c2 (by rw [z]; exact decide_eq_true rfl))
    refine ⟨_, rfl, a, KC.C, dx, _, _, rfl, a1, KC.cl, KC.n3, kfs_h _ _ _ _, _, rfl, b, KC.C, dy, _, _, rfl, b1, KC.cl, KC.n3, kfs_h _ _ _ _, ?_⟩
    refine ⟨_, _, .tup a2 (dpAll_ok (harms_oks ua.2.2.1)), .tup b2 (dpAll_ok (harms_oks ub.2.2.1)), shaped_tup (harms_oks ua.2.2.1), shaped_tup (harms_oks ub.2.2.1), _, rfl, ?_⟩
    rw [eqv_tup (harms_oks ua.2.2.1) (harms_oks ub.2.2.1), eqL_str (harms_strs ua.2.2.1) (harms_strs ub.2.2.1)]
    refine ite2 (fun c3 => ?_) (fun c3 => no fun z => c3 (by rw [z]; exact decide_eq_true rfl))
    refine ⟨_, rfl, a, KC.C, dx, _, _, rfl, a1, KC.cl, KC.n4, kfs_m _ _ _ _, _, rfl, b, KC.C, dy, _, _, rfl, b1, KC.cl, KC.n4, kfs_m _ _ _ _, rfl, ?_⟩
    have e1 : d.s = e.s := V.int.inj (of_decide_eq_true c1)
    have e2 : d.b = e.b := V.int.inj (of_decide_eq_true c2)
    have e3 : d.hs = e.hs := of_decide_eq_true c3
    have e4 : decide (V.int d.m = V.int e.m) = decide (d = e) := by
      rw [int_beq]
      refine decide_eq_decide.mpr ⟨fun z => ?_, fun z => by rw [z]⟩
      obtain ⟨x1, x2, x3, x4⟩ := d
      obtain ⟨y1, y2, y3, y4⟩ := e
      dsimp only at e1 e2 e3 z
      rw [e1, e2, e3, z]
    show Q (.bl (decide (V.int d.m = V.int e.m))) H
    rw [e4]
    exact k
theorem scKLen : FnScope ["self"] ["self"] (defScope sKLen) := ⟨rfl, rfl, rfl, by decide +kernel, rfl, by decide +kernel, by decide +kernel⟩
theorem ok_kLen (F : Fun K "__len__" "Keep.__len__" sKLen f fd) (B : Blt mg) (KC : KCls K mg) : FnOk P w K mg base CX0 1 f fd ["self"] (spKLen K KC.C) := by
  refine F.ok scKLen (fun vs H Q E h => ?_) (fun cdv A outer s H vs Q E hr h => ?_)
  · obtain ⟨a, d, rfl, _⟩ := h
    rfl
  · obtain ⟨a, d, rfl, ka, k⟩ := h
    obtain ⟨dx, h1, a1, a2⟩ := ka.ob
    have ua := KD.use ka.ok
    refine ⟨_, pss_one (ps_ret (pe_lenRg (by rfl) B.len (prg_1 (by rfl) B.range (pe_fld (pv 0) rfl)))), ?_⟩
    refine ⟨_, rfl, a, KC.C, dx, _, _, rfl, a1, KC.cl, KC.n1, kfs_s _ _ _ _, _, rfl, .of_le (by omega) (by omega) (by omega) (by omega), ?_⟩
    rw [show (((d.s - 0).toNat : Nat) : Int) = d.s by omega]
    exact k
theorem scKIn : FnScope ["self", "x"] ["self", "x"] (defScope sKIn) := ⟨rfl, rfl, rfl, by decide +kernel, rfl, by decide +kernel, by decide +kernel⟩
theorem ok_kIn (F : Fun K "__contains__" "Keep.__contains__" sKIn f fd) (T : Parts K mg) (KC : KCls K mg) : FnOk P w K mg base CX0 2 f fd ["self", "x"] (spKIn K KC.C) := by
  refine F.ok scKIn (fun vs H Q E h => ?_) (fun cdv A outer s H vs Q E hr h => ?_)
  · obtain ⟨a, d, x, dd, rfl, _⟩ := h
    rfl
  · obtain ⟨a, d, x, dd, rfl, ka, hx, k⟩ := h
    obtain ⟨dx, h1, a1, a2⟩ := ka.ob
    have ua := KD.use ka.ok
    refine ⟨_, pss_one (ps_ret (pe_call T.okOo hr rfl T.Oo.g T.Oo.F.kp T.bOo .nil pass0 (pa_cons (pv 1) (pa_cons (pe_fld (pv 0) rfl) pa_nil)))), ?_⟩
    exact ⟨_, rfl, _, rfl, a, KC.C, dx, _, _, rfl, a1, KC.cl, KC.n3, kfs_h _ _ _ _, x, dd, h1, d.hs, rfl, hx, a2, okV.all (harms_oks ua.2.2.1), k⟩
end
end KW

set_option Elab.async false
set_option linter.all false
set_option maxRecDepth 100000
set_option maxHeartbeats 2000000
namespace KW
open PySem PySem.Spec PyProof.Rows L2 LamX OwnOp
/-! ## keeps made: Keep(..), keep + word, keep - word, Keep.full -/
theorem eqV_refl_ok {x : V} (h : okV x = true) : eqV x x = true := by
  cases x <;> first | (cases h; done) | rfl | simp [eqV]
theorem inV_str {x : V} {ws : List V} (hx : strV x = true) (hw : ws.all strV = true) : inV x ws = decide (x ∈ ws) := by
  unfold inV
  rw [Bool.eq_iff_iff, List.any_eq_true, decide_eq_true_iff]
  constructor
  · rintro ⟨y, hy, e⟩
    have hs := List.all_eq_true.mp hw y hy
    have k : kin y x = true := by cases x <;> cases y <;> first | rfl | (cases hx; done) | (cases hs; done)
    rw [eqV_kin k] at e
    rw [← of_decide_eq_true e]
    exact hy
  · intro hy
    have k : kin x x = true := by cases x <;> first | rfl | (cases hx; done)
    exact ⟨x, hy, by rw [eqV_kin k]; exact decide_eq_true rfl⟩
theorem oneOf_is {x : V} {ws : List V} (hw : ws.all strV = true) : oneOf x ws = decide (x ∈ ws) := by
  cases x with
  | str z => exact inV_str rfl hw
  | _ =>
    symm
    refine decide_eq_false fun z => ?_
    have := List.all_eq_true.mp hw _ z
    cases this
/-- what a filter leaves of the words can be harms -/
theorem areHarms_filter (db : Dat) (c : V → Bool) : areHarms (.tup ((harmsFor db).filter c)) db = true := by
  have hst : ((harmsFor db).filter c).all strV = true := List.all_eq_true.mpr fun x hx => List.all_eq_true.mp (harms_str db) x (List.mem_filter.mp hx).1
  show (((harmsFor db).filter c).all (fun x => oneOf x (harmsFor db)) && decide ((harmsFor db).filter c = (harmsFor db).filter fun x => inV x ((harmsFor db).filter c))) = true
  rw [Bool.and_eq_true]
  constructor
  · refine List.all_eq_true.mpr fun x hx => ?_
    rw [oneOf_is (harms_str db)]
    exact decide_eq_true (List.mem_filter.mp hx).1
  · refine decide_eq_true (List.filter_congr fun x hx => ?_)
    rw [inV_str (List.all_eq_true.mp (harms_str db) x hx) hst, Bool.eq_iff_iff, decide_eq_true_iff, List.mem_filter]
    exact ⟨fun h => ⟨hx, h⟩, fun h => h.2⟩
theorem KD.bad_hs {d : KD} (h : d.bad = none) (c : V → Bool) : ({ d with hs := (harmsFor (.fl (.int d.b))).filter c } : KD).bad = none := by
  obtain ⟨u1, u2, u3, u4⟩ := KD.use h
  unfold KD.bad keepBad
  rw [if_neg, if_neg, if_neg, if_neg]
  · rw [show betw (.fl (.int d.m)) 0 2 = true from decide_eq_true u4]; decide
  · rw [areHarms_filter]; decide
  · rw [show betw (.fl (.int d.b)) 1 2 = true from decide_eq_true u2]; decide
  · rw [show betw (.fl (.int d.s)) 1 3 = true from decide_eq_true u1]; decide
/-- the parts that can be: numbers and a tuple -/
theorem keep_parts {K : PySem.W.Frag} {H : Hp} {s b h m : V} {ds db dh dm : Dat} (hs : Is K H s ds) (hb : Is K H b db) (hh : Is K H h dh) (hm : Is K H m dm) (k : keepBad ds db dh dm = none) :
    ∃ (d : KD) (hr : Addr), s = .int d.s ∧ b = .int d.b ∧ h = .ref hr ∧ m = .int d.m ∧ SqT K H hr d.hs ∧ d.bad = none ∧ ds = .fl (.int d.s) ∧ db = .fl (.int d.b) ∧ dh = .tup d.hs ∧ dm = .fl (.int d.m) := by
  have k0 := k
  unfold keepBad at k
  split at k
  · cases k
  · rename_i e1
    split at k
    · cases k
    · rename_i e2
      split at k
      · cases k
      · rename_i e3
        split at k
        · cases k
        · rename_i e4
          have f1 := eq_true_of_ne_false e1
          have f2 := eq_true_of_ne_false e2
          have f3 := eq_true_of_ne_false e3
          have f4 := eq_true_of_ne_false e4
          cases hs with
          | tup => cases f1
          | lst => cases f1
          | fl q1 =>
            cases hb with
            | tup => cases f2
            | lst => cases f2
            | fl q2 =>
              cases hm with
              | tup => cases f4
              | lst => cases f4
              | fl q4 =>
                cases hh with
                | fl => cases f3
                | lst => cases f3
                | tup t1 t2 =>
                  rename_i hr xs
                  cases s <;> first | (cases f1; done) | skip
                  cases b <;> first | (cases f2; done) | skip
                  cases m <;> first | (cases f4; done) | skip
                  rename_i i j l
                  exact ⟨⟨i, j, xs, l⟩, hr, rfl, rfl, rfl, rfl, t1, k0, rfl, rfl, rfl, rfl⟩
section
variable {P : Program} {w : World} {K : PySem.W.Frag} {mg : Str → Option Value} {base : Heap} {f : Addr} {fd : FuncData} {aE : Addr}
/-- Keep(..): from the heap ahead of it -/
theorem keep_mk {C CB : Addr} {H : Hp} {Q : VK} {E : XK} {s b h m : V} {ds db dh dm : Dat} (hs : Is K H s ds) (hb : Is K H b db) (hh : Is K H h dh) (hm : Is K H m dm) (hsh : short dh)
    (hE : ∀ wd, keepBad ds db dh dm = some wd → ∀ d H', Same H H' → H' d = some (.xd [("part", .str wd)]) → E (.ref CB) (some d) H')
    (hQ : ∀ d : KD, s = .int d.s → b = .int d.b → dh = .tup d.hs → m = .int d.m → ∀ p H', Same H H' → H p = none → KeepAt K C H' p d → Q (.ref p) H') :
    ∀ x dx, H x = none → H dx = none → dx ≠ x → spKInit K C CB [.ref x, s, b, h, m] (upd (upd H dx (.own x)) x (.ins C dx [])) (fun v H3 => v = .non ∧ Q (.ref x) H3) E := by
  intro x dx hx hdx hne
  have s0 : Same H (upd (upd H dx (.own x)) x (.ins C dx [])) := fun c o e => by
    rw [upd_ne (ne_of_none e hx), upd_ne (ne_of_none e hdx)]
    exact e
  refine ⟨x, dx, s, b, h, m, ds, db, dh, dm, rfl, upd_same, KW.Same.is s0 hs, KW.Same.is s0 hb, KW.Same.is s0 hh, KW.Same.is s0 hm, hsh, fun wd k d H' s1 hd => hE wd k d H' (s0.trans s1) hd, fun k H' old new => ⟨rfl, ?_⟩⟩
  have s1 : Same H H' := fun c o e => old c o (s0 c o e) (ne_of_none e hx)
  obtain ⟨d, hr, rfl, rfl, rfl, rfl, t, bad, e1, e2, e3, e4⟩ := keep_parts hs hb hh hm k
  exact hQ d rfl rfl e3 rfl x H' s1 hx ⟨⟨dx, hr, new, KW.Same.sqT s1 t⟩, bad⟩
/-- what Keep's call wants -/
structure KMk (K : PySem.W.Frag) (mg : Str → Option Value) (C : Addr) where
  fI : Addr
  fd : FuncData
  aE : Addr
  F : FKI K aE fI fd
  M : Mk K C fI
  tE : ∀ H, SqT K H aE []
theorem ok_kI (T : Parts K mg) (KC : KCls K mg) (KM : KMk K mg KC.C) : FnOk P w K mg base (L2.CX P w) 5 KM.fI KM.fd psK (spKInit K KC.C T.BK.C) := ok_kInit KM.F T KC
def KD.add (d : KD) (x : V) : KD := { d with hs := (harmsFor (.fl (.int d.b))).filter fun y => decide (y = x) || inV y d.hs }
def KD.sub (d : KD) (x : V) : KD := { d with hs := d.hs.filter fun y => !decide (y = x) }
def spKAdd (K : PySem.W.Frag) (C CB : Addr) : Sp := fun vs H Q E => ∃ a d x dx, vs = [.ref a, x] ∧ KeepAt K C H a d ∧ Is K H x dx ∧
  (oneOf x (harmsFor (.fl (.int d.b))) = false → ∀ e H', Same H H' → H' e = some (.xd [("part", .str "HARMS")]) → E (.ref CB) (some e) H') ∧
  (oneOf x (harmsFor (.fl (.int d.b))) = true → ∀ p H', Same H H' → H p = none → KeepAt K C H' p (d.add x) → Q (.ref p) H')
theorem scKAdd : FnScope ["self", "other", "words", "harms", "word"] ["self", "other"] (defScope sKAdd) := ⟨rfl, rfl, rfl, by decide +kernel, rfl, by decide +kernel, by decide +kernel⟩
theorem ok_kAdd (F : Fun K "__add__" "Keep.__add__" sKAdd f fd) (T : Parts K mg) (KC : KCls K mg) (KM : KMk K mg KC.C) : FnOk P w K mg base (L2.CX P w) 7 f fd ["self", "other"] (spKAdd K KC.C T.BK.C) := by
  refine F.okX scKAdd (fun vs H Q E h => ?_) (fun cdv A outer s H vs Q E hr h => ?_)
  · obtain ⟨a, d, x, dx, rfl, _⟩ := h
    rfl
  · obtain ⟨a, d, x, dd, rfl, ka, hx, kE, kQ⟩ := h
    obtain ⟨dx, h1, a1, a2⟩ := ka.ob
    have ua := KD.use ka.ok
    have hr1 : Room 1 _ := hr.mono (by decide)
    have hr2 : Room 2 _ := hr.mono (by decide)
    have hr3 : Room 3 _ := hr.mono (by decide)
    obtain ⟨its, mv, kb⟩ := kb4 KM.F
    refine ⟨_, pss_cons (ps_set (i := 2) scKAdd.nd rfl (Or.inl rfl) (pe_call T.okPs hr3 rfl T.Ps.g T.Ps.F.kp T.bPs .nil pass0 (pa_cons (pe_fld (pv 0) rfl) pa_nil)))
      (pss_cons (ps_if (pt_not (pt_val (pe_call T.okOo hr1 rfl T.Oo.g T.Oo.F.kp T.bOo .nil pass0 (pa_cons (pv 1) (pa_cons (pv 2) pa_nil))))) (pss_one (ps_raise rfl (takes_of rfl rfl rfl rfl) (pmk_oex T.BK.T T.BK.iC T.BK.tI (ok_bk T.BK) hr2 T.bBK .nil pass0 rfl T.BK.g (pa_cons pe_str pa_nil)))) pss_nil)
      (pss_cons (ps_set (i := 3) scKAdd.nd rfl (Or.inl rfl) (pe_callTy call_tuple_of (by rfl) T.B.tuple PyProof.Rows.boot_tuple (pa_cons (pe_lc (own := [("word", 4)]) (g := gName 4) (tt := tOr (tTest (tOp rEq (tVar 4) (tVar 1))) (tTest (tOp (rIn K false) (tVar 4) (tFld K (tVar 0) "harms")))) (by rfl) scKAdd.nd (pi_tup (pv 2))
          (blkOk_by (own := [("word", 4)]) (N := ["self", "other", "words", "harms", "word"]) (sc := defScope sKAdd) (by decide +kernel)) (fun _ _ _ _ _ => pg_name (i := 4) scKAdd.nd rfl (Or.inl rfl))
          (fun _ _ _ _ _ => pts_one (PW.pt (pw_or (pt_cmpR op_eq (pv 4) (pv 1) (nomark _)) (pw_or1 (pt_cmpR op_in_seq (pv 4) (pe_fld (pv 0) rfl) (by rfl)))))) (fun _ _ _ _ _ => pv 4)) pa_nil)))
      (pss_one (ps_ret (pe_makeK KM.M (ok_kI T KC KM) hr rfl KC.g kb (passes_call (takes_of rfl rfl rfl rfl) (fun _ _ _ _ h => h)) (pa_cons (pe_fld (pv 0) rfl) (pa_cons (pe_fld (pv 0) rfl) (pa_cons (pv 3) pa_nil))) (pk_cons (pe_fld (pv 0) rfl) pk_nil)))))), ?_⟩
    refine ⟨_, rfl, a, KC.C, dx, _, _, rfl, a1, KC.cl, KC.n2, kfs_b _ _ _ _, .int d.b, .fl (.int d.b), rfl, .fl rfl, fun H1 W s1 hW hw => ?_⟩
    have hW1 : SqT K H1 W (harmsFor (.fl (.int d.b))) := SqT.of hw
    refine ⟨_, rfl, _, rfl, x, dd, W, _, rfl, KW.Same.is s1 hx, hW1, okV.all (harms_ok _), _, rfl, ?_⟩
    cases e1 : oneOf x (harmsFor (.fl (.int d.b))) with
    | false =>
      refine iteT ?_
      exact ex_made fun e H' s2 he => kE e1 e H' (s1.trans s2) he
    | true =>
      refine iteF ?_
      obtain ⟨z, rfl⟩ : ∃ z, x = .str z := by
        have e := oneOf_str e1
        cases x <;> first | exact ⟨_, rfl⟩ | cases e
      refine ⟨_, rfl, W, rfl, ⟨_, hW1⟩, fun D hD => ?_⟩
      refine lc_selT (c := fun y => decide (y = V.str z) || inV y d.hs) (gf := fun y => y) hW1 hD (Nat.le_trans (harms_len _) (by decide)) (fun y => rfl) (fun y hy H3 s3 R hR => ?_) (fun y hy hc H3 s3 R hR => ⟨_, rfl, hR _ (Same.refl _)⟩) (fun H3 s3 hd3 => ?_)
      · obtain ⟨q, rfl⟩ := str_of_mem (harms_str _) hy
        refine ⟨_, rfl, _, rfl, rfl, _, rfl, ?_⟩
        refine ite2 (fun c1 => ?_) (fun c1 => ?_)
        · have e2 : (decide (V.str q = V.str z) || inV (.str q) d.hs) = true := by rw [c1, Bool.true_or]
          rw [← e2]
          exact hR _ (Same.refl _)
        · have e2 : (decide (V.str q = V.str z) || inV (.str q) d.hs) = inV (.str q) d.hs := by rw [eq_false_of_ne_true c1, Bool.false_or]
          refine ⟨_, rfl, _, rfl, a, KC.C, dx, _, _, rfl, s3 _ _ (s1 _ _ a1), KC.cl, KC.n3, kfs_h _ _ _ _, h1, d.hs, rfl, .inr (KW.Same.sqT s3 (KW.Same.sqT s1 a2)), rfl, okV.all (harms_oks ua.2.2.1), _, rfl, ?_⟩
          show R (inV (.str q) d.hs) H3
          rw [← e2]
          exact hR _ (Same.refl _)
      · rw [sel_id] at hd3
        refine ⟨D, _, rfl, .inl ⟨SqL.of hd3, fun l hl => ?_⟩⟩
        have s4 := same_upd (o := HO.tup ((harmsFor (.fl (.int d.b))).filter fun y => decide (y = V.str z) || inV y d.hs)) hl
        have s5 := s1.trans (s3.trans s4)
        refine ⟨_, rfl, a, KC.C, dx, _, _, rfl, s5 _ _ a1, KC.cl, KC.n1, kfs_s _ _ _ _, _, rfl, a, KC.C, dx, _, _, rfl, s5 _ _ a1, KC.cl, KC.n2, kfs_b _ _ _ _, _, rfl, _, rfl, a, KC.C, dx, _, _, rfl, s5 _ _ a1, KC.cl, KC.n4, kfs_m _ _ _ _, rfl, rfl, ?_⟩
        have bad := KD.bad_hs ka.ok (fun y => decide (y = V.str z) || inV y d.hs)
        refine keep_mk (ds := .fl (.int d.s)) (db := .fl (.int d.b)) (dh := .tup (d.add (.str z)).hs) (dm := .fl (.int d.m)) (.fl rfl) (.fl rfl) (.tup (SqT.of upd_same) (harms_oks (areHarms_filter _ _))) (.fl rfl) (Nat.le_trans (harms_le (areHarms_filter _ _)) (by decide)) (fun wd k => ?_) (fun d' q1 q2 q3 q4 p H' s6 hp kp => ?_)
        · rw [show keepBad (.fl (.int d.s)) (.fl (.int d.b)) (.tup (d.add (.str z)).hs) (.fl (.int d.m)) = none from bad] at k
          cases k
        · have e3 : d' = d.add (.str z) := by
            obtain ⟨x1, x2, x3, x4⟩ := d'
            obtain ⟨y1, y2, y3, y4⟩ := d
            cases q1
            cases q2
            cases q3
            cases q4
            rfl
          rw [e3] at kp
          exact kQ e1 p H' (s5.trans s6) (s5.free hp) kp
end
end KW

set_option Elab.async false
set_option linter.all false
set_option maxRecDepth 100000
set_option maxHeartbeats 2000000
namespace OwnOp
open PySem PySem.Spec PyProof.Rows L2 HT
open PySem.SeqAt
open PySem.AutoSeq1 (wpAny_loadPart')
open PySem.MeetsSeq PySem.MeetsSeq2 PySem.MeetsSeq3
/-! ## t[::-1] of a tuple -/
theorem adjust_rev (n : Nat) : Builtin.Slice.sliceAdjust none none (-1) (n : Int) = ((n : Int) - 1, -1) := by
  unfold Builtin.Slice.sliceAdjust
  simp
theorem places_rev (n : Nat) : Builtin.Slice.slicePlaces ((n : Int) - 1) (-1) (-1) = n := by
  unfold Builtin.Slice.slicePlaces
  have h1 : ¬ ((-1 : Int) > 0) := by omega
  rw [if_neg h1, show (-(-1) : Int) = 1 by decide, Int.ediv_one]
  split <;> omega
theorem pick_rev (xs : Array Value) : ((List.range xs.size).filterMap fun (k : Nat) => xs[(((xs.size : Int) - 1) + (k : Int) * (-1)).toNat]?).toArray = xs.toList.reverse.toArray := by
  congr 1
  refine List.ext_getElem? fun i => ?_
  have e : ∀ l : List Nat, (∀ k ∈ l, k < xs.size) → l.filterMap (fun (k : Nat) => xs[(((xs.size : Int) - 1) + (k : Int) * (-1)).toNat]?) = l.map fun k => xs.toList.reverse.getD k .none := by
    intro l
    induction l with
    | nil => intro _; rfl
    | cons a l ih =>
      intro h
      have ha : a < xs.size := h a (List.mem_cons_self ..)
      have hk : (((xs.size : Int) - 1) + (a : Int) * (-1)).toNat = xs.size - 1 - a := by omega
      have hl : xs.size - 1 - a < xs.size := by omega
      have hx : xs[(((xs.size : Int) - 1) + (a : Int) * (-1)).toNat]? = some (xs.toList.reverse.getD a .none) := by
        rw [hk, List.getD_eq_getElem?_getD, List.getElem?_reverse (by simpa using ha), Array.getElem?_eq_getElem hl]
        simp only [Array.length_toList, Array.getElem?_toList]
        rw [Array.getElem?_eq_getElem hl]
        rfl
      rw [List.filterMap_cons, hx, List.map_cons, ih fun k hk => h k (List.mem_cons_of_mem _ hk)]
  rw [e _ fun k hk => List.mem_range.mp hk]
  rw [List.getElem?_map]
  by_cases hi : i < xs.size
  · rw [List.getElem?_range hi]
    have : i < xs.toList.reverse.length := by simpa using hi
    simp [List.getD_eq_getElem?_getD, List.getElem?_eq_getElem this]
  · rw [List.getElem?_eq_none (by simpa using hi), List.getElem?_eq_none (by simpa using hi)]
    rfl
section
variable {prog : Program} {w : World} {A : Around} {E : Value → Shared → Prop} {s : Shared}
theorem applied_rev {sl : Addr} {vl vu vs : Value} {n : Nat} {Q : Int × Int × Nat → Shared → Prop} (hs : s.heap.IsSliceOf sl vl vu vs) (pl : IsPart vl none) (pu : IsPart vu none) (ps : IsPart vs (some (-1)))
    (h : Q ((n : Int) - 1, -1, n) s) : wpAny (model prog w) A (Builtin.Slice.sliceApplied (.ref sl) (pure (n : Int))) Q E s := by
  obtain ⟨os, hos, hcs, hds⟩ := id hs
  unfold Builtin.Slice.sliceApplied Builtin.Slice.sliceFields
  refine wpAny_bind (wpAny_bind (wpAny_field hos hds (x := vl) rfl (wpAny_bind (wpAny_field hos hds (x := vu) rfl (wpAny_bind (wpAny_field hos hds (x := vs) rfl (wpAny_pure ?_)))))))
  refine wpAny_bind (slicePart_ ps ?_)
  show wpAny _ _ (if ((-1 : Int) == 0) = true then _ else _) _ _ s
  rw [if_neg (by decide)]
  refine wpAny_bind (slicePart_ pl (wpAny_bind (slicePart_ pu (wpAny_bind (wpAny_pure ?_)))))
  show wpAny _ _ (match Builtin.Slice.sliceAdjust none none (-1) (n : Int) with | (lo, hi) => pure (lo, (-1 : Int), Builtin.Slice.slicePlaces lo hi (-1))) _ _ s
  rw [adjust_rev]
  show wpAny _ _ (pure ((n : Int) - 1, (-1 : Int), Builtin.Slice.slicePlaces ((n : Int) - 1) (-1) (-1))) _ _ s
  rw [places_rev]
  exact wpAny_pure h
theorem getItem_tuple_rev {t sl : Addr} {items : Array Value} {vl vu vs : Value} {Q : Value → Shared → Prop} (ht : IsTup s.heap t items) (hs : s.heap.IsSliceOf sl vl vu vs) (pl : IsPart vl none) (pu : IsPart vu none) (ps : IsPart vs (some (-1)))
    (h : Q (.ref s.heap.objs.size) { s with heap := s.heap.push { cls := .type "tuple", data := .seq items.toList.reverse.toArray } }) (hsz : items.size ≤ sizeLine) : wpAny (model prog w) A (getItem (.ref t) (.ref sl)) Q E s := by
  have hrev : sizeOk (.seq items.toList.reverse.toArray) := by
    show items.toList.reverse.toArray.size ≤ sizeLine
    rw [List.size_toArray, List.length_reverse, Array.length_toList]
    exact hsz
  obtain ⟨os, hos, hcs, hds⟩ := id hs
  have hTs : s.TypeIs (.ref sl) "slice" := ⟨os, hos, hcs⟩
  unfold getItem
  try with_reducible refine wpAny_holding ?_
  first | refine wpAny_bind (wpAny_pure ?_) | skip
  refine wpAny_bind (wpAny_sequenceKey ht.typeIs (by decide) ?_)
  refine wpAny_bind (wpAny_callSpecial?_slot (name := Str.ofString "__getitem__") ht.typeIs PyProof.Rows.slot_tuple_getitem
    (wpAny_call_entry PyProof.Rows.slot_tuple_getitem ht.typeIs entry_tuple_getitem ?_ (args_tuple_getitem _ _)))
  show wpAny _ _ (Builtin.Tuple.tupleItemsOf (.ref t) >>= _) _ _ s
  refine wpAny_bind (tupleItemsOf_ ht ?_)
  refine wpAny_bind (wpAny_typeOf hTs ?_)
  rw [if_pos (by decide)]
  refine wpAny_bind (applied_rev hs pl pu ps ?_)
  have hno : ¬ ((((items.size : Int) - 1) == 0 && (-1 : Int) == 1 && items.size == items.size) = true) := by
    rw [show ((-1 : Int) == 1) = false from rfl, Bool.and_false, Bool.false_and]
    exact Bool.false_ne_true
  show wpAny _ _ (if (((items.size : Int) - 1) == 0 && (-1 : Int) == 1 && items.size == items.size) = true then _ else _) _ _ s
  rw [if_neg hno, pick_rev]
  first
    | exact wpAny_bind (m := Builtin.Tuple.tupleExact _) (wpAny_newObj_type (wpAny_pure ⟨_, rfl, wpAny_pure h⟩) hrev)
    | exact wpAny_bind (m := Builtin.Tuple.tupleExact _) (wpAny_newObj_type (wpAny_bind (wpAny_pure (wpAny_pure ⟨_, rfl, wpAny_pure h⟩))) hrev)
    | exact wpAny_bind (wpAny_bind (m := Builtin.Tuple.tupleExact _) (wpAny_newObj_type (wpAny_pure (wpAny_pure ⟨_, rfl, wpAny_pure h⟩)) hrev))
end
end OwnOp
namespace OwnOp
open PySem PySem.Spec PyProof.Rows L2
def tRevT (K : PySem.W.Frag) (te : TE) : TE := fun σ H Q => te σ H fun x H1 => ∃ a xs, x = .ref a ∧ SqT K H1 a xs ∧ ∀ p, H1 p = none → Q (.ref p) (upd H1 p (.tup xs.reverse))
theorem pe_revT {X : Cx} {e : Expr} {te : TE} {k : Nat} {p1 p2 p3 pos : Pos} (he : PE X e te) : PE X (.Subscript e (.Slice none none (some (.UnaryOp .USub (.Constant (.int 1) k p1) p2)) p3) pos) (tRevT X.K te) := by
  refine ⟨fun pins s σ H Q I h => ?_⟩
  refine Subscript_ (thn (he.run pins s σ H _ I h) fun v s1 ⟨x, H1, I1, r1, q1⟩ => ?_)
  obtain ⟨a, xs, ex, hx, q⟩ := q1
  subst ex
  cases r1
  have hst : PO X (some (.UnaryOp .USub (.Constant (.int 1) k p1) p2)) (tPart (tUn (rU fun i => .int (-i)) (tC (.int 1)))) := po_some (pe_un un_neg pe_int)
  refine wpAny_Slice (thn (po_none.run pins s1 σ H1 (fun o H2 => o = none ∧ H2 = H1) I1 ⟨rfl, rfl⟩) fun vl s2 ⟨l, H2, I2, pl, el, e2⟩ => ?_)
  subst el e2
  refine thn (po_none.run pins s2 σ H2 (fun o H3 => o = none ∧ H3 = H2) I2 ⟨rfl, rfl⟩) fun vu s3 ⟨u, H3, I3, pu, eu, e3⟩ => ?_
  subst eu e3
  refine thn (hst.run pins s3 σ H3 (fun o H4 => o = some (-1) ∧ H4 = H3) I3 ⟨1, rfl, -1, rfl, rfl, rfl⟩) fun vs s4 ⟨o, H4, I4, ps, eo, e4⟩ => ?_
  subst eo e4
  have I5 : Inv X pins σ H4 { s4 with heap := s4.heap.push { cls := .type "slice", data := .fields #[vl, vu, vs] } } := I4.kept (t' := s4.toks) fun b ob q => Heap.get?_push_of_some _ q
  obtain ⟨its, r, ht, hz⟩ := I5.tuple hx
  have hlen := r.length
  show wpAny (model X.prog X.w) X.A (subscriptTail e (.Slice none none (some (.UnaryOp .USub (.Constant (.int 1) k p1) p2)) p3) (.ref a) (.ref s4.heap.objs.size)) (EP X pins σ Q) X.xe { s4 with heap := s4.heap.push { cls := .type "slice", data := .fields #[vl, vu, vs] } }
  refine tail_any (ops := [.ref a, .ref s4.heap.objs.size]) ht.typeIs (PyProof.Rows.slot_tuple_getitem.lookup) ?_ (by with_unfolding_all rfl)
  refine getItem_tuple_rev ht (Heap.IsSliceOf.new _ vl vu vs) pl pu ps ?_ (by rw [List.size_toArray]; omega)
  refine ⟨.ref _, _, I5.laid (t' := s4.toks) (o := .tup xs.reverse) (fun b ob q => Heap.get?_push_of_some _ q) (Nat.le_refl _) ?_, rfl, q _ (I5.hok.fresh (Nat.le_refl _))⟩
  exact ⟨by rw [List.length_reverse]; exact hz, _, by simpa using r.reverse, IsTup.new _ _⟩
end OwnOp

set_option Elab.async false
set_option linter.all false
set_option maxRecDepth 100000
set_option maxHeartbeats 2000000
namespace KW
open PySem PySem.Spec PyProof.Rows L2 LamX OwnOp
theorem allH_str : allH.all strV = true := rfl
theorem areHarms_sub {hs : List V} {db : Dat} (h : areHarms (.tup hs) db = true) (c : V → Bool) : areHarms (.tup (hs.filter c)) db = true := by
  have e : hs.filter c = (harmsFor db).filter fun x => c x && inV x hs := by
    have e0 := (harms_use h).2
    calc hs.filter c = ((harmsFor db).filter fun x => inV x hs).filter c := by rw [← e0]
      _ = _ := List.filter_filter
  rw [e]
  exact areHarms_filter db _
theorem KD.bad_with {d : KD} (h : d.bad = none) {l : List V} (hl : areHarms (.tup l) (.fl (.int d.b)) = true) : ({ d with hs := l } : KD).bad = none := by
  obtain ⟨u1, u2, u3, u4⟩ := KD.use h
  unfold KD.bad keepBad
  rw [if_neg, if_neg, if_neg, if_neg]
  · rw [show betw (.fl (.int d.m)) 0 2 = true from decide_eq_true u4]; decide
  · rw [hl]; decide
  · rw [show betw (.fl (.int d.b)) 1 2 = true from decide_eq_true u2]; decide
  · rw [show betw (.fl (.int d.s)) 1 3 = true from decide_eq_true u1]; decide
theorem kd_ext {d : KD} {s b m : Int} {hs : List V} (e1 : s = d.s) (e2 : b = d.b) (e3 : hs = d.hs) (e4 : m = d.m) : d = ⟨s, b, hs, m⟩ := by
  subst e1 e2 e3 e4
  rfl
section
variable {P : Program} {w : World} {K : PySem.W.Frag} {mg : Str → Option Value} {base : Heap} {f : Addr} {fd : FuncData} {aE : Addr}
def spKSub (K : PySem.W.Frag) (C CB : Addr) : Sp := fun vs H Q E => ∃ a d x dx, vs = [.ref a, x] ∧ KeepAt K C H a d ∧ Is K H x dx ∧
  (oneOf x allH = false → ∀ e H', Same H H' → H' e = some (.xd [("part", .str "HARMS")]) → E (.ref CB) (some e) H') ∧
  (oneOf x allH = true → ∀ p H', Same H H' → H p = none → KeepAt K C H' p (d.sub x) → Q (.ref p) H')
theorem scKSub : FnScope ["self", "other", "harms", "word"] ["self", "other"] (defScope sKSub) := ⟨rfl, rfl, rfl, by decide +kernel, rfl, by decide +kernel, by decide +kernel⟩
theorem ok_kSub (F : Fun K "__sub__" "Keep.__sub__" sKSub f fd) (T : Parts K mg) (KC : KCls K mg) (KM : KMk K mg KC.C) : FnOk P w K mg base (L2.CX P w) 7 f fd ["self", "other"] (spKSub K KC.C T.BK.C) := by
  refine F.okX scKSub (fun vs H Q E h => ?_) (fun cdv A outer s H vs Q E hr h => ?_)
  · obtain ⟨a, d, x, dx, rfl, _⟩ := h
    rfl
  · obtain ⟨a, d, x, dd, rfl, ka, hx, kE, kQ⟩ := h
    obtain ⟨dx, h1, a1, a2⟩ := ka.ob
    have ua := KD.use ka.ok
    have hr1 : Room 1 _ := hr.mono (by decide)
    have hr2 : Room 2 _ := hr.mono (by decide)
    obtain ⟨its, mv, kb⟩ := kb4 KM.F
    refine ⟨_, pss_cons (ps_if (pt_not (pt_val (pe_call T.okOo hr1 rfl T.Oo.g T.Oo.F.kp T.bOo .nil pass0 (pa_cons (pv 1) (pa_cons (pe_glob (v := .ref T.TH.a) (by rfl) T.TH.g rfl) pa_nil))))) (pss_one (ps_raise rfl (takes_of rfl rfl rfl rfl) (pmk_oex T.BK.T T.BK.iC T.BK.tI (ok_bk T.BK) hr2 T.bBK .nil pass0 rfl T.BK.g (pa_cons pe_str pa_nil)))) pss_nil)
      (pss_cons (ps_set (i := 2) scKSub.nd rfl (Or.inl rfl) (pe_callTy call_tuple_of (by rfl) T.B.tuple PyProof.Rows.boot_tuple (pa_cons (pe_lc (own := [("word", 3)]) (g := gName 3) (by rfl) scKSub.nd (pi_tup (pe_fld (pv 0) rfl))
          (blkOk_by (own := [("word", 3)]) (N := ["self", "other", "harms", "word"]) (sc := defScope sKSub) (by decide +kernel)) (fun _ _ _ _ _ => pg_name (i := 3) scKSub.nd rfl (Or.inl rfl))
          (fun _ _ _ _ _ => pts_one (pt_cmpR op_ne (pv 3) (pv 1) (nomark _))) (fun _ _ _ _ _ => pv 3)) pa_nil)))
      (pss_one (ps_ret (pe_makeK KM.M (ok_kI T KC KM) hr rfl KC.g kb (passes_call (takes_of rfl rfl rfl rfl) (fun _ _ _ _ h => h)) (pa_cons (pe_fld (pv 0) rfl) (pa_cons (pe_fld (pv 0) rfl) (pa_cons (pv 2) pa_nil))) (pk_cons (pe_fld (pv 0) rfl) pk_nil))))), ?_⟩
    refine ⟨_, rfl, x, dd, T.TH.a, _, rfl, hx, T.TH.at_ _, okV.all strOkAll, _, rfl, ?_⟩
    cases e1 : oneOf x allH with
    | false =>
      refine iteT ?_
      exact ex_made fun e H' s2 he => kE e1 e H' s2 he
    | true =>
      refine iteF ?_
      obtain ⟨z, rfl⟩ : ∃ z, x = .str z := by
        have e := oneOf_str e1
        cases x <;> first | exact ⟨_, rfl⟩ | cases e
      refine ⟨_, rfl, a, KC.C, dx, _, _, rfl, a1, KC.cl, KC.n3, kfs_h _ _ _ _, h1, rfl, ⟨_, a2⟩, fun D hD => ?_⟩
      refine lc_selT (c := fun y => !decide (y = V.str z)) (gf := fun y => y) a2 hD (Nat.le_trans (harms_le ua.2.2.1) (by decide)) (fun y => rfl) (fun y hy H3 s3 R hR => ?_) (fun y hy hc H3 s3 R hR => ⟨_, rfl, hR _ (Same.refl _)⟩) (fun H3 s3 hd3 => ?_)
      · obtain ⟨q, rfl⟩ := str_of_mem (harms_strs ua.2.2.1) hy
        exact ⟨_, rfl, _, rfl, rfl, _, rfl, hR _ (Same.refl _)⟩
      · rw [sel_id] at hd3
        refine ⟨D, _, rfl, .inl ⟨SqL.of hd3, fun l hl => ?_⟩⟩
        have s4 := same_upd (o := HO.tup (d.hs.filter fun y => !decide (y = V.str z))) hl
        have s5 := s3.trans s4
        have okh : areHarms (.tup (d.sub (.str z)).hs) (.fl (.int d.b)) = true := areHarms_sub ua.2.2.1 _
        refine ⟨_, rfl, a, KC.C, dx, _, _, rfl, s5 _ _ a1, KC.cl, KC.n1, kfs_s _ _ _ _, _, rfl, a, KC.C, dx, _, _, rfl, s5 _ _ a1, KC.cl, KC.n2, kfs_b _ _ _ _, _, rfl, _, rfl, a, KC.C, dx, _, _, rfl, s5 _ _ a1, KC.cl, KC.n4, kfs_m _ _ _ _, rfl, rfl, ?_⟩
        refine keep_mk (ds := .fl (.int d.s)) (db := .fl (.int d.b)) (dh := .tup (d.sub (.str z)).hs) (dm := .fl (.int d.m)) (.fl rfl) (.fl rfl) (.tup (SqT.of upd_same) (harms_oks okh)) (.fl rfl) (Nat.le_trans (harms_le okh) (by decide)) (fun wd k => ?_) (fun d' q1 q2 q3 q4 p H' s6 hp kp => ?_)
        · rw [show keepBad (.fl (.int d.s)) (.fl (.int d.b)) (.tup (d.sub (.str z)).hs) (.fl (.int d.m)) = none from KD.bad_with ka.ok okh] at k
          cases k
        · have e3 : d' = d.sub (.str z) := kd_ext (V.int.inj q1) (V.int.inj q2) (Dat.tup.inj q3) (V.int.inj q4)
          rw [e3] at kp
          exact kQ e1 p H' (s5.trans s6) (s5.free hp) kp
/-! ## Keep.full -/
def KD.full (d : KD) : KD := { d with hs := harmsFor (.fl (.int d.b)) }
theorem KD.full_ok {d : KD} (h : d.bad = none) : d.full.bad = none := by
  have e : harmsFor (.fl (.int d.b)) = (harmsFor (.fl (.int d.b))).filter fun _ => true := (List.filter_eq_self.mpr fun _ _ => rfl).symm
  refine KD.bad_with h ?_
  rw [e]
  exact areHarms_filter _ _
def spKFull (K : PySem.W.Frag) (C : Addr) : Sp := fun vs H Q _ => ∃ d : KD, vs = [.ref C, .int d.s, .int d.b, .int d.m] ∧ d.bad = none ∧ ∀ p H', Same H H' → H p = none → KeepAt K C H' p d.full → Q (.ref p) H'
abbrev psF : List Str := ["cls", "shelves", "blocks", "most"]
theorem scKFull : FnScope psF psF (defScope sKFull) := ⟨rfl, rfl, rfl, by decide +kernel, rfl, by decide +kernel, by decide +kernel⟩
abbrev FKF (K : PySem.W.Frag) (f : Addr) (fd : FuncData) : Prop := FunD K "full" "Keep.full" (defArgs sKFull) (defBody sKFull) (defScope sKFull) [] [("most", .int 1)] f fd
theorem ok_kFull (F : FKF K f fd) (T : Parts K mg) (KC : KCls K mg) (KM : KMk K mg KC.C) : FnOk P w K mg base (L2.CX P w) 7 f fd psF (spKFull K KC.C) := by
  refine F.ok scKFull (fun vs H Q E h => ?_) (fun cdv A outer s H vs Q E hr h => ?_)
  · obtain ⟨d, rfl, _⟩ := h
    rfl
  · obtain ⟨d, rfl, bad, kQ⟩ := h
    have hr3 : Room 3 _ := hr.mono (by decide)
    obtain ⟨its, mv, kb⟩ := kb4 KM.F
    refine ⟨_, pss_one (ps_ret (pe_makeL (i := 0) (x := "cls") rfl (Or.inl rfl) KM.M (ok_kI T KC KM) hr kb (passes_call (takes_of rfl rfl rfl rfl) (fun _ _ _ _ h => h)) (pa_cons (pv 1) (pa_cons (pv 2) (pa_cons (pe_call T.okPs hr3 rfl T.Ps.g T.Ps.F.kp T.bPs .nil pass0 (pa_cons (pv 2) pa_nil)) pa_nil))) (pk_cons (pv 3) pk_nil))), ?_⟩
    have bf := KD.full_ok bad
    refine ⟨rfl, _, rfl, _, rfl, _, rfl, .int d.b, .fl (.int d.b), rfl, .fl rfl, fun H1 W s1 hW hw => ⟨_, rfl, rfl, rfl, ?_⟩⟩
    refine keep_mk (ds := .fl (.int d.s)) (db := .fl (.int d.b)) (dh := .tup d.full.hs) (dm := .fl (.int d.m)) (.fl rfl) (.fl rfl) (.tup (SqT.of hw) (harms_ok _)) (.fl rfl) (Nat.le_trans (harms_len _) (by decide)) (fun wd k => ?_) (fun d' q1 q2 q3 q4 p H' s6 hp kp => ?_)
    · rw [show keepBad (.fl (.int d.s)) (.fl (.int d.b)) (.tup d.full.hs) (.fl (.int d.m)) = none from bf] at k
      cases k
    · have e3 : d' = d.full := kd_ext (V.int.inj q1) (V.int.inj q2) (Dat.tup.inj q3) (V.int.inj q4)
      rw [e3] at kp
      exact kQ p H' (s1.trans s6) (s1.free hp) kp
/-- Keep.full(a, b): most by default; Keep.full(a, b, most=c) -/
theorem kbF (F : FKF K f fd) : ∃ its mv : List Value, KBn K fd psF 3 ["most"] (fun us ws => us ++ ws) (fun vs zs => vs ++ zs) := by
  obtain ⟨mv, h⟩ := F.kbinds0 3 ["most"] [] (fun us _ ws => us ++ ws) (by simp) (fun q hq => by cases hq) (fun r1 _ r3 => r1.append r3)
    (ps := psF) (fun D doc pm an cdv ct us mv ws h1 h2 h3 => match us, mv, ws, h1, h2, h3 with
    | [_, _, _], [], [_], _, _, _ => rfl)
  exact ⟨[], mv, h⟩
theorem kbF0 (F : FKF K f fd) : ∃ ds, Vals [.int 1] ds ∧ Binds K fd psF ds :=
  F.binds0 3 (by simp) rfl (ps := psF) fun D doc pm an cdv ct us ks h1 h2 => match us, ks, h1, h2 with
    | [_, _, _], [_], _, _ => ⟨_, _, _, _, _, _, rfl, rfl, rfl⟩
end
end KW

set_option Elab.async false
set_option linter.all false
set_option maxRecDepth 100000
set_option maxHeartbeats 2000000
namespace KW
open PySem PySem.Spec PyProof.Rows L2 LamX OwnOp
/-! ## plans -/
def oneOfD (d : Dat) (ws : List V) : Bool := match d with
  | .fl v => oneOf v ws
  | _ => false
theorem Is.oneOf {K : PySem.W.Frag} {H : Hp} {v : V} {d : Dat} (h : Is K H v d) (ws : List V) : KW.oneOf v ws = oneOfD d ws := by
  cases h <;> rfl
def limOk : Dat → Bool
  | .fl .non => true
  | d => betw d 1 2
def planBad (du dr dc dm dl : Dat) : Option Str := if areSums du = false then some "SUMS" else if isOrder dr = false then some "ORDER" else if oneOfD dc allC = false then some "CHOICE" else if isBool dm = false then some "MENDS" else if limOk dl = false then some "LIMIT" else none
def pfs (u r c m l : V) : List (Str × V) := [("sums", u), ("order", r), ("choice", c), ("mends", m), ("limit", l)]
theorem ps1 : ¬ (("sums" : Str) = "order") := by decide +kernel
theorem ps2 : ¬ (("sums" : Str) = "choice") := by decide +kernel
theorem ps3 : ¬ (("sums" : Str) = "mends") := by decide +kernel
theorem ps4 : ¬ (("sums" : Str) = "limit") := by decide +kernel
theorem ps5 : ¬ (("order" : Str) = "choice") := by decide +kernel
theorem ps6 : ¬ (("order" : Str) = "mends") := by decide +kernel
theorem ps7 : ¬ (("order" : Str) = "limit") := by decide +kernel
theorem ps8 : ¬ (("choice" : Str) = "mends") := by decide +kernel
theorem ps9 : ¬ (("choice" : Str) = "limit") := by decide +kernel
theorem ps10 : ¬ (("mends" : Str) = "limit") := by decide +kernel
theorem pfs_put (u r c m l : V) : putF "limit" l (putF "mends" m (putF "choice" c (putF "order" r (putF "sums" u [])))) = pfs u r c m l := by
  unfold pfs
  simp only [putF, ps1, ps2, ps3, ps4, ps5, ps6, ps7, ps8, ps9, ps10, if_false]
theorem pfs_u (u r c m l : V) : (pfs u r c m l).lookup ("sums" : Str) = some u := by
  simp [pfs, List.lookup]
theorem pfs_r (u r c m l : V) : (pfs u r c m l).lookup ("order" : Str) = some r := by
  have e1 : (("order" : Str) == "sums") = false := by decide +kernel
  simp [pfs, List.lookup, e1]
theorem pfs_c (u r c m l : V) : (pfs u r c m l).lookup ("choice" : Str) = some c := by
  have e1 : (("choice" : Str) == "sums") = false := by decide +kernel
  have e2 : (("choice" : Str) == "order") = false := by decide +kernel
  simp [pfs, List.lookup, e1, e2]
theorem pfs_m (u r c m l : V) : (pfs u r c m l).lookup ("mends" : Str) = some m := by
  have e1 : (("mends" : Str) == "sums") = false := by decide +kernel
  have e2 : (("mends" : Str) == "order") = false := by decide +kernel
  have e3 : (("mends" : Str) == "choice") = false := by decide +kernel
  simp [pfs, List.lookup, e1, e2, e3]
theorem pfs_l (u r c m l : V) : (pfs u r c m l).lookup ("limit" : Str) = some l := by
  have e1 : (("limit" : Str) == "sums") = false := by decide +kernel
  have e2 : (("limit" : Str) == "order") = false := by decide +kernel
  have e3 : (("limit" : Str) == "choice") = false := by decide +kernel
  have e4 : (("limit" : Str) == "mends") = false := by decide +kernel
  simp [pfs, List.lookup, e1, e2, e3, e4]
structure PCls (K : PySem.W.Frag) (mg : Str → Option Value) where
  C : Addr
  g : mg "Plan" = some (.ref C)
  cl : Cls K C
  n1 : NoAttr K C "sums"
  n2 : NoAttr K C "order"
  n3 : NoAttr K C "choice"
  n4 : NoAttr K C "mends"
  n5 : NoAttr K C "limit"
def spPInit (K : PySem.W.Frag) (C CB : Addr) : Sp := fun vs H Q E => ∃ p dx u r c m l du dr dc dm dl, vs = [.ref p, u, r, c, m, l] ∧ H p = some (.ins C dx []) ∧ Is K H u du ∧ Is K H r dr ∧ Is K H c dc ∧ Is K H m dm ∧ Is K H l dl ∧ short du ∧ short dr ∧
  (∀ wd, planBad du dr dc dm dl = some wd → ∀ d H', Same H H' → H' d = some (.xd [("part", .str wd)]) → E (.ref CB) (some d) H') ∧
  (planBad du dr dc dm dl = none → ∀ H', (∀ q o, H q = some o → q ≠ p → H' q = some o) → H' p = some (.ins C dx (pfs u r c m l)) → Q .non H')
section
variable {P : Program} {w : World} {K : PySem.W.Frag} {mg : Str → Option Value} {base : Heap} {f : Addr} {fd : FuncData} {aE : Addr}
abbrev psP : List Str := ["self", "sums", "order", "choice", "mends", "limit"]
theorem scPInit : FnScope psP psP (defScope sPInit) := ⟨rfl, rfl, rfl, by decide +kernel, rfl, by decide +kernel, by decide +kernel⟩
abbrev FPI (K : PySem.W.Frag) (f : Addr) (fd : FuncData) : Prop := FunD K "__init__" "Plan.__init__" (defArgs sPInit) (defBody sPInit) (defScope sPInit) [] [("choice", .str "first"), ("mends", .bl true), ("limit", .non)] f fd
theorem strOkC : allC.all okV = true := by decide +kernel
theorem strOkP : allP.all okV = true := by decide +kernel
theorem ok_pInit (F : FPI K f fd) (T : Parts K mg) (PC : PCls K mg) : FnOk P w K mg base (L2.CX P w) 5 f fd psP (spPInit K PC.C T.BP.C) := by
  refine F.ok scPInit (fun vs H Q E h => ?_) (fun cdv A outer s H vs Q E hr h => ?_)
  · obtain ⟨p, dx, u, r, c, m, l, du, dr, dc, dm, dl, rfl, _⟩ := h
    rfl
  · obtain ⟨p, dx, vu, vr, vc, vm, vl, du, dr, dc, dm, dl, rfl, hp, hu, hor, hc, hm, hl, su, sr, kE, kQ⟩ := h
    have hr1 : Room 1 _ := hr.mono (by decide)
    have hr2 : Room 2 _ := hr.mono (by decide)
    refine ⟨_, pss_cons (ps_if (pt_not (pt_val (pe_call T.okAs hr2 rfl T.As.g T.As.F.kp T.bAs .nil pass0 (pa_cons (pv 1) pa_nil)))) (pss_one (ps_raise rfl (takes_of rfl rfl rfl rfl) (pmk_oex T.BP.T T.BP.iC T.BP.tI (ok_bp T.BP) hr2 T.bBP .nil pass0 rfl T.BP.g (pa_cons pe_str pa_nil)))) pss_nil)
      (pss_cons (ps_if (pt_not (pt_val (pe_call T.okIo hr2 rfl T.Io.g T.Io.F.kp T.bIo .nil pass0 (pa_cons (pv 2) pa_nil)))) (pss_one (ps_raise rfl (takes_of rfl rfl rfl rfl) (pmk_oex T.BP.T T.BP.iC T.BP.tI (ok_bp T.BP) hr2 T.bBP .nil pass0 rfl T.BP.g (pa_cons pe_str pa_nil)))) pss_nil)
      (pss_cons (ps_if (pt_not (pt_val (pe_call T.okOo hr1 rfl T.Oo.g T.Oo.F.kp T.bOo .nil pass0 (pa_cons (pv 3) (pa_cons (pe_glob (v := .ref T.TC.a) (by rfl) T.TC.g rfl) pa_nil))))) (pss_one (ps_raise rfl (takes_of rfl rfl rfl rfl) (pmk_oex T.BP.T T.BP.iC T.BP.tI (ok_bp T.BP) hr2 T.bBP .nil pass0 rfl T.BP.g (pa_cons pe_str pa_nil)))) pss_nil)
      (pss_cons (ps_if (pt_not (pt_val (pe_callB call_isi (by rfl) T.B.isi PyProof.Rows.boot_isinstance (pa_cons (pv 4) (pa_cons (pe_bltn (v := .ty "bool") (by rfl) T.B.bool PyProof.Rows.boot_bool rfl) pa_nil))))) (pss_one (ps_raise rfl (takes_of rfl rfl rfl rfl) (pmk_oex T.BP.T T.BP.iC T.BP.tI (ok_bp T.BP) hr2 T.bBP .nil pass0 rfl T.BP.g (pa_cons pe_str pa_nil)))) pss_nil)
      (pss_cons (ps_if (PW.pt (pw_and (pt_cmpR op_notN (pv 5) pe_non (nomark _)) (pw_and1 (pt_not (pt_val (pe_call T.okBt hr2 rfl T.Bt.g T.Bt.F.kp T.bBt .nil pass0 (pa_cons (pv 5) (pa_cons pe_int (pa_cons pe_int pa_nil))))))))) (pss_one (ps_raise rfl (takes_of rfl rfl rfl rfl) (pmk_oex T.BP.T T.BP.iC T.BP.tI (ok_bp T.BP) hr2 T.bBP .nil pass0 rfl T.BP.g (pa_cons pe_str pa_nil)))) pss_nil)
      (pss_cons (ps_fld (pv 0) (pv 1) rfl) (pss_cons (ps_fld (pv 0) (pv 2) rfl) (pss_cons (ps_fld (pv 0) (pv 3) rfl) (pss_cons (ps_fld (pv 0) (pv 4) rfl) (pss_one (ps_fld (pv 0) (pv 5) rfl)))))))))), ?_⟩
    refine ⟨_, rfl, vu, du, rfl, hu, su, fun H1 s1 => ⟨_, rfl, ?_⟩⟩
    cases e1 : areSums du with
    | false =>
      refine iteT ?_
      exact ex_made fun d H' s2 hd => kE "SUMS" (by unfold planBad; rw [if_pos e1]) d H' (s1.trans s2) hd
    | true =>
      refine iteF ?_
      refine ⟨_, rfl, vr, dr, rfl, KW.Same.is s1 hor, sr, fun H2 s2 => ⟨_, rfl, ?_⟩⟩
      have s12 := s1.trans s2
      cases e2 : isOrder dr with
      | false =>
        refine iteT ?_
        exact ex_made fun d H' s3 hd => kE "ORDER" (by unfold planBad; rw [if_neg (by rw [e1]; decide), if_pos e2]) d H' (s12.trans s3) hd
      | true =>
        refine iteF ?_
        refine ⟨_, rfl, vc, dc, T.TC.a, _, rfl, KW.Same.is s12 hc, T.TC.at_ _, okV.all strOkC, _, rfl, ?_⟩
        rw [hc.oneOf]
        cases e3 : oneOfD dc allC with
        | false =>
          refine iteT ?_
          exact ex_made fun d H' s3 hd => kE "CHOICE" (by unfold planBad; rw [if_neg (by rw [e1]; decide), if_neg (by rw [e2]; decide), if_pos e3]) d H' (s12.trans s3) hd
        | true =>
          refine iteF ?_
          refine ⟨_, rfl, vm, _, _, _, _, rfl, .ty "bool", (KW.Same.is s12 hm).ty, (KW.Same.is s12 hm).kBool, _, rfl, ?_⟩
          cases e4 : isBool dm with
          | false =>
            refine iteT ?_
            exact ex_made fun d H' s3 hd => kE "MENDS" (by unfold planBad; rw [if_neg (by rw [e1]; decide), if_neg (by rw [e2]; decide), if_neg (by rw [e3]; decide), if_pos e4]) d H' (s12.trans s3) hd
          | true =>
            refine iteF ?_
            have fin : limOk dl = true → tSeq (sFld K (tVar 0) (tVar 1) "sums") (tSeq (sFld K (tVar 0) (tVar 2) "order") (tSeq (sFld K (tVar 0) (tVar 3) "choice") (tSeq (sFld K (tVar 0) (tVar 4) "mends") (sFld K (tVar 0) (tVar 5) "limit")))) { nx := fun _ H' => Q .non H', rt := Q } (L2.start psP [.ref p, vu, vr, vc, vm, vl]) H2 := fun e5 => by
              have hp1 := s12 _ _ hp
              refine ⟨_, rfl, _, rfl, p, PC.C, dx, _, rfl, hp1, PC.cl, PC.n1, (by show 0 < 1000; decide), ?_⟩
              refine ⟨_, rfl, _, rfl, p, PC.C, dx, _, rfl, upd_same, PC.cl, PC.n2, lt1, ?_⟩
              refine ⟨_, rfl, _, rfl, p, PC.C, dx, _, rfl, upd_same, PC.cl, PC.n3, lt2, ?_⟩
              refine ⟨_, rfl, _, rfl, p, PC.C, dx, _, rfl, upd_same, PC.cl, PC.n4, lt3, ?_⟩
              refine ⟨_, rfl, _, rfl, p, PC.C, dx, _, rfl, upd_same, PC.cl, PC.n5, lt4, ?_⟩
              refine kQ (by unfold planBad; rw [if_neg (by rw [e1]; decide), if_neg (by rw [e2]; decide), if_neg (by rw [e3]; decide), if_neg (by rw [e4]; decide), if_neg (by rw [e5]; decide)]) _ (fun q o hq hne => ?_) ?_
              · rw [upd_ne hne, upd_ne hne, upd_ne hne, upd_ne hne, upd_ne hne]
                exact s12 _ _ hq
              · rw [upd_same, pfs_put]
            refine ⟨_, rfl, rfl, _, rfl, ?_⟩
            by_cases c5 : vl = .non
            · subst c5
              refine iteBF (by rw [decide_eq_true rfl]; rfl) ?_
              refine iteF ?_
              refine fin ?_
              cases hl
              rfl
            · refine iteB (by rw [decide_eq_false c5]; rfl) ?_
              refine ⟨_, rfl, vl, dl, 1, 2, rfl, KW.Same.is s12 hl, _, rfl, ?_⟩
              have e6 : limOk dl = betw dl 1 2 := by
                cases hl with
                | fl => cases vl <;> first | rfl | exact absurd rfl c5
                | _ => rfl
              cases e5 : betw dl 1 2 with
              | false =>
                refine iteT ?_
                exact ex_made fun d H' s3 hd => kE "LIMIT" (by unfold planBad; rw [if_neg (by rw [e1]; decide), if_neg (by rw [e2]; decide), if_neg (by rw [e3]; decide), if_neg (by rw [e4]; decide), if_pos (e6.trans e5)]) d H' (s12.trans s3) hd
              | true =>
                refine iteF ?_
                exact fin (e6.trans e5)
end
end KW

set_option Elab.async false
set_option linter.all false
set_option maxRecDepth 100000
set_option maxHeartbeats 2000000
namespace KW
open PySem PySem.Spec PyProof.Rows L2 LamX OwnOp
structure PD where
  u : List V
  r : List V
  c : V
  m : V
  l : V
  deriving DecidableEq
def PD.bad (d : PD) : Option Str := planBad (.tup d.u) (.tup d.r) (.fl d.c) (.fl d.m) (.fl d.l)
structure PlanAt (K : PySem.W.Frag) (C : Addr) (H : Hp) (p : Addr) (d : PD) : Prop where
  ob : ∃ dx hu hr, H p = some (.ins C dx (pfs (.ref hu) (.ref hr) d.c d.m d.l)) ∧ SqT K H hu d.u ∧ SqT K H hr d.r
  ok : d.bad = none
theorem Same.plan {K : PySem.W.Frag} {C : Addr} {H H' : Hp} {p : Addr} {d : PD} (s : Same H H') (h : PlanAt K C H p d) : PlanAt K C H' p d := by
  obtain ⟨dx, hu, hr, h1, h2, h3⟩ := h.ob
  exact ⟨⟨dx, hu, hr, s _ _ h1, KW.Same.sqT s h2, KW.Same.sqT s h3⟩, h.ok⟩
theorem planBad_use {du dr dc dm dl : Dat} (h : planBad du dr dc dm dl = none) : areSums du = true ∧ isOrder dr = true ∧ oneOfD dc allC = true ∧ isBool dm = true ∧ limOk dl = true := by
  unfold planBad at h
  split at h
  · cases h
  · rename_i e1
    split at h
    · cases h
    · rename_i e2
      split at h
      · cases h
      · rename_i e3
        split at h
        · cases h
        · rename_i e4
          split at h
          · cases h
          · rename_i e5
            exact ⟨eq_true_of_ne_false e1, eq_true_of_ne_false e2, eq_true_of_ne_false e3, eq_true_of_ne_false e4, eq_true_of_ne_false e5⟩
theorem planBad_none {du dr dc dm dl : Dat} (e1 : areSums du = true) (e2 : isOrder dr = true) (e3 : oneOfD dc allC = true) (e4 : isBool dm = true) (e5 : limOk dl = true) : planBad du dr dc dm dl = none := by
  unfold planBad
  rw [if_neg (by rw [e1]; decide), if_neg (by rw [e2]; decide), if_neg (by rw [e3]; decide), if_neg (by rw [e4]; decide), if_neg (by rw [e5]; decide)]
theorem sums_use {xs : List V} (h : areSums (.tup xs) = true) : (1 ≤ xs.length ∧ xs.length ≤ 2) ∧ xs.all (fun x => oneOf x allK) = true := by
  have h' : (decide (1 ≤ xs.length ∧ xs.length ≤ 2) && xs.all (fun x => oneOf x allK)) = true := h
  rw [Bool.and_eq_true] at h'
  exact ⟨of_decide_eq_true h'.1, h'.2⟩
theorem sums_str {xs : List V} (h : areSums (.tup xs) = true) : xs.all strV = true := List.all_eq_true.mpr fun x hx => oneOf_str (List.all_eq_true.mp (sums_use h).2 x hx)
theorem inV_ok {x : V} {ws : List V} (hx : strV x = true) (hw : ws.all okV = true) (h : inV x ws = true) : okV x = true := by
  unfold inV at h
  obtain ⟨y, hy, e⟩ := List.any_eq_true.mp h
  have hs := List.all_eq_true.mp hw y hy
  cases x <;> first | (cases hx; done) | skip
  cases y <;> first | (cases e; done) | (cases hs; done) | skip
  rename_i a b
  have : b = a := by simpa [eqV] using e
  subst this
  exact hs
theorem oneOf_ok {x : V} {ws : List V} (hw : ws.all okV = true) (h : oneOf x ws = true) : okV x = true := by
  have hx := oneOf_str h
  cases x <;> first | (cases hx; done) | exact inV_ok hx hw h
theorem sums_ok {xs : List V} (h : areSums (.tup xs) = true) : xs.all okV = true := List.all_eq_true.mpr fun x hx => oneOf_ok strOkK (List.all_eq_true.mp (sums_use h).2 x hx)
theorem order_use {xs : List V} (h : isOrder (.tup xs) = true) : (1 ≤ xs.length ∧ xs.length ≤ 3) ∧ xs.all intV = true ∧ (xs.map unI).Perm (rgI xs.length) := by
  have h' : (decide (1 ≤ xs.length ∧ xs.length ≤ 3) && (xs.all intV && decide ((xs.map unI).Perm (rgI xs.length)))) = true := h
  rw [Bool.and_eq_true, Bool.and_eq_true] at h'
  exact ⟨of_decide_eq_true h'.1, h'.2.1, of_decide_eq_true h'.2.2⟩
theorem int_ok {xs : List V} (h : xs.all intV = true) : xs.all okV = true := List.all_eq_true.mpr fun x hx => by
  have e := List.all_eq_true.mp h x hx
  cases x <;> first | rfl | cases e
theorem order_rev {xs : List V} (h : isOrder (.tup xs) = true) : isOrder (.tup xs.reverse) = true := by
  obtain ⟨h1, h2, h3⟩ := order_use h
  show (decide (1 ≤ xs.reverse.length ∧ xs.reverse.length ≤ 3) && (xs.reverse.all intV && decide ((xs.reverse.map unI).Perm (rgI xs.reverse.length)))) = true
  rw [List.length_reverse, decide_eq_true h1, Bool.true_and, Bool.and_eq_true]
  constructor
  · rw [List.all_reverse]
    exact h2
  · rw [List.map_reverse]
    exact decide_eq_true ((List.reverse_perm _).trans h3)
theorem plan_parts {K : PySem.W.Frag} {H : Hp} {u r c m l : V} {du dr dc dm dl : Dat} (hu : Is K H u du) (hr : Is K H r dr) (hc : Is K H c dc) (hm : Is K H m dm) (hl : Is K H l dl) (k : planBad du dr dc dm dl = none) :
    ∃ (d : PD) (pu pr : Addr), u = .ref pu ∧ r = .ref pr ∧ c = d.c ∧ m = d.m ∧ l = d.l ∧ SqT K H pu d.u ∧ SqT K H pr d.r ∧ d.bad = none ∧ du = .tup d.u ∧ dr = .tup d.r ∧ dc = .fl d.c ∧ dm = .fl d.m ∧ dl = .fl d.l := by
  obtain ⟨e1, e2, e3, e4, e5⟩ := planBad_use k
  cases hu with
  | fl => cases e1
  | lst => cases e1
  | tup t1 =>
    cases hr with
    | fl => cases e2
    | lst => cases e2
    | tup t2 =>
      cases hc with
      | tup => cases e3
      | lst => cases e3
      | fl =>
        cases hm with
        | tup => cases e4
        | lst => cases e4
        | fl =>
          cases hl with
          | tup => cases e5
          | lst => cases e5
          | fl => exact ⟨⟨_, _, _, _, _⟩, _, _, rfl, rfl, rfl, rfl, rfl, t1, t2, k, rfl, rfl, rfl, rfl, rfl⟩
theorem lim_cases {l : V} (h : limOk (.fl l) = true) : l = .non ∨ ∃ i, l = .int i := by
  cases l <;> first | exact .inl rfl | exact .inr ⟨_, rfl⟩ | cases h
section
variable {P : Program} {w : World} {K : PySem.W.Frag} {mg : Str → Option Value} {base : Heap} {f : Addr} {fd : FuncData} {aE : Addr}
theorem plan_mk {C CB : Addr} {H : Hp} {Q : VK} {E : XK} {u r c m l : V} {du dr dc dm dl : Dat} (hu : Is K H u du) (hr : Is K H r dr) (hc : Is K H c dc) (hm : Is K H m dm) (hl : Is K H l dl) (su : short du) (sr : short dr)
    (hE : ∀ wd, planBad du dr dc dm dl = some wd → ∀ d H', Same H H' → H' d = some (.xd [("part", .str wd)]) → E (.ref CB) (some d) H')
    (hQ : ∀ d : PD, du = .tup d.u → dr = .tup d.r → dc = .fl d.c → dm = .fl d.m → dl = .fl d.l → ∀ p H', Same H H' → H p = none → PlanAt K C H' p d → Q (.ref p) H') :
    ∀ x dx, H x = none → H dx = none → dx ≠ x → spPInit K C CB [.ref x, u, r, c, m, l] (upd (upd H dx (.own x)) x (.ins C dx [])) (fun v H3 => v = .non ∧ Q (.ref x) H3) E := by
  intro x dx hx hdx hne
  have s0 : Same H (upd (upd H dx (.own x)) x (.ins C dx [])) := fun c o e => by
    rw [upd_ne (ne_of_none e hx), upd_ne (ne_of_none e hdx)]
    exact e
  refine ⟨x, dx, u, r, c, m, l, du, dr, dc, dm, dl, rfl, upd_same, KW.Same.is s0 hu, KW.Same.is s0 hr, KW.Same.is s0 hc, KW.Same.is s0 hm, KW.Same.is s0 hl, su, sr, fun wd k d H' s1 hd => hE wd k d H' (s0.trans s1) hd, fun k H' old new => ⟨rfl, ?_⟩⟩
  have s1 : Same H H' := fun c o e => old c o (s0 c o e) (ne_of_none e hx)
  obtain ⟨d, pu, pr, rfl, rfl, rfl, rfl, rfl, t1, t2, bad, e1, e2, e3, e4, e5⟩ := plan_parts hu hr hc hm hl k
  exact hQ d e1 e2 e3 e4 e5 x H' s1 hx ⟨⟨dx, pu, pr, new, KW.Same.sqT s1 t1, KW.Same.sqT s1 t2⟩, bad⟩
structure PMkr (K : PySem.W.Frag) (mg : Str → Option Value) (C : Addr) where
  fI : Addr
  fd : FuncData
  F : FPI K fI fd
  M : Mk K C fI
theorem ok_pI (T : Parts K mg) (PC : PCls K mg) (PM : PMkr K mg PC.C) : FnOk P w K mg base (L2.CX P w) 5 PM.fI PM.fd psP (spPInit K PC.C T.BP.C) := ok_pInit PM.F T PC
/-- Plan(a, b, choice=c, mends=d, limit=e) -/
theorem pb5 (F : FPI K f fd) : ∃ mv : List Value, KBn K fd psP 3 ["choice", "mends", "limit"] (fun us ws => us ++ ws) (fun vs zs => vs ++ zs) := by
  obtain ⟨mv, h⟩ := F.kbinds0 3 ["choice", "mends", "limit"] [] (fun us _ ws => us ++ ws) (by simp) (fun q hq => by cases hq) (fun r1 _ r3 => r1.append r3)
    (ps := psP) (fun D doc pm an cdv ct us mv ws h1 h2 h3 => match us, mv, ws, h1, h2, h3 with
    | [_, _, _], [], [_, _, _], _, _, _ => rfl)
  exact ⟨mv, h⟩
/-- Plan(a, b) -/
theorem pb2 (F : FPI K f fd) : ∃ ds, Vals [.str "first", .bl true, .non] ds ∧ Binds K fd psP ds :=
  F.binds0 3 (by simp) rfl (ps := psP) fun D doc pm an cdv ct us ks h1 h2 => match us, ks, h1, h2 with
    | [_, _, _], [_, _, _], _, _ => ⟨_, _, _, _, _, _, rfl, rfl, _, _, _, _, _, _, rfl, rfl, _, _, _, _, _, _, rfl, rfl, rfl⟩
def spPEq (K : PySem.W.Frag) (C : Addr) : Sp := fun vs H Q _ => ∃ a b d e, vs = [.ref a, .ref b] ∧ PlanAt K C H a d ∧ PlanAt K C H b e ∧ Q (.bl (decide (d = e))) H
theorem scPEq : FnScope ["self", "other"] ["self", "other"] (defScope sPEq) := ⟨rfl, rfl, rfl, by decide +kernel, rfl, by decide +kernel, by decide +kernel⟩
theorem ok_pEq (F : Fun K "__eq__" "Plan.__eq__" sPEq f fd) (B : Blt mg) (PC : PCls K mg) (KI : KIsi K PC.C) : FnOk P w K mg base CX0 1 f fd ["self", "other"] (spPEq K PC.C) := by
  refine F.ok scPEq (fun vs H Q E h => ?_) (fun cdv A outer s H vs Q E hr h => ?_)
  · obtain ⟨a, b, d, e, rfl, _⟩ := h
    rfl
  · obtain ⟨a, b, d, e, rfl, ka, kb, k⟩ := h
    obtain ⟨dx, au, ar, a1, a2, a3⟩ := ka.ob
    obtain ⟨dy, bu, br, b1, b2, b3⟩ := kb.ob
    obtain ⟨u1, u2, u3, u4, u5⟩ := planBad_use ka.ok
    obtain ⟨w1, w2, w3, w4, w5⟩ := planBad_use kb.ok
    have no : ¬ d = e → Q (.bl false) H := fun z => by
      rw [decide_eq_false z] at k
      exact k
    refine ⟨_, pss_one (ps_ret (pe_and (pe_callB call_isi (by rfl) B.isi PyProof.Rows.boot_isinstance (pa_cons (pv 1) (pa_cons (pe_glob (v := .ref PC.C) (by rfl) PC.g rfl) pa_nil)))
      (pe_and (pe_cmpR (op_eqD hr.units) (pe_fld (pv 0) rfl) (pe_fld (pv 1) rfl) (nomark _)) (pe_and (pe_cmpR (op_eqD hr.units) (pe_fld (pv 0) rfl) (pe_fld (pv 1) rfl) (nomark _)) (pe_and (pe_cmpR op_eq (pe_fld (pv 0) rfl) (pe_fld (pv 1) rfl) (nomark _))
      (pe_and (pe_cmpR op_eq (pe_fld (pv 0) rfl) (pe_fld (pv 1) rfl) (nomark _)) (pe_one (pe_cmpR op_eq (pe_fld (pv 0) rfl) (pe_fld (pv 1) rfl) (nomark _))))))))), ?_⟩
    refine ⟨_, rfl, _, _, _, _, _, rfl, .own PC.C, .base (.ins b1 PC.cl KI.ha KI.hn KI.ht KI.hm), KI.kit, _, rfl, ?_⟩
    refine iteT ?_
    refine ⟨_, rfl, a, PC.C, dx, _, _, rfl, a1, PC.cl, PC.n1, pfs_u _ _ _ _ _, _, rfl, b, PC.C, dy, _, _, rfl, b1, PC.cl, PC.n1, pfs_u _ _ _ _ _, ?_⟩
    refine ⟨_, _, .tup a2 (dpAll_ok (sums_ok u1)), .tup b2 (dpAll_ok (sums_ok w1)), shaped_tup (sums_ok u1), shaped_tup (sums_ok w1), _, rfl, ?_⟩
    rw [eqv_tup (sums_ok u1) (sums_ok w1), eqL_str (sums_str u1) (sums_str w1)]
    refine ite2 (fun c1 => ?_) (fun c1 => no fun z => c1 (by rw [z]; exact decide_eq_true rfl))
    refine ⟨_, rfl, a, PC.C, dx, _, _, rfl, a1, PC.cl, PC.n2, pfs_r _ _ _ _ _, _, rfl, b, PC.C, dy, _, _, rfl, b1, PC.cl, PC.n2, pfs_r _ _ _ _ _, ?_⟩
    have i1 := (order_use u2).2.1
    have i2 := (order_use w2).2.1
    refine ⟨_, _, .tup a3 (dpAll_ok (int_ok i1)), .tup b3 (dpAll_ok (int_ok i2)), shaped_tup (int_ok i1), shaped_tup (int_ok i2), _, rfl, ?_⟩
    rw [eqv_tup (int_ok i1) (int_ok i2), eqL_int i1 i2]
    refine ite2 (fun c2 => ?_) (fun c2 => no fun z => c2 (by rw [z]; exact decide_eq_true rfl))
    obtain ⟨x1, x2, x3, x4, x5⟩ := d
    obtain ⟨y1, y2, y3, y4, y5⟩ := e
    obtain ⟨z3, rfl⟩ : ∃ z, x3 = .str z := by cases x3 <;> first | exact ⟨_, rfl⟩ | cases u3
    obtain ⟨z3', rfl⟩ : ∃ z, y3 = .str z := by cases y3 <;> first | exact ⟨_, rfl⟩ | cases w3
    obtain ⟨z4, rfl⟩ : ∃ z, x4 = .bl z := by cases x4 <;> first | exact ⟨_, rfl⟩ | cases u4
    obtain ⟨z4', rfl⟩ : ∃ z, y4 = .bl z := by cases y4 <;> first | exact ⟨_, rfl⟩ | cases w4
    refine ⟨_, rfl, a, PC.C, dx, _, _, rfl, a1, PC.cl, PC.n3, pfs_c _ _ _ _ _, _, rfl, b, PC.C, dy, _, _, rfl, b1, PC.cl, PC.n3, pfs_c _ _ _ _ _, rfl, _, rfl, ?_⟩
    refine ite2 (fun c3 => ?_) (fun c3 => no fun z => c3 (decide_eq_true (congrArg PD.c z)))
    refine ⟨_, rfl, a, PC.C, dx, _, _, rfl, a1, PC.cl, PC.n4, pfs_m _ _ _ _ _, _, rfl, b, PC.C, dy, _, _, rfl, b1, PC.cl, PC.n4, pfs_m _ _ _ _ _, rfl, _, rfl, ?_⟩
    refine ite2 (fun c4 => ?_) (fun c4 => no fun z => c4 (decide_eq_true (congrArg PD.m z)))
    have e1 : x1 = y1 := of_decide_eq_true c1
    have e2 : x2 = y2 := of_decide_eq_true c2
    have e3 : V.str z3 = V.str z3' := of_decide_eq_true c3
    have e4 : V.bl z4 = V.bl z4' := of_decide_eq_true c4
    have hsc : scal x5 y5 = true := by
      rcases lim_cases u5 with q | ⟨i, q⟩ <;> rcases lim_cases w5 with q' | ⟨j, q'⟩ <;> (dsimp only at q q'; subst q q'; rfl)
    refine ⟨_, rfl, a, PC.C, dx, _, _, rfl, a1, PC.cl, PC.n5, pfs_l _ _ _ _ _, _, rfl, b, PC.C, dy, _, _, rfl, b1, PC.cl, PC.n5, pfs_l _ _ _ _ _, hsc, ?_⟩
    have e5 : decide (x5 = y5) = decide ((⟨x1, x2, .str z3, .bl z4, x5⟩ : PD) = ⟨y1, y2, .str z3', .bl z4', y5⟩) := by
      refine decide_eq_decide.mpr ⟨fun z => ?_, fun z => congrArg PD.l z⟩
      rw [e1, e2, e3, e4, z]
    show Q (.bl (decide (x5 = y5))) H
    rw [e5]
    exact k
end
end KW

set_option Elab.async false
set_option linter.all false
set_option maxRecDepth 100000
set_option maxHeartbeats 2000000
namespace OwnOp
open PySem PySem.Spec PyProof.Rows L2
/-- a if t else b, where both are read without a change: which of both, told by the answer -/
def tPick (t : TT) (ta tb : TE) : TE := fun σ H Q => t σ H fun c H1 => ∃ x y, ta σ H1 (fun v H' => v = x ∧ H' = H1) ∧ tb σ H1 (fun v H' => v = y ∧ H' = H1) ∧ Q (if c = true then x else y) H1
theorem pe_pick {X : Cx} {c a b : Expr} {pos : Pos} {t : TT} {ta tb : TE} (hc : PT X c t) (ha : PE X a ta) (hb : PE X b tb) : PE X (.IfExp c a b pos) (tPick t ta tb) := by
  refine ⟨fun pins s σ H Q I h => ?_⟩
  refine wpAny_IfExp (thn (hc.run pins s σ H _ I h) fun d s1 ⟨H1, I1, x, y, h1, h2, q⟩ => ?_)
  cases d with
  | true => exact thn (ha.run pins s1 σ H1 _ I1 h1) fun u s2 ⟨v, H2, I2, r, e1, e2⟩ => ⟨v, H2, I2, r, by rw [e1, e2]; exact q⟩
  | false => exact thn (hb.run pins s1 σ H1 _ I1 h2) fun u s2 ⟨v, H2, I2, r, e1, e2⟩ => ⟨v, H2, I2, r, by rw [e1, e2]; exact q⟩
end OwnOp
namespace KW
open PySem PySem.Spec PyProof.Rows L2 LamX OwnOp
/-- the parts of a plan with another one -/
def bU (d : PD) (p : V) (dv : Dat) : Dat := if p = .str "sums" then dv else .tup d.u
def bR (d : PD) (p : V) (dv : Dat) : Dat := if p = .str "order" then dv else .tup d.r
def bC (d : PD) (p : V) (dv : Dat) : Dat := if p = .str "choice" then dv else .fl d.c
def bM (d : PD) (p : V) (dv : Dat) : Dat := if p = .str "mends" then dv else .fl d.m
def bL (d : PD) (p : V) (dv : Dat) : Dat := if p = .str "limit" then dv else .fl d.l
def butBad (d : PD) (p : V) (dv : Dat) : Option Str := planBad (bU d p dv) (bR d p dv) (bC d p dv) (bM d p dv) (bL d p dv)
def spBut (K : PySem.W.Frag) (C CB : Addr) : Sp := fun vs H Q E => ∃ a d p dp v dv, vs = [.ref a, p, v] ∧ PlanAt K C H a d ∧ Is K H p dp ∧ Is K H v dv ∧ short dv ∧
  (oneOf p allP = false → ∀ e H', Same H H' → H' e = some (.xd [("part", .non)]) → E (.ref CB) (some e) H') ∧
  (oneOf p allP = true → ∀ wd, butBad d p dv = some wd → ∀ e H', Same H H' → H' e = some (.xd [("part", .str wd)]) → E (.ref CB) (some e) H') ∧
  (oneOf p allP = true → ∀ e : PD, bU d p dv = .tup e.u → bR d p dv = .tup e.r → bC d p dv = .fl e.c → bM d p dv = .fl e.m → bL d p dv = .fl e.l → ∀ q H', Same H H' → H q = none → PlanAt K C H' q e → Q (.ref q) H')
theorem is_pick {K : PySem.W.Frag} {H : Hp} {c : Bool} {P : Prop} [Decidable P] {x y : V} {dx dy : Dat} (e : c = decide P) (hx : Is K H x dx) (hy : Is K H y dy) : Is K H (if c = true then x else y) (if P then dx else dy) := by
  subst e
  by_cases h : P
  · rw [if_pos (decide_eq_true h), if_pos h]
    exact hx
  · rw [if_neg (by rw [decide_eq_false h]; exact Bool.false_ne_true), if_neg h]
    exact hy
section
variable {P : Program} {w : World} {K : PySem.W.Frag} {mg : Str → Option Value} {base : Heap} {f : Addr} {fd : FuncData} {aE : Addr}
theorem PD.flat {d : PD} (h : d.bad = none) : okV d.c = true ∧ okV d.m = true ∧ okV d.l = true := by
  obtain ⟨u1, u2, u3, u4, u5⟩ := planBad_use h
  refine ⟨oneOf_ok strOkC u3, ?_, ?_⟩
  · have : isBool (.fl d.m) = true := u4
    cases e : d.m <;> rw [e] at this <;> first | rfl | cases this
  · rcases lim_cases u5 with q | ⟨i, q⟩ <;> rw [q] <;> rfl
abbrev psB : List Str := ["self", "part", "value"]
abbrev nsB : List Str := ["self", "part", "value", "sums", "order", "choice", "mends", "limit"]
theorem scBut : FnScope nsB psB (defScope sPBut) := ⟨rfl, rfl, rfl, by decide +kernel, rfl, by decide +kernel, by decide +kernel⟩
theorem short_if {P : Prop} [Decidable P] {dx dy : Dat} (hx : short dx) (hy : short dy) : short (if P then dx else dy) := by
  split
  · exact hx
  · exact hy
theorem ok_but (F : Fun K "but" "Plan.but" sPBut f fd) (T : Parts K mg) (PC : PCls K mg) (PM : PMkr K mg PC.C) : FnOk P w K mg base (L2.CX P w) 7 f fd psB (spBut K PC.C T.BP.C) := by
  refine F.okX scBut (fun vs H Q E h => ?_) (fun cdv A outer s H vs Q E hr h => ?_)
  · obtain ⟨a, d, p, dp, v, dv, rfl, _⟩ := h
    rfl
  · obtain ⟨a, d, p, dp, v, dv, rfl, ka, hp, hv, sv, k0, kE, kQ⟩ := h
    obtain ⟨dx, au, ar, a1, a2, a3⟩ := ka.ob
    obtain ⟨u1, u2, u3, u4, u5⟩ := planBad_use ka.ok
    have hr1 : Room 1 _ := hr.mono (by decide)
    have hr2 : Room 2 _ := hr.mono (by decide)
    obtain ⟨mv, kb⟩ := pb5 PM.F
    obtain ⟨f1, f2, f3⟩ := PD.flat ka.ok
    refine ⟨_, pss_cons (ps_if (pt_not (pt_val (pe_call T.okOo hr1 rfl T.Oo.g T.Oo.F.kp T.bOo .nil pass0 (pa_cons (pv 1) (pa_cons (pe_glob (v := .ref T.TP.a) (by rfl) T.TP.g rfl) pa_nil))))) (pss_one (ps_raise rfl (takes_of rfl rfl rfl rfl) (pmk_oex T.BP.T T.BP.iC T.BP.tI (ok_bp T.BP) hr2 T.bBP .nil pass0 rfl T.BP.g (pa_cons pe_non pa_nil)))) pss_nil)
      (pss_cons (ps_set (i := 3) scBut.nd rfl (Or.inl rfl) (pe_pick (pt_cmpR op_eq (pv 1) pe_str (nomark _)) (pv 2) (pe_fld (pv 0) rfl)))
      (pss_cons (ps_set (i := 4) scBut.nd rfl (Or.inl rfl) (pe_pick (pt_cmpR op_eq (pv 1) pe_str (nomark _)) (pv 2) (pe_fld (pv 0) rfl)))
      (pss_cons (ps_set (i := 5) scBut.nd rfl (Or.inl rfl) (pe_pick (pt_cmpR op_eq (pv 1) pe_str (nomark _)) (pv 2) (pe_fld (pv 0) rfl)))
      (pss_cons (ps_set (i := 6) scBut.nd rfl (Or.inl rfl) (pe_pick (pt_cmpR op_eq (pv 1) pe_str (nomark _)) (pv 2) (pe_fld (pv 0) rfl)))
      (pss_cons (ps_set (i := 7) scBut.nd rfl (Or.inl rfl) (pe_pick (pt_cmpR op_eq (pv 1) pe_str (nomark _)) (pv 2) (pe_fld (pv 0) rfl)))
      (pss_one (ps_ret (pe_makeK PM.M (ok_pI T PC PM) hr rfl PC.g kb (passes_call (takes_of rfl rfl rfl rfl) (fun _ _ _ _ h => h)) (pa_cons (pv 3) (pa_cons (pv 4) pa_nil)) (pk_cons (pv 5) (pk_cons (pv 6) (pk_cons (pv 7) pk_nil))))))))))), ?_⟩
    refine ⟨_, rfl, p, dp, T.TP.a, _, rfl, hp, T.TP.at_ _, okV.all strOkP, _, rfl, ?_⟩
    cases e1 : oneOf p allP with
    | false =>
      refine iteT ?_
      exact ex_made fun e H' s2 he => k0 e1 e H' s2 he
    | true =>
      refine iteF ?_
      obtain ⟨z, rfl⟩ : ∃ z, p = .str z := by
        have e := oneOf_str e1
        cases p <;> first | exact ⟨_, rfl⟩ | cases e
      refine ⟨_, rfl, rfl, _, rfl, _, .ref au, ⟨_, rfl, rfl, rfl⟩, ⟨_, rfl, a, PC.C, dx, _, _, rfl, a1, PC.cl, PC.n1, pfs_u _ _ _ _ _, rfl, rfl⟩, ?_⟩
      refine ⟨_, rfl, rfl, _, rfl, _, .ref ar, ⟨_, rfl, rfl, rfl⟩, ⟨_, rfl, a, PC.C, dx, _, _, rfl, a1, PC.cl, PC.n2, pfs_r _ _ _ _ _, rfl, rfl⟩, ?_⟩
      refine ⟨_, rfl, rfl, _, rfl, _, d.c, ⟨_, rfl, rfl, rfl⟩, ⟨_, rfl, a, PC.C, dx, _, _, rfl, a1, PC.cl, PC.n3, pfs_c _ _ _ _ _, rfl, rfl⟩, ?_⟩
      refine ⟨_, rfl, rfl, _, rfl, _, d.m, ⟨_, rfl, rfl, rfl⟩, ⟨_, rfl, a, PC.C, dx, _, _, rfl, a1, PC.cl, PC.n4, pfs_m _ _ _ _ _, rfl, rfl⟩, ?_⟩
      refine ⟨_, rfl, rfl, _, rfl, _, d.l, ⟨_, rfl, rfl, rfl⟩, ⟨_, rfl, a, PC.C, dx, _, _, rfl, a1, PC.cl, PC.n5, pfs_l _ _ _ _ _, rfl, rfl⟩, ?_⟩
      refine ⟨_, rfl, _, rfl, _, rfl, _, rfl, _, rfl, rfl, rfl, ?_⟩
      exact plan_mk (du := bU d (.str z) dv) (dr := bR d (.str z) dv) (dc := bC d (.str z) dv) (dm := bM d (.str z) dv) (dl := bL d (.str z) dv)
        (is_pick rfl hv (.tup a2 (sums_ok u1))) (is_pick rfl hv (.tup a3 (int_ok (order_use u2).2.1))) (is_pick rfl hv (.fl f1)) (is_pick rfl hv (.fl f2)) (is_pick rfl hv (.fl f3))
        (short_if sv (Nat.le_trans (sums_use u1).1.2 (by decide))) (short_if sv (Nat.le_trans (order_use u2).1.2 (by decide)))
        (fun wd k e H' s1 he => kE e1 wd k e H' s1 he) (fun e q1 q2 q3 q4 q5 q H' s1 hq kp => kQ e1 e q1 q2 q3 q4 q5 q H' s1 hq kp)
def PD.turned (d : PD) : PD := { d with r := d.r.reverse }
def spTurned (K : PySem.W.Frag) (C : Addr) : Sp := fun vs H Q _ => ∃ a d, vs = [.ref a] ∧ PlanAt K C H a d ∧ ∀ q H', Same H H' → H q = none → PlanAt K C H' q d.turned → Q (.ref q) H'
theorem scTurned : FnScope ["self"] ["self"] (defScope sPTurned) := ⟨rfl, rfl, rfl, by decide +kernel, rfl, by decide +kernel, by decide +kernel⟩
theorem ok_turned {fB : Addr} {fdB : FuncData} (F : Fun K "turned" "Plan.turned" sPTurned f fd) (T : Parts K mg) (PC : PCls K mg) (PM : PMkr K mg PC.C) (FB : Fun K "but" "Plan.but" sPBut fB fdB) (MB : Meth K PC.C "but" fB) : FnOk P w K mg base (L2.CX P w) 8 f fd ["self"] (spTurned K PC.C) := by
  refine F.okX scTurned (fun vs H Q E h => ?_) (fun cdv A outer s H vs Q E hr h => ?_)
  · obtain ⟨a, d, rfl, _⟩ := h
    rfl
  · obtain ⟨a, d, rfl, ka, kQ⟩ := h
    obtain ⟨dx, au, ar, a1, a2, a3⟩ := ka.ob
    obtain ⟨u1, u2, u3, u4, u5⟩ := planBad_use ka.ok
    have bB := FB.binds (ps := psB) fun _ _ _ _ _ _ us hl => match us, hl with | [_, _, _], _ => rfl
    refine ⟨_, pss_one (ps_ret (pe_meth (pv 0) PC.cl MB (ok_but FB T PC PM) hr bB .nil (passes_call (takes_of rfl rfl rfl rfl) (fun _ _ _ _ h => h)) (pa_cons pe_str (pa_cons (pe_revT (pe_fld (pv 0) rfl)) pa_nil)))), ?_⟩
    have nb : (pfs (.ref au) (.ref ar) d.c d.m d.l).lookup ("but" : Str) = none := by
      have e1 : (("but" : Str) == "sums") = false := by decide +kernel
      have e2 : (("but" : Str) == "order") = false := by decide +kernel
      have e3 : (("but" : Str) == "choice") = false := by decide +kernel
      have e4 : (("but" : Str) == "mends") = false := by decide +kernel
      have e5 : (("but" : Str) == "limit") = false := by decide +kernel
      simp [pfs, List.lookup, e1, e2, e3, e4, e5]
    have i1 := (order_use u2).2.1
    have io : d.r.reverse.all okV = true := by
      rw [List.all_reverse]
      exact int_ok i1
    have hne : ∀ {x y : Str}, ¬ x = y → ¬ (V.str x = V.str y) := fun h z => h (V.str.inj z)
    have q1 : bU d (.str "order") (.tup d.r.reverse) = .tup d.u := if_neg (hne (by decide +kernel))
    have q2 : bR d (.str "order") (.tup d.r.reverse) = .tup d.r.reverse := if_pos rfl
    have q3 : bC d (.str "order") (.tup d.r.reverse) = .fl d.c := if_neg (hne (by decide +kernel))
    have q4 : bM d (.str "order") (.tup d.r.reverse) = .fl d.m := if_neg (hne (by decide +kernel))
    have q5 : bL d (.str "order") (.tup d.r.reverse) = .fl d.l := if_neg (hne (by decide +kernel))
    refine ⟨_, rfl, a, dx, _, rfl, a1, nb, _, rfl, a, PC.C, dx, _, _, rfl, a1, PC.cl, PC.n2, pfs_r _ _ _ _ _, ar, d.r, rfl, a3, fun l hl => ?_⟩
    have s1 := same_upd (o := HO.tup d.r.reverse) hl
    refine ⟨a, d, .str "order", .fl (.str "order"), .ref l, .tup d.r.reverse, rfl, KW.Same.plan s1 ka, .fl (by decide +kernel), .tup (SqT.of upd_same) io, Nat.le_trans (Nat.le_of_eq (List.length_reverse)) (Nat.le_trans (order_use u2).1.2 (by decide)), fun k => ?_, fun _ wd k => ?_, fun _ e r1 r2 r3 r4 r5 q H' s2 hq kp => ?_⟩
    · exact absurd k (by rw [show oneOf (.str "order") allP = true by decide +kernel]; decide)
    · unfold butBad at k
      rw [q1, q2, q3, q4, q5, planBad_none u1 (order_rev u2) u3 u4 u5] at k
      cases k
    · have e3 : e = d.turned := by
        obtain ⟨x1, x2, x3, x4, x5⟩ := e
        have z1 := Dat.tup.inj (q1.symm.trans r1)
        have z2 := Dat.tup.inj (q2.symm.trans r2)
        have z3 := Dat.fl.inj (q3.symm.trans r3)
        have z4 := Dat.fl.inj (q4.symm.trans r4)
        have z5 := Dat.fl.inj (q5.symm.trans r5)
        dsimp only at z1 z2 z3 z4 z5
        unfold PD.turned
        rw [← z1, ← z2, ← z3, ← z4, ← z5]
      rw [e3] at kp
      exact kQ q H' (s1.trans s2) (s1.free hq) kp
end
end KW

set_option Elab.async false
set_option linter.all false
set_option maxRecDepth 100000
set_option maxHeartbeats 2000000
namespace KW
open PySem PySem.Spec PyProof.Rows L2 LamX OwnOp
/-! ## the law's drawing -/
theorem okInts (ns : List Int) : (ns.map V.int).all okV = true := okV_map ns
def tCells (K : PySem.W.Frag) : TE := fun σ H Q => ∃ (a : Addr) (ns : List Int), σ[0]? = some (some (.ref a)) ∧ SqL K H a (ns.map V.int) ∧ ns.length ≤ 63 ∧ ∀ (H' : Hp) (c : Addr) (ns2 : List Int), Same H H' → SqL K H' c (ns2.map V.int) → ns2 ≠ [] → ns2.length ≤ 63 → Q (.ref c) H'
theorem cut63 {xs : List V} (h : xs.length ≤ 63) : cutV xs none (some 63) = xs := by
  unfold cutV
  have e : HT.sIx xs.length xs.length (some 63) = xs.length := by
    show (if (63 : Int) < 0 then ((63 : Int) + (xs.length : Int)).toNat else min (63 : Int).toNat xs.length) = xs.length
    rw [if_neg (by decide)]
    show min 63 xs.length = xs.length
    omega
  rw [e, HT.sIx_none, List.drop_zero, Nat.sub_zero, List.take_length]
theorem cells_imp {X : Cx} {e : Expr} (h : PE X e (tIf (tTest (tOp (rNeD X.K) (tVar 0) (tLst tNil))) (tSl (rSlL X.K) (tVar 0) tNoPart (tPart (tC (.int 63)))) (tLst (tCons (tC (.int 5)) tNil)))) : PE X e (tCells X.K) := by
  refine ⟨fun pins s σ H Q I hh => h.run pins s σ H Q I ?_⟩
  obtain ⟨a, ns, h0, ha, hl, k⟩ := hh
  refine ⟨_, h0, by decide, fun p hp => ?_⟩
  have s1 := same_upd (o := HO.lst []) hp
  refine ⟨.list ((ns.map V.int).map toPy), .list (([] : List V).map toPy), .lst (s1.seq ha) (dpAll_ok (okInts ns)), .lst (SqL.of upd_same) .nil, shaped_lst (okInts ns), shaped_lst rfl, _, rfl, ?_⟩
  rw [eqv_lst (okInts ns) rfl]
  cases ns with
  | nil =>
    refine iteF ?_
    refine ⟨by decide, fun c hc => ?_⟩
    exact k _ c [5] (s1.trans (same_upd hc)) (SqL.of upd_same) (by simp) (by decide)
  | cons n ns =>
    refine iteT ?_
    refine ⟨_, h0, 63, rfl, a, _, rfl, s1.seq ha, fun c hc => ?_⟩
    have e := cut63 (xs := (n :: ns).map V.int) (by rw [List.length_map]; exact hl)
    exact k _ c (n :: ns) (s1.trans (same_upd hc)) (by rw [e]; exact SqL.of upd_same) (by simp) hl
def spNumber (K : PySem.W.Frag) : Sp := fun vs H Q _ => ∃ (a : Addr) (ns : List Int) (i : Int), vs = [.ref a, .int i] ∧ SqL K H a (ns.map V.int) ∧ ns.length ≤ 63 ∧ 0 ≤ i ∧ i < 10000 ∧ ∀ (H' : Hp) (z : Int), Same H H' → Q (.int z) H'
section
variable {P : Program} {w : World} {K : PySem.W.Frag} {mg : Str → Option Value} {base : Heap} {f : Addr} {fd : FuncData}
abbrev nsN : List Str := ["script", "index", "cells", "cell", "low", "high", "total", "blend"]
theorem scNumber : FnScope nsN ["script", "index"] (defScope sNumber) := ⟨rfl, rfl, rfl, by decide +kernel, rfl, by decide +kernel, by decide +kernel⟩
theorem ok_number (F : Fun K "_law_number" "_law_number" sNumber f fd) (B : Blt mg) : FnOk P w K mg base CX0 1 f fd ["script", "index"] (spNumber K) := by
  refine F.ok scNumber (fun vs H Q E h => ?_) (fun cdv A outer s H vs Q E hr h => ?_)
  · obtain ⟨a, ns, i, rfl, _⟩ := h
    rfl
  · obtain ⟨a, ns, i, rfl, ha, hl, i0, i1, k⟩ := h
    refine ⟨_, pss_cons (ps_set (i := 2) scNumber.nd rfl (Or.inl rfl) (cells_imp (pe_ifExp (pt_cmpR (op_neD hr.units) (pv 0) (pe_lst pa_nil) (nomark _)) (pe_slice sl_list (pv 0) po_none (po_some pe_int)) (pe_lst (pa_cons pe_int pa_nil)))))
      (pss_cons (ps_set (i := 3) scNumber.nd rfl (Or.inl rfl) (pe_op op_add (pe_ix ix_list (pv 2) (pe_op op_mod (pe_callTy call_int1 (by rfl) B.int PyProof.Rows.boot_int (pa_cons (pv 1) pa_nil)) (pe_callB call_len_seq (by rfl) B.len PySem.boot_len (pa_cons (pv 2) pa_nil))) (fun _ _ => rfl))
          (pe_op op_mul pe_int (pe_op op_fdiv (pv 1) (pe_callB call_len_seq (by rfl) B.len PySem.boot_len (pa_cons (pv 2) pa_nil))))))
      (pss_cons (ps_par (i := 4) (j := 5) rfl scNumber.nd rfl rfl (by decide) rfl rfl (pa_cons (pe_op op_mod (pe_callTy call_int1 (by rfl) B.int PyProof.Rows.boot_int (pa_cons (pv 3) pa_nil)) pe_int) (pa_cons (pe_op op_mod (pe_callTy call_int1 (by rfl) B.int PyProof.Rows.boot_int (pa_cons (pe_op op_fdiv (pv 3) pe_int) pa_nil)) pe_int) pa_nil)) (by rfl))
      (pss_cons (ps_set (i := 6) scNumber.nd rfl (Or.inl rfl) (pe_op op_mod (pe_callTy call_int1 (by rfl) B.int PyProof.Rows.boot_int (pa_cons (pe_callB (cr_sum rfl) (by rfl) B.sum (by decide +kernel) (pa_cons (pv 2) pa_nil)) pa_nil)) pe_int))
      (pss_cons (ps_set (i := 7) scNumber.nd rfl (Or.inl rfl) (pe_op op_mod (pe_callTy call_int1 (by rfl) B.int PyProof.Rows.boot_int (pa_cons (pe_op op_add (pe_op op_add (pe_op op_mul (pe_op op_add (pv 4) (pe_op op_mul pe_int (pv 1))) pe_int) (pe_op op_mul pe_int (pv 5))) (pv 6)) pa_nil)) pe_int))
      (pss_one (ps_ret (pe_op op_add (pe_op op_mul (pe_op op_mod (pe_callTy call_int1 (by rfl) B.int PyProof.Rows.boot_int (pa_cons (pe_op op_mul (pv 7) (pe_op op_add (pe_op op_add (pv 7) (pe_op op_mul pe_int (pv 1))) pe_int)) pa_nil)) pe_int) pe_int) (pv 5)))))))), ?_⟩
    refine ⟨a, ns, rfl, ha, hl, fun H1 c cs s1 hc hne hlc => ?_⟩
    have hpos : (0 : Int) < ((cs.map V.int).length : Int) := by
      rw [List.length_map]
      cases cs with
      | nil => exact absurd rfl hne
      | cons _ _ => simp
    have hsm : ((cs.map V.int).length : Int) < 1073741824 := by
      rw [List.length_map]
      omega
    obtain ⟨j, hj⟩ : ∃ j : Nat, i % ((cs.map V.int).length : Int) = (j : Int) := ⟨_, (Int.toNat_of_nonneg (Int.emod_nonneg _ (by omega))).symm⟩
    have hjl : j < cs.length := by
      have := Int.emod_lt_of_pos i hpos
      rw [hj, List.length_map] at this
      omega
    have hat : atI (cs.map V.int) (i % ((cs.map V.int).length : Int)) = some (.int cs[j]) := by
      rw [hj]
      refine atI_nat ?_
      rw [List.getElem?_map, List.getElem?_eq_getElem hjl]
      rfl
    refine ⟨_, rfl, _, rfl, .inl ⟨_, rfl, ?_⟩⟩
    refine ⟨_, rfl, c, _, rfl, .inl hc, _, _, rfl, rfl, hpos, c, _, _, _, rfl, rfl, hc, hat, ?_⟩
    refine ⟨_, rfl, _, rfl, c, _, rfl, .inl hc, _, _, rfl, rfl, ⟨hpos, hsm⟩, _, _, rfl, rfl, .inl ⟨by decide, by decide⟩, _, _, rfl, rfl, ?_⟩
    generalize cs[j] + 13 * (i / ((cs.map V.int).length : Int)) = cell
    -- low, high
    refine ⟨_, rfl, .inl ⟨_, rfl, _, _, rfl, rfl, (by show (0 : Int) < 1000003; decide), ?_⟩⟩
    refine ⟨_, rfl, _, _, rfl, rfl, ⟨by decide, by decide⟩, .inl ⟨_, rfl, _, _, rfl, rfl, (by show (0 : Int) < 999983; decide), _, _, rfl, ?_⟩⟩
    generalize hlow : cell % 1000003 = low
    generalize hhigh : cell / 1000003 % 999983 = high
    -- total
    refine ⟨_, rfl, c, cs, rfl, hc, .inl ⟨_, rfl, _, _, rfl, rfl, (by show (0 : Int) < 65521; decide), ?_⟩⟩
    generalize cs.sum % 65521 = total
    -- blend
    refine ⟨_, rfl, _, rfl, _, _, rfl, rfl, .inl ⟨by decide, by decide⟩, _, _, rfl, rfl, _, _, rfl, rfl, .inr ⟨by decide, by decide⟩, ?_⟩
    refine ⟨_, rfl, _, _, rfl, rfl, .inl ⟨by decide, by decide⟩, _, _, rfl, rfl, _, rfl, _, _, rfl, rfl, .inl ⟨_, rfl, _, _, rfl, rfl, (by show (0 : Int) < 2147483647; decide), ?_⟩⟩
    generalize hblend : ((low + 977 * i) * 48271 + 31 * high + total) % 2147483647 = blend
    have hb0 : 0 ≤ blend := by
      rw [← hblend]
      exact Int.emod_nonneg _ (by decide)
    have hb1 : blend < 2147483647 := by
      rw [← hblend]
      exact Int.emod_lt_of_pos _ (by decide)
    refine ⟨_, rfl, _, rfl, _, rfl, _, _, rfl, rfl, .inl ⟨by decide, by decide⟩, _, _, rfl, rfl, _, _, rfl, rfl, _, _, rfl, rfl, .inl ⟨by omega, by omega⟩, .inl ⟨_, rfl, _, _, rfl, rfl, (by show (0 : Int) < 2147483629; decide), ?_⟩⟩
    refine ⟨_, _, rfl, rfl, .inr ⟨by decide, by decide⟩, _, rfl, _, _, rfl, rfl, ?_⟩
    exact k _ _ s1
end
end KW

set_option Elab.async false
set_option linter.all false
set_option maxRecDepth 100000
set_option maxHeartbeats 2000000
namespace KW
open PySem PySem.Spec PyProof.Rows L2 LamX OwnOp
/-! ## what stays when a lambda is made -/
section
variable {K : PySem.W.Frag} {H H' H2 : Hp}
theorem ext_same (e : Same H H') : ExtN H H' := fun b o h _ => e b o h
theorem ext_sqT {a : Addr} {xs : List V} (e : ExtN H H') (h : SqT K H a xs) : SqT K H' a xs := by
  rcases h with (h | ⟨o, h⟩) | h
  · exact .inl (.inl (e _ _ h fun ps z => by cases z))
  · exact .inl (.inr ⟨o, e _ _ h fun ps z => by cases z⟩)
  · exact .inr h
theorem ext_sqL {a : Addr} {xs : List V} (e : ExtN H H') (h : SqL K H a xs) : SqL K H' a xs := by
  rcases h with (h | ⟨o, h⟩) | h
  · exact .inl (.inl (e _ _ h fun ps z => by cases z))
  · exact .inl (.inr ⟨o, e _ _ h fun ps z => by cases z⟩)
  · exact .inr h
theorem ext_is {v : V} {d : Dat} (e : ExtN H H') (h : Is K H v d) : Is K H' v d := by
  cases h with
  | fl h => exact .fl h
  | tup h hf => exact .tup (ext_sqT e h) hf
  | lst h hf => exact .lst (ext_sqL e h) hf
theorem ext_keep {C p : Addr} {d : KD} (e : ExtN H H') (h : KeepAt K C H p d) : KeepAt K C H' p d := by
  obtain ⟨dx, hr, h1, h2⟩ := h.ob
  exact ⟨⟨dx, hr, e _ _ h1 (fun ps z => by cases z), ext_sqT e h2⟩, h.ok⟩
theorem ext_plan {C p : Addr} {d : PD} (e : ExtN H H') (h : PlanAt K C H p d) : PlanAt K C H' p d := by
  obtain ⟨dx, hu, hr, h1, h2, h3⟩ := h.ob
  exact ⟨⟨dx, hu, hr, e _ _ h1 (fun ps z => by cases z), ext_sqT e h2, ext_sqT e h3⟩, h.ok⟩
theorem ext_tup {p : Addr} {xs : List V} (e : ExtN H H') (h : H p = some (.tup xs)) : H' p = some (.tup xs) := e _ _ h fun ps z => by cases z
theorem ext_free {p : Addr} (e : ExtN H H') (T : List (Addr × Str)) (hT : Tabs T H') (hp : H' p = none) (hT2 : ∀ ps, H p ≠ some (.tbl ps)) : H p = none := by
  cases q : H p with
  | none => rfl
  | some o =>
    rw [e p o q fun ps z => hT2 ps (by rw [q, z])] at hp
    cases hp
end
/-! ## a def whose code object is known -/
structure FunC (K : PySem.W.Frag) (x qual : Str) (st : Stmt) (f : Addr) (fd : FuncData) (c : Addr) : Prop where
  ex : ∃ (oc : Value) (od : Option Addr) (kV doc pm : Value) (an : Option Addr) (ct : Value) (osl : Array (Option Value)),
    fd = PySem.W.fnOf x qual (defArgs st) (defBody st) (defScope st) .none kV doc pm an (.ref c) ct ∧ K.lookup f = some ⟨oc, od, .func fd, osl⟩ ∧ PySem.W.codeIn K (.ref c) qual = true
  kp : PySem.W.keepIn K (.ref f) = true
section
variable {P : Program} {w : World} {K : PySem.W.Frag} {mg : Str → Option Value} {base : Heap} {f c : Addr} {fd : FuncData}
theorem FunC.fun {x qual : Str} {st : Stmt} (F : FunC K x qual st f fd c) : Fun K x qual st f fd := by
  obtain ⟨oc, od, kV, doc, pm, an, ct, osl, h1, h2, h3⟩ := F.ex
  exact ⟨⟨oc, od, kV, doc, pm, an, .ref c, ct, osl, h1, h2, h3⟩, F.kp⟩
theorem FunC.ok {x qual : Str} {st : Stmt} {N ps : List Str} {k : Nat} {sp : Sp} (F : FunC K x qual st f fd c) (S : FnScope N ps (defScope st)) (len : ∀ vs H Q E, sp vs H Q E → vs.length = ps.length)
    (hbody : ∀ (A : Around) (outer : List Env) (s : Shared) (H : Hp) (vs : List V) (Q : VK) (E : XK), Room k (A.deeper (envOfC qual (defScope st) s.heap.objs.size f (.ref c))) → sp vs H Q E →
      ∃ t, PSs (cxOf CX0 P w K mg base N qual (defScope st) f (.ref c) A outer s H E).nox (defBody st) t ∧ t { nx := fun _ H' => Q .non H', rt := Q } (L2.start N vs) H) : FnOk P w K mg base CX0 (k + 1) f fd ps sp := by
  obtain ⟨oc, od, kV, doc, pm, an, ct, osl, rfl, lk, hcd⟩ := F.ex
  refine fn_of lk hcd S len fun A outer s H vs Q E hr hsp => ?_
  obtain ⟨t, h, q⟩ := hbody A outer s H vs Q E hr hsp
  exact ⟨t, h.nox, q⟩
/-! ## _law_pick -/
def spPick (K : PySem.W.Frag) : Sp := fun vs H Q _ => ∃ (a : Addr) (ns : List Int) (i : Int) (g b : Addr) (gs bs : List V), vs = [.ref a, .int i, .ref g, .ref b] ∧ SqL K H a (ns.map V.int) ∧ ns.length ≤ 63 ∧ 0 ≤ i ∧ i < 10000 ∧ SqL K H g gs ∧ SqL K H b bs ∧ 0 < gs.length ∧ 0 < bs.length ∧
  gs.length ≤ 1000 ∧ bs.length ≤ 1000 ∧ ∀ (H' : Hp) (p : Addr) (x : V) (fit : Bool), Same H H' → H p = none → (fit = true → x ∈ gs) → (fit = false → x ∈ bs) → H' p = some (.tup [x, .bl fit]) → Q (.ref p) H'
abbrev nsPk : List Str := ["script", "at", "good", "bad", "seed", "some"]
theorem scPick : FnScope nsPk ["script", "at", "good", "bad"] (defScope sPick) := ⟨rfl, rfl, rfl, by decide +kernel, rfl, by decide +kernel, by decide +kernel⟩
theorem ok_pick (F : Fun K "_law_pick" "_law_pick" sPick f fd) (Nu : DefAt K mg "_law_number" "_law_number" sNumber) (B : Blt mg) : FnOk P w K mg base CX0 2 f fd ["script", "at", "good", "bad"] (spPick K) := by
  refine F.ok scPick (fun vs H Q E h => ?_) (fun cdv A outer s H vs Q E hr h => ?_)
  · obtain ⟨a, ns, i, g, b, gs, bs, rfl, _⟩ := h
    rfl
  · obtain ⟨a, ns, i, g, b, gs, bs, rfl, ha, hl, i0, i1, hg, hb, g0, b0, g1, b1, k⟩ := h
    have bN := Nu.F.binds (ps := ["script", "index"]) fun _ _ _ _ _ _ us hl => match us, hl with | [_, _], _ => rfl
    refine ⟨_, pss_cons (ps_set (i := 4) scPick.nd rfl (Or.inl rfl) (pe_callTy call_int1 (by rfl) B.int PyProof.Rows.boot_int (pa_cons (pe_call (ok_number Nu.F B) hr rfl Nu.g Nu.F.kp bN .nil pass0 (pa_cons (pv 0) (pa_cons (pv 1) pa_nil))) pa_nil)))
      (pss_cons (ps_set (i := 5) scPick.nd rfl (Or.inl rfl) (pe_pick (pt_cmpR op_eq (pe_op op_mod (pe_callTy call_int1 (by rfl) B.int PyProof.Rows.boot_int (pa_cons (pv 4) pa_nil)) pe_int) pe_int (nomark _)) (pv 3) (pv 2)))
      (pss_one (ps_ret (pe_tup (pa_cons (pe_ix ix_list (pv 5) (pe_op op_mod (pe_callTy call_int1 (by rfl) B.int PyProof.Rows.boot_int (pa_cons (pe_op op_fdiv (pv 4) pe_int) pa_nil)) (pe_callB call_len_seq (by rfl) B.len PySem.boot_len (pa_cons (pv 5) pa_nil))) (fun _ _ => rfl))
        (pa_cons (pe_cmpR op_gt (pe_op op_mod (pe_callTy call_int1 (by rfl) B.int PyProof.Rows.boot_int (pa_cons (pv 4) pa_nil)) pe_int) pe_int (nomark _)) pa_nil)))))), ?_⟩
    refine ⟨_, rfl, _, rfl, a, ns, i, rfl, ha, hl, i0, i1, fun H1 z s1 => .inl ⟨_, rfl, ?_⟩⟩
    refine ⟨_, rfl, .inl ⟨_, rfl, _, _, rfl, rfl, (by show (0 : Int) < 4; decide), rfl, _, rfl, _, _, ⟨_, rfl, rfl, rfl⟩, ⟨_, rfl, rfl, rfl⟩, ?_⟩⟩
    have hm0 : 0 ≤ z % 4 := Int.emod_nonneg _ (by decide)
    -- the two ways, with the chosen list
    have go : ∀ (c : Addr) (cs : List V) (fit : Bool), SqL K H1 c cs → 0 < cs.length → cs.length ≤ 1000 → decide (0 < z % 4) = fit → (∀ x ∈ cs, (fit = true → x ∈ gs) ∧ (fit = false → x ∈ bs)) →
        ∃ p xs j v, (V.ref c) = .ref p ∧ V.int (z / 4 % (cs.length : Int)) = .int j ∧ SqL K H1 p xs ∧ atI xs j = some v ∧ (2 ≤ sizeLine ∧ ∀ q, H1 q = none → Q (.ref q) (upd H1 q (.tup [v, .bl (decide (0 < z % 4))]))) := by
      intro c cs fit hc h0 h1 hf hm
      have hpos : (0 : Int) < (cs.length : Int) := by omega
      obtain ⟨j, hj⟩ : ∃ j : Nat, z / 4 % (cs.length : Int) = (j : Int) := ⟨_, (Int.toNat_of_nonneg (Int.emod_nonneg _ (by omega))).symm⟩
      have hjl : j < cs.length := by
        have := Int.emod_lt_of_pos (z / 4) hpos
        rw [hj] at this
        omega
      have hat : atI cs (z / 4 % (cs.length : Int)) = some cs[j] := by
        rw [hj]
        exact atI_nat (List.getElem?_eq_getElem hjl)
      refine ⟨c, cs, _, _, rfl, rfl, hc, hat, by decide, fun q hq => ?_⟩
      have hx := hm cs[j] (List.getElem_mem hjl)
      exact k _ q cs[j] (decide (0 < z % 4)) (s1.trans (same_upd hq)) (s1.free hq) (fun e => hx.1 (hf.symm.trans e)) (fun e => hx.2 (hf.symm.trans e)) upd_same
    by_cases c4 : z % 4 = 0
    · rw [decide_eq_true (by rw [c4] : V.int (z % 4) = V.int 0)]
      obtain ⟨p, xs, j, v, e1, e2, e3, e4, e5, e6⟩ := go b bs false (s1.seq hb) b0 b1 (decide_eq_false (by omega)) (fun x hx => ⟨fun q => (nomatch q), fun _ => hx⟩)
      refine ⟨_, rfl, _, rfl, _, _, rfl, rfl, ⟨by decide, by decide⟩, .inl ⟨_, rfl, _, rfl, b, bs, rfl, .inl (s1.seq hb), _, _, rfl, rfl, (by show (0 : Int) < (bs.length : Int); omega), p, xs, j, v, e1, e2, e3, e4, ?_⟩⟩
      exact ⟨_, rfl, .inl ⟨_, rfl, _, _, rfl, rfl, (by show (0 : Int) < 4; decide), _, _, rfl, rfl, e5, e6⟩⟩
    · rw [decide_eq_false (fun q => c4 (V.int.inj q) : ¬ V.int (z % 4) = V.int 0)]
      obtain ⟨p, xs, j, v, e1, e2, e3, e4, e5, e6⟩ := go g gs true (s1.seq hg) g0 g1 (decide_eq_true (by omega)) (fun x hx => ⟨fun _ => hx, fun q => (nomatch q)⟩)
      refine ⟨_, rfl, _, rfl, _, _, rfl, rfl, ⟨by decide, by decide⟩, .inl ⟨_, rfl, _, rfl, g, gs, rfl, .inl (s1.seq hg), _, _, rfl, rfl, (by show (0 : Int) < (gs.length : Int); omega), p, xs, j, v, e1, e2, e3, e4, ?_⟩⟩
      exact ⟨_, rfl, .inl ⟨_, rfl, _, _, rfl, rfl, (by show (0 : Int) < 4; decide), _, _, rfl, rfl, e5, e6⟩⟩
end
end KW

set_option Elab.async false
set_option linter.all false
set_option maxRecDepth 100000
set_option maxHeartbeats 2000000
namespace KW
open PySem PySem.Spec PyProof.Rows L2 LamX OwnOp ClX
/-! ## all of Keep, all of Plan, as the law uses them -/
structure MethD (K : PySem.W.Frag) (C : Addr) (x qual : Str) (st : Stmt) where
  f : Addr
  fd : FuncData
  F : Fun K x qual st f fd
  m : Spm K C x f
  kp : PySem.W.keepIn K (.ref f) = true
structure KAll (K : PySem.W.Frag) (mg : Str → Option Value) where
  T : Parts K mg
  KC : KCls K mg
  KM : KMk K mg KC.C
  KI : KIsi K KC.C
  eq : MethD K KC.C "__eq__" "Keep.__eq__" sKEq
  len : MethD K KC.C "__len__" "Keep.__len__" sKLen
  cont : MethD K KC.C "__contains__" "Keep.__contains__" sKIn
  add : MethD K KC.C "__add__" "Keep.__add__" sKAdd
  sub : MethD K KC.C "__sub__" "Keep.__sub__" sKSub
  hn : PySem.W.findIn K (.ref KC.C) "__ne__" = some (some (.builtin "object.__ne__"))
  hc : PySem.W.selfFirst K KC.C = true
  hi : PySem.W.subIn K (.type "int") (.ref KC.C) = some false
  ra : PySem.W.findIn K (.ref KC.C) "__radd__" = some none
  rs : PySem.W.findIn K (.ref KC.C) "__rsub__" = some none
  fF : Addr
  fdF : FuncData
  FF : FKF K fF fdF
  mc : Value
  pF : Addr
  cr : CRead K KC.C mc
  cm : CMet K KC.C mc "full" pF fF
section
variable {P : Program} {w : World} {K : PySem.W.Frag} {mg : Str → Option Value} {base : Heap}
theorem KAll.okEq (A : KAll K mg) : FnOk P w K mg base CX0 1 A.eq.f A.eq.fd ["self", "other"] (spKEq K A.KC.C) := ok_kEq A.eq.F A.T.B A.KC A.KI
theorem KAll.okLen (A : KAll K mg) : FnOk P w K mg base CX0 1 A.len.f A.len.fd ["self"] (spKLen K A.KC.C) := ok_kLen A.len.F A.T.B A.KC
theorem KAll.okIn (A : KAll K mg) : FnOk P w K mg base CX0 2 A.cont.f A.cont.fd ["self", "x"] (spKIn K A.KC.C) := ok_kIn A.cont.F A.T A.KC
theorem KAll.okAdd (A : KAll K mg) : FnOk P w K mg base (L2.CX P w) 7 A.add.f A.add.fd ["self", "other"] (spKAdd K A.KC.C A.T.BK.C) := ok_kAdd A.add.F A.T A.KC A.KM
theorem KAll.okSub (A : KAll K mg) : FnOk P w K mg base (L2.CX P w) 7 A.sub.f A.sub.fd ["self", "other"] (spKSub K A.KC.C A.T.BK.C) := ok_kSub A.sub.F A.T A.KC A.KM
theorem KAll.okFull (A : KAll K mg) : FnOk P w K mg base (L2.CX P w) 7 A.fF A.fdF psF (spKFull K A.KC.C) := ok_kFull A.FF A.T A.KC A.KM
theorem KAll.okI (A : KAll K mg) : FnOk P w K mg base (L2.CX P w) 5 A.KM.fI A.KM.fd psK (spKInit K A.KC.C A.T.BK.C) := ok_kI A.T A.KC A.KM
theorem KAll.bEq (A : KAll K mg) : Binds K A.eq.fd ["self", "other"] [] := A.eq.F.binds (ps := ["self", "other"]) fun _ _ _ _ _ _ us hl => match us, hl with | [_, _], _ => rfl
theorem KAll.bLen (A : KAll K mg) : Binds K A.len.fd ["self"] [] := A.len.F.binds (ps := ["self"]) fun _ _ _ _ _ _ us hl => match us, hl with | [_], _ => rfl
theorem KAll.bIn (A : KAll K mg) : Binds K A.cont.fd ["self", "x"] [] := A.cont.F.binds (ps := ["self", "x"]) fun _ _ _ _ _ _ us hl => match us, hl with | [_, _], _ => rfl
theorem KAll.bAdd (A : KAll K mg) : Binds K A.add.fd ["self", "other"] [] := A.add.F.binds (ps := ["self", "other"]) fun _ _ _ _ _ _ us hl => match us, hl with | [_, _], _ => rfl
theorem KAll.bSub (A : KAll K mg) : Binds K A.sub.fd ["self", "other"] [] := A.sub.F.binds (ps := ["self", "other"]) fun _ _ _ _ _ _ us hl => match us, hl with | [_, _], _ => rfl
/-- the operators, in a def of the law or in a lambda's body -/
theorem KAll.opAdd (A : KAll K mg) {X : Cx} {E : XK} (e1 : X.K = K) (e2 : X.mg = mg) (hr : Room 7 X.A) (hx : Passes (L2.CX X.prog X.w) X E) : OpR X (binaryOp .Add) (rOwnOp A.KC.C (spKAdd K A.KC.C A.T.BK.C) E) := by
  subst e1 e2
  exact op_bin_own opn_add A.okAdd hr A.add.m A.bAdd hx A.hc A.hi A.ra
theorem KAll.opSub (A : KAll K mg) {X : Cx} {E : XK} (e1 : X.K = K) (e2 : X.mg = mg) (hr : Room 7 X.A) (hx : Passes (L2.CX X.prog X.w) X E) : OpR X (binaryOp .Sub) (rOwnOp A.KC.C (spKSub K A.KC.C A.T.BK.C) E) := by
  subst e1 e2
  exact op_bin_own opn_sub A.okSub hr A.sub.m A.bSub hx A.hc A.hi A.rs
theorem KAll.opEq (A : KAll K mg) {X : Cx} (e1 : X.K = K) (e2 : X.mg = mg) (hr : Room 1 X.A) : OpR X (compareOp .Eq) (rOwn A.KC.C (spKEq K A.KC.C) E0 id) := by
  subst e1 e2
  exact op_eq_own A.okEq hr A.eq.m A.bEq pass0
theorem KAll.opNe (A : KAll K mg) {X : Cx} (e1 : X.K = K) (e2 : X.mg = mg) (hr : Room 2 X.A) : OpR X (compareOp .NotEq) (rOwn A.KC.C (spKEq K A.KC.C) E0 not) := by
  subst e1 e2
  exact op_ne_own A.okEq hr A.eq.m A.bEq pass0 A.KI.hm A.hn
theorem KAll.opIn (A : KAll K mg) {X : Cx} (e1 : X.K = K) (e2 : X.mg = mg) (hr : Room 2 X.A) : OpR X (compareOp .In) (rOwnIn A.KC.C (spKIn K A.KC.C) E0) := by
  subst e1 e2
  exact op_in_own A.okIn hr A.cont.m A.bIn pass0
theorem KAll.callLen (A : KAll K mg) {X : Cx} (e1 : X.K = K) (e2 : X.mg = mg) (hr : Room 2 X.A) : CallR X (.builtin "len") (rOwnLen A.KC.C (spKLen K A.KC.C) E0) := by
  subst e1 e2
  exact call_len_own A.okLen hr A.len.m A.bLen pass0
/-- == of two keeps: read from left to right -/
theorem rd_eq {C : Addr} {H : Hp} {Q : VK} {g : Bool → Bool} {a b : Addr} {d e : KD} (ka : KeepAt K C H a d) (kb : KeepAt K C H b e) (h : Q (.bl (g (decide (d = e)))) H) : rOwn C (spKEq K C) E0 g (.ref a) (.ref b) H Q := by
  obtain ⟨dx, hr, a1, _⟩ := ka.ob
  obtain ⟨dy, hs, b1, _⟩ := kb.ob
  exact ⟨a, b, dx, _, dy, _, rfl, rfl, a1, b1, a, b, d, e, rfl, ka, kb, _, rfl, h⟩
end
/-! ## _law_part, asked with a lambda -/
structure PartD (K : PySem.W.Frag) (mg : Str → Option Value) where
  g : Addr
  cdv : Value
  hm : mg "_law_part" = some (.ref g)
  hk : PySem.W.keepIn K (.ref g) = true
  lk : ∃ (oc : Value) (od : Option Addr) (dV kV doc pm : Value) (an : Option Addr) (ct : Value) (osl : Array (Option Value)), K.lookup g = some ⟨oc, od, .func (PySem.W.fnOf "_law_part" "_law_part" (defArgs sPart) (defBody sPart) (defScope sPart) dV kV doc pm an cdv ct), osl⟩ ∧
    L2.Binds K (PySem.W.fnOf "_law_part" "_law_part" (defArgs sPart) (defBody sPart) (defScope sPart) dV kV doc pm an cdv ct) ["ask"] []
  hcg : PySem.W.codeIn K cdv "_law_part" = true
  CH : Addr
  gH : mg "HarmError" = some (.ref CH)
theorem scPart : FnScope ["ask", "error"] ["ask"] (defScope sPart) := ⟨rfl, rfl, rfl, by decide +kernel, rfl, by decide +kernel, by decide +kernel⟩
section
variable {X : Cx}
theorem pe_part {T : List (Addr × Str)} {c P : Addr} {k : Nat} {params : Arguments} {body : Expr} {scope : Scope} {t : XK → TE} {p lpos pos : Pos} (D : PartD X.K X.mg) (Tp : Parts X.K X.mg) (hg : Gl X "_law_part")
    (TB : TabB X.base X.mg c P) (hcode : X.env.code = .ref c) (hmT : (P, X.env.qual ++ "<lambda>") ∈ T) (hu : ∀ p ∈ T, p.1 = P → p.2 = X.env.qual ++ "<lambda>") (hr : Room (k + 2) X.A) (L : LamS X.env.scope scope) (hdef : defaultsOf params X.env = ([], []))
    (hbind : ∀ (q : Str) (cl : List (Str × Addr)) (pm cv ctv : Value), bindArgs (PySem.W.kla_fn "<lambda>" q params body scope cl pm cv ctv) ⟨[], []⟩ = pure [])
    (hbody : ∀ (A : Around) (outer : List Env) (s : Shared) (H : Hp) (E : XK) (f c' : Addr), Room k (A.deeper (lamEnv X scope s.heap.objs.size f c')) → PE (lamCx X A outer s H E scope f c') body (t E)) :
    PE X (.Call (.Name "_law_part" p) [.Lambda params body scope lpos] [] pos) (tLam T (TPart X.K D.CH Tp.BK.C Tp.BP.C) t) := by
  obtain ⟨oc, od, dV, kV, doc, pm, an, ct, osl, h1, h2⟩ := D.lk
  exact pe_lamcall hg D.hm D.hk h1 D.hcg h2 scPart rfl (Or.inl rfl) (part_gives D.gH Tp.BK.g Tp.BP.g Tp.B.isi) TB hcode hmT hu hr L hdef hbind hbody
end
/-- which class an error is -/
structure Told (K : PySem.W.Frag) (CH CK CP : Addr) : Prop where
  xK : ExcC K CK
  fK : XfC K CK
  nK : PySem.W.findIn K (.ref CK) "part" = some none
  eK : PySem.W.exmOne K (.ref CK) (.ref CH) = some true
  k1 : PySem.W.kitOne K (.ref CK) (.ref CK) = some true
  k2 : PySem.W.kitOne K (.ref CK) (.ref CP) = some false
  xP : ExcC K CP
  fP : XfC K CP
  nP : PySem.W.findIn K (.ref CP) "part" = some none
  eP : PySem.W.exmOne K (.ref CP) (.ref CH) = some true
  p1 : PySem.W.kitOne K (.ref CP) (.ref CK) = some false
  p2 : PySem.W.kitOne K (.ref CP) (.ref CP) = some true
/-- the wish of _law_part for an error of BadKeep, of BadPlan -/
theorem Told.keep {K : PySem.W.Frag} {CH CK CP : Addr} (t : Told K CH CK CP) {d : Addr} {v : V} {H : Hp} {Q : VK} (hd : H d = some (.xd [("part", v)])) (h : Q v H) :
    ∃ (D dd : Addr) (v : V) (b1 b2 : Bool), (Value.ref CK) = .ref D ∧ ExcC K D ∧ XfC K D ∧ PySem.W.findIn K (.ref D) "part" = some none ∧ PySem.W.exmOne K (.ref CK) (.ref CH) = some true ∧
    some d = some dd ∧ H dd = some (.xd [("part", v)]) ∧ PySem.W.kitOne K (.ref D) (.ref CK) = some b1 ∧ PySem.W.kitOne K (.ref D) (.ref CP) = some b2 ∧ b1 ≠ b2 ∧ Q v H :=
  ⟨CK, d, v, true, false, rfl, t.xK, t.fK, t.nK, t.eK, rfl, hd, t.k1, t.k2, by decide, h⟩
theorem Told.plan {K : PySem.W.Frag} {CH CK CP : Addr} (t : Told K CH CK CP) {d : Addr} {v : V} {H : Hp} {Q : VK} (hd : H d = some (.xd [("part", v)])) (h : Q v H) :
    ∃ (D dd : Addr) (v : V) (b1 b2 : Bool), (Value.ref CP) = .ref D ∧ ExcC K D ∧ XfC K D ∧ PySem.W.findIn K (.ref D) "part" = some none ∧ PySem.W.exmOne K (.ref CP) (.ref CH) = some true ∧
    some d = some dd ∧ H dd = some (.xd [("part", v)]) ∧ PySem.W.kitOne K (.ref D) (.ref CK) = some b1 ∧ PySem.W.kitOne K (.ref D) (.ref CP) = some b2 ∧ b1 ≠ b2 ∧ Q v H :=
  ⟨CP, d, v, false, true, rfl, t.xP, t.fP, t.nP, t.eP, rfl, hd, t.p1, t.p2, by decide, h⟩
end KW

set_option Elab.async false
set_option linter.all false
set_option maxRecDepth 100000
set_option maxHeartbeats 2000000
namespace KW
open PySem PySem.Spec PyProof.Rows L2 LamX OwnOp
/-! ## the mathematics of words: harms sorted, one more, one fewer -/
def ixV (x : V) : Nat := if x = .str "astray" then 0 else if x = .str "late" then 1 else if x = .str "lost" then 2 else if x = .str "torn" then 3 else 4
theorem allH_cases {x : V} (h : x ∈ allH) : x = .str "astray" ∨ x = .str "late" ∨ x = .str "lost" ∨ x = .str "torn" ∨ x = .str "worn" := by
  simpa [allH] using h
theorem ix_inj {x y : V} (hx : x ∈ allH) (hy : y ∈ allH) (h : ixV x = ixV y) : x = y := by
  have e0 : ixV (.str "astray") = 0 := by decide +kernel
  have e1 : ixV (.str "late") = 1 := by decide +kernel
  have e2 : ixV (.str "lost") = 2 := by decide +kernel
  have e3 : ixV (.str "torn") = 3 := by decide +kernel
  have e4 : ixV (.str "worn") = 4 := by decide +kernel
  rcases allH_cases hx with rfl | rfl | rfl | rfl | rfl <;> rcases allH_cases hy with rfl | rfl | rfl | rfl | rfl <;> first | rfl | (simp only [e0, e1, e2, e3, e4] at h; omega)
theorem lt_ix {p x : Str} (hp : V.str p ∈ allH) (hx : V.str x ∈ allH) (h : (ltCps x.cps.toList p.cps.toList) = false) : ixV (.str p) ≤ ixV (.str x) := by
  have key : ∀ p ∈ (["astray", "late", "lost", "torn", "worn"] : List Str), ∀ x ∈ (["astray", "late", "lost", "torn", "worn"] : List Str), ltCps x.cps.toList p.cps.toList = false → ixV (.str p) ≤ ixV (.str x) := by decide +kernel
  have mem : ∀ {z : Str}, V.str z ∈ allH → z ∈ (["astray", "late", "lost", "torn", "worn"] : List Str) := fun {z} hz => by
    rcases allH_cases hz with e | e | e | e | e <;> rw [V.str.inj e] <;> simp
  exact key p (mem hp) x (mem hx) h
theorem rising_pw : ∀ (p : Str) (l : List Str), (∀ x ∈ p :: l, V.str x ∈ allH) → risingS p l = true → (p :: l).Pairwise (fun x y => ixV (.str x) ≤ ixV (.str y))
  | p, [], _, _ => List.pairwise_singleton _ _
  | p, x :: r, hm, h => by
    have h' : (!ltCps x.cps.toList p.cps.toList && risingS x r) = true := h
    rw [Bool.and_eq_true, Bool.not_eq_true'] at h'
    have ih := rising_pw x r (fun y hy => hm y (List.mem_cons_of_mem _ hy)) h'.2
    have l1 := lt_ix (hm p (List.mem_cons_self ..)) (hm x (List.mem_cons_of_mem _ (List.mem_cons_self ..))) h'.1
    refine List.pairwise_cons.mpr ⟨fun y hy => ?_, ih⟩
    rcases List.mem_cons.mp hy with rfl | hy
    · exact l1
    · exact Nat.le_trans l1 ((List.pairwise_cons.mp ih).1 y hy)
theorem sorted_pw {l : List Str} (hm : ∀ x ∈ l, V.str x ∈ allH) (h : sortedS l = true) : (l.map V.str).Pairwise (fun x y => ixV x ≤ ixV y) := by
  rw [List.pairwise_map]
  cases l with
  | nil => exact .nil
  | cons p r => exact rising_pw p r hm h
theorem allH_pw : allH.Pairwise (fun x y => ixV x ≤ ixV y) := by decide +kernel
theorem allH_nd : allH.Nodup := by decide +kernel
theorem harmsFor_sub (db : Dat) : (harmsFor db).Sublist allH := List.filter_sublist
theorem hs_sub {hs : List V} {db : Dat} (h : areHarms (.tup hs) db = true) : hs.Sublist (harmsFor db) := by
  have e := (harms_use h).2
  have : ((harmsFor db).filter fun x => inV x hs).Sublist (harmsFor db) := List.filter_sublist
  rwa [← e] at this
theorem hs_nd {hs : List V} {db : Dat} (h : areHarms (.tup hs) db = true) : hs.Nodup := allH_nd.sublist ((hs_sub h).trans (harmsFor_sub db))
/-- the harms and one word, sorted -/
theorem sorted_add {d : KD} (bad : d.bad = none) {z : Str} (hz : V.str z ∈ harmsFor (.fl (.int d.b))) {ys : List Str} {xs : List Str} (hx : xs.map V.str = (d.sub (.str z)).hs ++ [V.str z]) (hp : ys.Perm xs) (hs : sortedS ys = true) : ys.map V.str = (d.add (.str z)).hs := by
  have ua := (KD.use bad).2.2.1
  have hsub := hs_sub ua
  have hnd := hs_nd ua
  have p1 : (ys.map V.str).Perm ((d.sub (.str z)).hs ++ [V.str z]) := by
    rw [← hx]
    exact hp.map _
  have tsub : (d.add (.str z)).hs.Sublist (harmsFor (.fl (.int d.b))) := List.filter_sublist
  have mem1 : ∀ x, x ∈ (d.sub (.str z)).hs ++ [V.str z] ↔ x ∈ (d.add (.str z)).hs := fun x => by
    show x ∈ (d.hs.filter fun y => !decide (y = V.str z)) ++ [V.str z] ↔ x ∈ (harmsFor (.fl (.int d.b))).filter fun y => decide (y = V.str z) || inV y d.hs
    rw [List.mem_append, List.mem_filter, List.mem_filter, List.mem_singleton, Bool.or_eq_true, decide_eq_true_iff]
    constructor
    · rintro (⟨h1, h2⟩ | rfl)
      · have hm := hsub.subset h1
        refine ⟨hm, .inr ?_⟩
        rw [inV_str (List.all_eq_true.mp (harms_str _) x hm) (harms_strs ua)]
        exact decide_eq_true h1
      · exact ⟨hz, .inl rfl⟩
    · rintro ⟨h1, h2 | h2⟩
      · exact .inr h2
      · by_cases e : x = V.str z
        · exact .inr e
        · refine .inl ⟨?_, by rw [decide_eq_false e]; rfl⟩
          rw [inV_str (List.all_eq_true.mp (harms_str _) x h1) (harms_strs ua)] at h2
          exact of_decide_eq_true h2
  have nd1 : ((d.sub (.str z)).hs ++ [V.str z]).Nodup := by
    rw [List.nodup_append]
    refine ⟨hnd.sublist List.filter_sublist, by simp, fun a ha b hb => ?_⟩
    rw [List.mem_singleton] at hb
    subst hb
    have := (List.mem_filter.mp ha).2
    intro e
    rw [decide_eq_true e] at this
    cases this
  have nd2 : (d.add (.str z)).hs.Nodup := allH_nd.sublist (tsub.trans (harmsFor_sub _))
  have p2 : (ys.map V.str).Perm (d.add (.str z)).hs := p1.trans ((List.perm_ext_iff_of_nodup nd1 nd2).mpr mem1)
  have inH : ∀ x ∈ (d.add (.str z)).hs, x ∈ allH := fun x hx => (harmsFor_sub _).subset (tsub.subset hx)
  have ysH : ∀ y ∈ ys, V.str y ∈ allH := fun y hy => inH _ (p2.subset (List.mem_map.mpr ⟨y, hy, rfl⟩))
  refine p2.eq_of_pairwise (fun x y hx hy h1 h2 => ?_) (sorted_pw ysH hs) (allH_pw.sublist (tsub.trans (harmsFor_sub _)))
  refine ix_inj ?_ ?_ (Nat.le_antisymm h1 h2)
  · first | exact inH x (p2.subset hx) | exact inH x hx
  · first | exact inH y hy | exact inH y (p2.subset hy)
/-- one more and one fewer of the same -/
theorem add_sub {d : KD} (bad : d.bad = none) (x : V) : (d.add x).sub x = d.sub x := by
  have ua := (KD.use bad).2.2.1
  have e : ((harmsFor (.fl (.int d.b))).filter fun y => decide (y = x) || inV y d.hs).filter (fun y => !decide (y = x)) = d.hs.filter fun y => !decide (y = x) := by
    calc ((harmsFor (.fl (.int d.b))).filter fun y => decide (y = x) || inV y d.hs).filter (fun y => !decide (y = x))
        = (harmsFor (.fl (.int d.b))).filter fun y => (!decide (y = x)) && (decide (y = x) || inV y d.hs) := List.filter_filter
      _ = (harmsFor (.fl (.int d.b))).filter fun y => (!decide (y = x)) && inV y d.hs := by
          refine List.filter_congr fun y _ => ?_
          cases decide (y = x) <;> simp
      _ = ((harmsFor (.fl (.int d.b))).filter fun y => inV y d.hs).filter fun y => !decide (y = x) := List.filter_filter.symm
      _ = _ := by rw [← (harms_use ua).2]
  show ({ ({ d with hs := (harmsFor (.fl (.int d.b))).filter fun y => decide (y = x) || inV y d.hs } : KD) with hs := ((harmsFor (.fl (.int d.b))).filter fun y => decide (y = x) || inV y d.hs).filter fun y => !decide (y = x) } : KD) = { d with hs := d.hs.filter fun y => !decide (y = x) }
  rw [e]
/-- the keep is as it was just if it had not the word -/
theorem sub_same {d : KD} {x : V} (hx : strV x = true) (hd : d.hs.all strV = true) : decide (d.sub x = d) = !inV x d.hs := by
  rw [inV_str hx hd]
  by_cases h : x ∈ d.hs
  · rw [decide_eq_true h, decide_eq_false]
    · rfl
    · intro e
      have e2 : d.hs.filter (fun y => !decide (y = x)) = d.hs := congrArg KD.hs e
      rw [← e2] at h
      have := (List.mem_filter.mp h).2
      rw [decide_eq_true rfl] at this
      cases this
  · rw [decide_eq_false h, decide_eq_true]
    · rfl
    · have e2 : d.hs.filter (fun y => !decide (y = x)) = d.hs := List.filter_eq_self.mpr fun y hy => by
        have hne : ¬ y = x := fun e => h (by rw [← e]; exact hy)
        rw [decide_eq_false hne]
        rfl
      show ({ d with hs := d.hs.filter fun y => !decide (y = x) } : KD) = d
      rw [e2]
end KW

set_option Elab.async false
set_option linter.all false
set_option maxRecDepth 100000
set_option maxHeartbeats 4000000
namespace KW
open PySem PySem.Spec PyProof.Rows L2 LamX OwnOp
/-! ## _law_operators_right -/
def lamQ (x : Str) : Str := (x ++ (".<locals>." : Str)) ++ ("<lambda>" : Str)
/-- the table of the def x stands at P, and no other def's does -/
structure InTabs (T : List (Addr × Str)) (x : Str) (P : Addr) : Prop where
  mem : (P, lamQ x) ∈ T
  one : ∀ p ∈ T, p.1 = P → p.2 = lamQ x
/-- what is asked as a word: a text, None or an int -/
def wordV : V → Bool
  | .str z => PySem.PyData.strOk z
  | .non => true
  | .int _ => true
  | _ => false
theorem wordV.ok {x : V} (h : wordV x = true) : okV x = true := by cases x <;> first | rfl | exact h | cases h
theorem wordV.op {x : V} (h : wordV x = true) : (∃ z, x = .str z) ∨ x = .non ∨ ∃ i, x = .int i := by
  cases x <;> first | exact .inl ⟨_, rfl⟩ | exact .inr (.inl rfl) | exact .inr (.inr ⟨_, rfl⟩) | cases h
def spOpR (K : PySem.W.Frag) (C : Addr) (T : List (Addr × Str)) : Sp := fun vs H Q _ => ∃ (a : Addr) (d : KD) (x : V), vs = [.ref a, x] ∧ KeepAt K C H a d ∧ wordV x = true ∧ Tabs T H ∧ ∀ H', ExtN H H' → Tabs T H' → Q (.bl true) H'
abbrev nsO : List Str := ["keep", "word", "less", "due", "more", "one"]
theorem oneOf_no {x : V} {ws : List V} (h : inV x ws = false) : oneOf x ws = false := by
  cases x <;> first | rfl | exact h
theorem inV_sub {x : V} {ws vs : List V} (hs : ∀ y ∈ vs, y ∈ ws) (h : inV x ws = false) : inV x vs = false := by
  unfold inV at h ⊢
  rw [List.any_eq_false] at h ⊢
  exact fun y hy => h y (hs y hy)
def unS : V → Str
  | .str z => z
  | _ => ""
theorem map_unS : ∀ {xs : List V}, xs.all strV = true → (xs.map unS).map V.str = xs
  | [], _ => rfl
  | x :: xs, h => by
    rw [List.all_cons, Bool.and_eq_true] at h
    cases x with
    | str i =>
      show V.str i :: (xs.map unS).map V.str = _
      rw [map_unS h.2]
    | _ => cases h.1
theorem and_no {c : Bool} {U B : Prop} (hU : c = true → B → U) (h : B) : if c = true then U else B := by
  cases c with
  | true => exact iteT (hU rfl h)
  | false => exact iteF h
/-- t + u: some tuple that holds both -/
def rCatB (K : PySem.W.Frag) : R2 := fun x y H Q => ∃ a b xs ys, x = .ref a ∧ y = .ref b ∧ SqT K H a xs ∧ SqT K H b ys ∧ xs.length + ys.length ≤ sizeLine ∧ ∀ H' r, Same H H' → SqT K H' r (xs ++ ys) → Q (.ref r) H'
theorem op_catB {X : Cx} : OpR X (binaryOp .Add) (rCatB X.K) := by
  intro pins s σ H x y v u Q I rx ry h
  obtain ⟨a, b, xs, ys, rfl, rfl, ha, hb, hz, q⟩ := h
  refine op_catA pins s σ H _ _ v u Q I rx ry ⟨a, b, xs, ys, rfl, rfl, ha, hb, hz, fun e => ?_, fun _ e => ?_, fun _ _ p hp => ?_⟩
  · subst e
    exact q H b (Same.refl _) hb
  · subst e
    refine q H a (Same.refl _) ?_
    rw [List.append_nil]
    exact ha
  · exact q _ p (same_upd hp) (SqT.of upd_same)
theorem keep_mkR {K : PySem.W.Frag} {C CB : Addr} {H : Hp} {R : Addr → VK} {E : XK} {s b h m : V} {ds db dh dm : Dat} (hs : Is K H s ds) (hb : Is K H b db) (hh : Is K H h dh) (hm : Is K H m dm) (hsh : short dh)
    (hE : ∀ wd, keepBad ds db dh dm = some wd → ∀ d H', Same H H' → H' d = some (.xd [("part", .str wd)]) → E (.ref CB) (some d) H')
    (hQ : ∀ d : KD, s = .int d.s → b = .int d.b → dh = .tup d.hs → m = .int d.m → ∀ p H', Same H H' → H p = none → KeepAt K C H' p d → R p .non H') :
    ∀ x dx, H x = none → H dx = none → dx ≠ x → spKInit K C CB [.ref x, s, b, h, m] (upd (upd H dx (.own x)) x (.ins C dx [])) (R x) E := by
  intro x dx hx hdx hne
  have s0 : Same H (upd (upd H dx (.own x)) x (.ins C dx [])) := fun c o e => by
    rw [upd_ne (ne_of_none e hx), upd_ne (ne_of_none e hdx)]
    exact e
  refine ⟨x, dx, s, b, h, m, ds, db, dh, dm, rfl, upd_same, KW.Same.is s0 hs, KW.Same.is s0 hb, KW.Same.is s0 hh, KW.Same.is s0 hm, hsh, fun wd k d H' s1 hd => hE wd k d H' (s0.trans s1) hd, fun k H' old new => ?_⟩
  have s1 : Same H H' := fun c o e => old c o (s0 c o e) (ne_of_none e hx)
  obtain ⟨d, hr, rfl, rfl, rfl, rfl, t, bad, e1, e2, e3, e4⟩ := keep_parts hs hb hh hm k
  exact hQ d rfl rfl e3 rfl x H' s1 hx ⟨⟨dx, hr, new, KW.Same.sqT s1 t⟩, bad⟩
theorem plan_mkR {K : PySem.W.Frag} {C CB : Addr} {H : Hp} {R : Addr → VK} {E : XK} {u r c m l : V} {du dr dc dm dl : Dat} (hu : Is K H u du) (hr : Is K H r dr) (hc : Is K H c dc) (hm : Is K H m dm) (hl : Is K H l dl) (su : short du) (sr : short dr)
    (hE : ∀ wd, planBad du dr dc dm dl = some wd → ∀ d H', Same H H' → H' d = some (.xd [("part", .str wd)]) → E (.ref CB) (some d) H')
    (hQ : ∀ d : PD, du = .tup d.u → dr = .tup d.r → dc = .fl d.c → dm = .fl d.m → dl = .fl d.l → ∀ p H', Same H H' → H p = none → PlanAt K C H' p d → R p .non H') :
    ∀ x dx, H x = none → H dx = none → dx ≠ x → spPInit K C CB [.ref x, u, r, c, m, l] (upd (upd H dx (.own x)) x (.ins C dx [])) (R x) E := by
  intro x dx hx hdx hne
  have s0 : Same H (upd (upd H dx (.own x)) x (.ins C dx [])) := fun c o e => by
    rw [upd_ne (ne_of_none e hx), upd_ne (ne_of_none e hdx)]
    exact e
  refine ⟨x, dx, u, r, c, m, l, du, dr, dc, dm, dl, rfl, upd_same, KW.Same.is s0 hu, KW.Same.is s0 hr, KW.Same.is s0 hc, KW.Same.is s0 hm, KW.Same.is s0 hl, su, sr, fun wd k d H' s1 hd => hE wd k d H' (s0.trans s1) hd, fun k H' old new => ?_⟩
  have s1 : Same H H' := fun c o e => old c o (s0 c o e) (ne_of_none e hx)
  obtain ⟨d, pu, pr, rfl, rfl, rfl, rfl, rfl, t1, t2, bad, e1, e2, e3, e4, e5⟩ := plan_parts hu hr hc hm hl k
  exact hQ d e1 e2 e3 e4 e5 x H' s1 hx ⟨⟨dx, pu, pr, new, KW.Same.sqT s1 t1, KW.Same.sqT s1 t2⟩, bad⟩
section
variable {P : Program} {w : World} {K : PySem.W.Frag} {mg : Str → Option Value} {base : Heap} {f c P0 : Addr} {fd : FuncData} {T : List (Addr × Str)}
theorem scOpR : FnScope nsO ["keep", "word"] (defScope sOpR) := ⟨rfl, rfl, rfl, by decide +kernel, rfl, by decide +kernel, by decide +kernel⟩
theorem ok_opR (F : FunC K "_law_operators_right" "_law_operators_right" sOpR f fd c) (A : KAll K mg) (D : PartD K mg) (Td : Told K D.CH A.T.BK.C A.T.BP.C) (TB : TabB base mg c P0) (hT : InTabs T "_law_operators_right" P0) :
    FnOk P w K mg base CX0 10 f fd ["keep", "word"] (spOpR K A.KC.C T) := by
  refine F.ok scOpR (fun vs H Q E h => ?_) (fun Ar outer s H vs Q E hr h => ?_)
  · obtain ⟨a, d, x, rfl, _⟩ := h
    rfl
  · obtain ⟨a, d, x, rfl, ka, hx, hTb, kQ⟩ := h
    have hr7 : Room 7 _ := hr.mono (by decide)
    have hr6 : Room 6 _ := hr.mono (by decide)
    have hr2 : Room 2 _ := hr.mono (by decide)
    have hr1 : Room 1 _ := hr.mono (by decide)
    obtain ⟨its, mv, kb⟩ := kb4 A.KM.F
    obtain ⟨dx, h1, a1, a2⟩ := ka.ob
    have ua := KD.use ka.ok
    refine ⟨_, pss_cons (ps_if (pt_cmpR op_notIn_seq (pv 1) (pe_tup (pa_cons pe_str (pa_cons pe_str (pa_cons pe_str (pa_cons pe_str (pa_cons pe_str pa_nil)))))) (by rfl))
        (pss_cons (ps_if (pt_cmpR op_ne (pe_part (T := T) (t := fun E => tOp (rOwnOp A.KC.C (spKAdd K A.KC.C A.T.BK.C) E) (tVar 0) (tVar 1)) D A.T rfl TB rfl hT.mem hT.one hr (lamS_by (show lamSB (defScope sOpR) _ = true by decide +kernel)) rfl (fun _ _ _ _ _ => rfl) (fun A1 o1 s1 H1 E1 f1 c1 hr1 => pe_op (A.opAdd rfl rfl hr1 (passes_call (takes_of rfl rfl rfl rfl) (fun _ _ _ _ h => h))) (pv 0) (pv 1))) pe_str (nomark _)) (pss_one (ps_ret pe_bl)) pss_nil)
        (pss_one (ps_ret (pe_cmpR op_eq (pe_part (T := T) (t := fun E => tOp (rOwnOp A.KC.C (spKSub K A.KC.C A.T.BK.C) E) (tVar 0) (tVar 1)) D A.T rfl TB rfl hT.mem hT.one hr (lamS_by (show lamSB (defScope sOpR) _ = true by decide +kernel)) rfl (fun _ _ _ _ _ => rfl) (fun A1 o1 s1 H1 E1 f1 c1 hr1 => pe_op (A.opSub rfl rfl hr1 (passes_call (takes_of rfl rfl rfl rfl) (fun _ _ _ _ h => h))) (pv 0) (pv 1))) pe_str (nomark _))))) pss_nil)
      (pss_cons (ps_set (i := 2) scOpR.nd rfl (Or.inl rfl) (pe_op (A.opSub rfl rfl hr7 passL) (pv 0) (pv 1)))
      (pss_cons (ps_set (i := 3) scOpR.nd rfl (Or.inl rfl) (pe_callTy call_tuple_of (by rfl) A.T.B.tuple PyProof.Rows.boot_tuple (pa_cons (pe_lc (own := [("one", 5)]) (g := gName 5) (by rfl) scOpR.nd (pi_tup (pe_fld (pv 0) rfl))
          (blkOk_by (own := [("one", 5)]) (N := nsO) (sc := defScope sOpR) (by decide +kernel)) (fun _ _ _ _ _ => pg_name (i := 5) scOpR.nd rfl (Or.inl rfl))
          (fun _ _ _ _ _ => pts_one (pt_cmpR op_ne (pv 5) (pv 1) (nomark _))) (fun _ _ _ _ _ => pv 5)) pa_nil)))
      (pss_cons (ps_if (PW.pt (pw_or (pt_cmpR (A.opNe rfl rfl hr2) (pv 2) (pe_makeK A.KM.M A.okI hr6 rfl A.KC.g kb passL (pa_cons (pe_fld (pv 0) rfl) (pa_cons (pe_fld (pv 0) rfl) (pa_cons (pv 3) pa_nil))) (pk_cons (pe_fld (pv 0) rfl) pk_nil)) (nomark _))
          (pw_or1 (pt_cmpR op_ne (pe_cmpR (A.opEq rfl rfl hr1) (pv 2) (pv 0) (nomark _)) (pe_cmpR op_notIn_seq (pv 1) (pe_fld (pv 0) rfl) (by rfl)) (nomark _))))) (pss_one (ps_ret pe_bl)) pss_nil)
      (pss_cons (ps_if (PW.pt (pw_and (pt_cmpR op_eq (pv 1) pe_str (nomark _)) (pw_and1 (pt_cmpR op_eq (pe_fld (pv 0) rfl) pe_int (nomark _)))))
          (pss_one (ps_ret (pe_cmpR op_eq (pe_part (T := T) (t := fun E => tOp (rOwnOp A.KC.C (spKAdd K A.KC.C A.T.BK.C) E) (tVar 0) (tVar 1)) D A.T rfl TB rfl hT.mem hT.one hr (lamS_by (show lamSB (defScope sOpR) _ = true by decide +kernel)) rfl (fun _ _ _ _ _ => rfl) (fun A1 o1 s1 H1 E1 f1 c1 hr1 => pe_op (A.opAdd rfl rfl hr1 (passes_call (takes_of rfl rfl rfl rfl) (fun _ _ _ _ h => h))) (pv 0) (pv 1))) pe_str (nomark _)))) pss_nil)
      (pss_cons (ps_set (i := 4) scOpR.nd rfl (Or.inl rfl) (pe_makeK A.KM.M A.okI hr6 rfl A.KC.g kb passL (pa_cons (pe_fld (pv 0) rfl) (pa_cons (pe_fld (pv 0) rfl) (pa_cons (pe_callTy call_tuple_of (by rfl) A.T.B.tuple PyProof.Rows.boot_tuple
          (pa_cons (pe_callB cr_sortedTS (by rfl) A.T.B.sorted (by decide +kernel) (pa_cons (pe_op op_catB (pv 3) (pe_tup (pa_cons (pv 1) pa_nil))) pa_nil)) pa_nil)) pa_nil))) (pk_cons (pe_fld (pv 0) rfl) pk_nil)))
      (pss_one (ps_ret (pe_and (pe_cmpR (A.opEq rfl rfl hr1) (pe_op (A.opAdd rfl rfl hr7 passL) (pv 0) (pv 1)) (pv 4) (nomark _)) (pe_one (pe_cmpR (A.opEq rfl rfl hr1) (pe_op (A.opSub rfl rfl hr7 passL) (pe_op (A.opAdd rfl rfl hr7 passL) (pv 0) (pv 1)) (pv 1)) (pv 2) (nomark _))))))))))), ?_⟩
    refine ⟨_, rfl, (by decide), fun p hp => ?_⟩
    have s1 := same_upd (o := HO.tup allH) hp
    have t1 := hTb.ext s1
    refine ⟨p, allH, rfl, .inr (SqT.of upd_same), okV.flat (wordV.ok hx), okV.all strOkAll, _, rfl, ?_⟩
    cases e1 : inV x allH with
    | false =>
      refine iteT ?_
      have nA : oneOf x (harmsFor (.fl (.int d.b))) = false := oneOf_no (inV_sub (harms_sub _) e1)
      have nS : oneOf x allH = false := oneOf_no e1
      have k1 := KW.Same.keep s1 ka
      refine ⟨t1, fun H1 x1 t2 => ?_⟩
      have k2 := ext_keep x1 k1
      obtain ⟨dy, hy, b1, b2⟩ := k2.ob
      refine ⟨_, rfl, _, rfl, a, _, _, rfl, b1, wordV.op hx, a, d, x, .fl x, rfl, k2, .fl (wordV.ok hx), fun _ e H' s2 he => ?_, fun q => by rw [nA] at q; cases q⟩
      refine ⟨A.T.BK.C, e, .str "HARMS", true, false, rfl, Td.xK, Td.fK, Td.nK, Td.eK, rfl, he, Td.k1, Td.k2, by decide, ?_⟩
      refine ⟨rfl, _, rfl, ?_⟩
      refine iteF ?_
      have x2 := ext_same s2
      have t3 := t2.ext s2
      refine ⟨t3, fun H2 x3 t4 => ?_⟩
      have k3 := ext_keep x3 (ext_keep x2 k2)
      obtain ⟨dz, hz, c1, c2⟩ := k3.ob
      refine ⟨_, rfl, _, rfl, a, _, _, rfl, c1, wordV.op hx, a, d, x, .fl x, rfl, k3, .fl (wordV.ok hx), fun _ e H' s3 he => ?_, fun q => by rw [nS] at q; cases q⟩
      refine ⟨A.T.BK.C, e, .str "HARMS", true, false, rfl, Td.xK, Td.fK, Td.nK, Td.eK, rfl, he, Td.k1, Td.k2, by decide, ?_⟩
      refine ⟨rfl, ?_⟩
      exact kQ _ ((ext_same s1).trans (x1.trans (x2.trans (x3.trans (ext_same s3))))) (t4.ext s3)
    | true =>
      refine iteF ?_
      have oS : oneOf x allH = true := by
        have hs := wordV.op hx
        rcases hs with ⟨z, rfl⟩ | rfl | ⟨i, rfl⟩
        · exact e1
        · exact absurd e1 (by decide)
        · exact absurd e1 (by unfold inV allH; simp [eqV])
      obtain ⟨z, rfl⟩ : ∃ z, x = .str z := by
        have e := oneOf_str oS
        cases x <;> first | exact ⟨_, rfl⟩ | cases e
      have k1 := KW.Same.keep s1 ka
      have oZ : okV (.str z) = true := wordV.ok hx
      refine ⟨_, rfl, _, rfl, a, _, _, rfl, s1 _ _ a1, wordV.op hx, a, d, .str z, .fl (.str z), rfl, k1, .fl oZ, (fun q => by rw [oS] at q; cases q), fun _ L H1 s2 hL kl => ⟨L, rfl, ?_⟩⟩
      have k2 := KW.Same.keep s2 k1
      have t2 := t1.ext s2
      have z2 := s1.trans s2
      -- due
      refine ⟨_, rfl, a, A.KC.C, dx, _, _, rfl, z2 _ _ a1, A.KC.cl, A.KC.n3, kfs_h _ _ _ _, h1, rfl, ⟨_, KW.Same.sqT z2 a2⟩, fun Dl hDl => ?_⟩
      refine lc_selT (c := fun y => !decide (y = V.str z)) (gf := fun y => y) (KW.Same.sqT z2 a2) hDl (Nat.le_trans (harms_le ua.2.2.1) (by decide)) (fun y => rfl) (fun y hy H3 s3 R hR => ?_) (fun y hy hc H3 s3 R hR => ⟨_, rfl, hR _ (Same.refl _)⟩) (fun H3 s3 hd3 => ?_)
      · obtain ⟨q, rfl⟩ := str_of_mem (harms_strs ua.2.2.1) hy
        exact ⟨_, rfl, _, rfl, rfl, _, rfl, hR _ (Same.refl _)⟩
      rw [sel_id] at hd3
      refine ⟨Dl, _, rfl, .inl ⟨SqL.of hd3, fun U hU => ?_⟩⟩
      have s4 := same_upd (o := HO.tup (d.hs.filter fun y => !decide (y = V.str z))) hU
      have hUt : SqT K (upd H3 U (.tup (d.hs.filter fun y => !decide (y = V.str z)))) U (d.sub (.str z)).hs := SqT.of upd_same
      have z4 := z2.trans (s3.trans s4)
      have kl4 := KW.Same.keep (s3.trans s4) kl
      have k4 := KW.Same.keep (s3.trans s4) k2
      have t4 := t2.ext (s3.trans s4)
      have okh : areHarms (.tup (d.sub (.str z)).hs) (.fl (.int d.b)) = true := areHarms_sub ua.2.2.1 _
      have badS : (d.sub (.str z)).bad = none := KD.bad_with ka.ok okh
      -- less != Keep(..)
      refine ⟨_, rfl, _, rfl, a, A.KC.C, dx, _, _, rfl, z4 _ _ a1, A.KC.cl, A.KC.n1, kfs_s _ _ _ _, _, rfl, a, A.KC.C, dx, _, _, rfl, z4 _ _ a1, A.KC.cl, A.KC.n2, kfs_b _ _ _ _, _, rfl, _, rfl, a, A.KC.C, dx, _, _, rfl, z4 _ _ a1, A.KC.cl, A.KC.n4, kfs_m _ _ _ _, rfl, rfl, ?_⟩
      refine keep_mkR (ds := .fl (.int d.s)) (db := .fl (.int d.b)) (dh := .tup (d.sub (.str z)).hs) (dm := .fl (.int d.m)) (.fl rfl) (.fl rfl) (.tup hUt (harms_oks okh)) (.fl rfl) (Nat.le_trans (harms_le okh) (by decide)) (fun wd k => ?_) (fun d' q1 q2 q3 q4 m5 H5 s5 hm5 km5 => ?_)
      · rw [show keepBad (.fl (.int d.s)) (.fl (.int d.b)) (.tup (d.sub (.str z)).hs) (.fl (.int d.m)) = none from badS] at k
        cases k
      have e5 : d' = d.sub (.str z) := kd_ext (V.int.inj q1) (V.int.inj q2) (Dat.tup.inj q3) (V.int.inj q4)
      subst e5
      have kl5 := KW.Same.keep s5 kl4
      have k5 := KW.Same.keep s5 k4
      have t5 := t4.ext s5
      have z5 := z4.trans s5
      refine ⟨rfl, rd_eq kl5 km5 ⟨_, rfl, ?_⟩⟩
      refine iteBF (by rw [decide_eq_true rfl]; rfl) ?_
      refine ⟨_, rfl, _, rfl, rd_eq kl5 k5 ?_⟩
      refine ⟨_, rfl, _, rfl, a, A.KC.C, dx, _, _, rfl, z5 _ _ a1, A.KC.cl, A.KC.n3, kfs_h _ _ _ _, h1, d.hs, rfl, .inr (KW.Same.sqT z5 a2), rfl, okV.all (harms_oks ua.2.2.1), rfl, _, rfl, ?_⟩
      refine iteBF ?_ ?_
      · show (!decide (V.bl (decide (d.sub (.str z) = d)) = V.bl (!inV (.str z) d.hs))) = false
        rw [sub_same rfl (harms_strs ua.2.2.1), decide_eq_true rfl]
        rfl
      -- word == 'astray' and keep.blocks == 1
      have opt : oneOf (.str z) (harmsFor (.fl (.int d.b))) = true ∨ (z = "astray" ∧ d.b = 1) := by
        by_cases ez : V.str z = wAstray
        · by_cases eb : d.b = 1
          · exact .inr ⟨V.str.inj ez, eb⟩
          · refine .inl ?_
            rw [oneOf_is (harms_str _)]
            refine decide_eq_true (List.mem_filter.mpr ⟨?_, ?_⟩)
            · rw [oneOf_is (show allH.all strV = true from rfl)] at oS
              exact of_decide_eq_true oS
            · show (!decide (V.str z = wAstray) || decide (2 ≤ d.b ∧ d.b ≤ 2)) = true
              rw [decide_eq_true (show 2 ≤ d.b ∧ d.b ≤ 2 by omega), Bool.or_true]
        · refine .inl ?_
          rw [oneOf_is (harms_str _)]
          refine decide_eq_true (List.mem_filter.mpr ⟨?_, ?_⟩)
          · rw [oneOf_is (show allH.all strV = true from rfl)] at oS
            exact of_decide_eq_true oS
          · show (!decide (V.str z = wAstray) || _) = true
            rw [decide_eq_false ez]
            rfl
      refine ⟨_, rfl, rfl, _, rfl, ?_⟩
      by_cases hA : z = "astray" ∧ d.b = 1
      · refine iteB (decide_eq_true (congrArg V.str hA.1)) ?_
        refine ⟨_, rfl, a, A.KC.C, dx, _, _, rfl, z5 _ _ a1, A.KC.cl, A.KC.n2, kfs_b _ _ _ _, rfl, _, rfl, ?_⟩
        refine iteB (decide_eq_true (congrArg V.int hA.2)) ?_
        refine ⟨t5, fun H6 x6 t6 => ?_⟩
        have k6 := ext_keep x6 k5
        obtain ⟨dz, hz, c1, c2⟩ := k6.ob
        have nA : oneOf (.str z) (harmsFor (.fl (.int d.b))) = false := by
          rw [oneOf_is (harms_str _)]
          refine decide_eq_false fun q => ?_
          have q2 : (!decide (V.str z = wAstray) || decide (2 ≤ d.b ∧ d.b ≤ 2)) = true := (List.mem_filter.mp q).2
          rw [decide_eq_true (show V.str z = wAstray from congrArg V.str hA.1), decide_eq_false (show ¬ (2 ≤ d.b ∧ d.b ≤ 2) by omega)] at q2
          cases q2
        refine ⟨_, rfl, _, rfl, a, _, _, rfl, c1, wordV.op hx, a, d, .str z, .fl (.str z), rfl, k6, .fl oZ, fun _ e H' s7 he => ?_, fun q => by rw [nA] at q; cases q⟩
        refine ⟨A.T.BK.C, e, .str "HARMS", true, false, rfl, Td.xK, Td.fK, Td.nK, Td.eK, rfl, he, Td.k1, Td.k2, by decide, ?_⟩
        refine ⟨rfl, ?_⟩
        exact kQ _ ((ext_same z5).trans (x6.trans (ext_same s7))) (t6.ext s7)
      · have yA : oneOf (.str z) (harmsFor (.fl (.int d.b))) = true := opt.resolve_right hA
        refine and_no (fun hc hB => ?_) ?_
        · have hz : z = "astray" := V.str.inj (of_decide_eq_true hc)
          refine ⟨_, rfl, a, A.KC.C, dx, _, _, rfl, z5 _ _ a1, A.KC.cl, A.KC.n2, kfs_b _ _ _ _, rfl, _, rfl, ?_⟩
          exact iteBF (decide_eq_false fun q => hA ⟨hz, V.int.inj q⟩) hB
        · refine iteF ?_
          have hzm : V.str z ∈ harmsFor (.fl (.int d.b)) := by
            rw [oneOf_is (harms_str _)] at yA
            exact of_decide_eq_true yA
          -- more
          refine ⟨_, rfl, a, A.KC.C, dx, _, _, rfl, z5 _ _ a1, A.KC.cl, A.KC.n1, kfs_s _ _ _ _, _, rfl, a, A.KC.C, dx, _, _, rfl, z5 _ _ a1, A.KC.cl, A.KC.n2, kfs_b _ _ _ _, ?_⟩
          have hU5 := KW.Same.sqT s5 hUt
          refine ⟨_, rfl, _, rfl, (by show 1 ≤ sizeLine; decide), fun W hW => ?_⟩
          have s6 := same_upd (o := HO.tup [V.str z]) hW
          have lS : (d.sub (.str z)).hs.length ≤ 5 := harms_le okh
          refine ⟨U, W, _, _, rfl, rfl, KW.Same.sqT s6 hU5, SqT.of upd_same, Nat.le_of_lt (small1000 (by show (d.sub (.str z)).hs.length + 1 ≤ 1000; omega)), fun H7 r s7 hr7 => ?_⟩
          obtain ⟨xs, hxs⟩ : ∃ xs : List Str, xs.map V.str = (d.sub (.str z)).hs ++ [V.str z] := by
            have hall : ((d.sub (.str z)).hs ++ [V.str z]).all strV = true := by
              rw [List.all_append, harms_strs okh]
              rfl
            exact ⟨_, map_unS hall⟩
          have hlx : xs.length < 64 := by
            have := congrArg List.length hxs
            rw [List.length_map, List.length_append] at this
            have e2 : [V.str z].length = 1 := rfl
            omega
          refine ⟨r, xs, rfl, by rw [hxs]; exact hr7, hlx, fun ys q8 p8 o8 hq8 => ?_⟩
          have eY := sorted_add ka.ok hzm hxs p8 o8
          have s8 := same_upd (o := HO.lst (ys.map V.str)) hq8
          refine ⟨q8, _, rfl, .inl ⟨SqL.of upd_same, fun l9 hl9 => ?_⟩⟩
          have s9 := same_upd (o := HO.tup (ys.map V.str)) hl9
          have z9 := z5.trans (s6.trans (s7.trans (s8.trans s9)))
          have okA : areHarms (.tup (d.add (.str z)).hs) (.fl (.int d.b)) = true := areHarms_filter _ _
          have h9 : SqT K (upd (upd H7 q8 (.lst (ys.map V.str))) l9 (.tup (ys.map V.str))) l9 (d.add (.str z)).hs := by
            rw [← eY]
            exact SqT.of upd_same
          refine ⟨_, rfl, a, A.KC.C, dx, _, _, rfl, z9 _ _ a1, A.KC.cl, A.KC.n4, kfs_m _ _ _ _, rfl, rfl, ?_⟩
          refine keep_mkR (ds := .fl (.int d.s)) (db := .fl (.int d.b)) (dh := .tup (d.add (.str z)).hs) (dm := .fl (.int d.m)) (.fl rfl) (.fl rfl) (.tup h9 (harms_oks okA)) (.fl rfl) (Nat.le_trans (harms_le okA) (by decide)) (fun wd k => ?_) (fun d' q1 q2 q3 q4 mA HA sA hmA kmA => ?_)
          · rw [show keepBad (.fl (.int d.s)) (.fl (.int d.b)) (.tup (d.add (.str z)).hs) (.fl (.int d.m)) = none from KD.bad_with ka.ok okA] at k
            cases k
          have eA : d' = d.add (.str z) := kd_ext (V.int.inj q1) (V.int.inj q2) (Dat.tup.inj q3) (V.int.inj q4)
          subst eA
          have zA := z9.trans sA
          have sLA := s6.trans (s7.trans (s8.trans (s9.trans sA)))
          have kA := KW.Same.keep zA ka
          have klA := KW.Same.keep sLA kl5
          have tA := t5.ext sLA
          refine ⟨rfl, ?_⟩
          -- keep + word == more
          refine ⟨_, rfl, _, rfl, a, _, _, rfl, zA _ _ a1, wordV.op hx, a, d, .str z, .fl (.str z), rfl, kA, .fl oZ, (fun q => by rw [yA] at q; cases q), fun _ p1 HB sB hB kB => ⟨p1, rfl, ?_⟩⟩
          refine ⟨_, rfl, rd_eq kB (KW.Same.keep sB kmA) ⟨_, rfl, ?_⟩⟩
          refine iteB (decide_eq_true rfl) ?_
          have zB := zA.trans sB
          have kC := KW.Same.keep sB kA
          refine ⟨_, rfl, _, rfl, a, _, _, rfl, zB _ _ a1, wordV.op hx, a, d, .str z, .fl (.str z), rfl, kC, .fl oZ, (fun q => by rw [yA] at q; cases q), fun _ p2 HC sC hC kD => ⟨p2, rfl, ?_⟩⟩
          obtain ⟨dw, hw, w1, w2⟩ := kD.ob
          refine ⟨_, rfl, p2, _, _, rfl, w1, wordV.op hx, p2, d.add (.str z), .str z, .fl (.str z), rfl, kD, .fl oZ, (fun q => by rw [oS] at q; cases q), fun _ p3 HD sD hD kE => ⟨p3, rfl, ?_⟩⟩
          have sF := sB.trans (sC.trans sD)
          refine ⟨_, rfl, rd_eq kE (KW.Same.keep sF klA) ?_⟩
          show Q (.bl (decide ((d.add (.str z)).sub (.str z) = d.sub (.str z)))) HD
          rw [add_sub ka.ok, decide_eq_true rfl]
          exact kQ _ (ext_same (zA.trans sF)) (tA.ext sF)
end
end KW

set_option Elab.async false
set_option linter.all false
set_option maxRecDepth 100000
set_option maxHeartbeats 4000000
namespace KW
open PySem PySem.Spec PyProof.Rows L2 LamX OwnOp
/-! ## the menus of _law_keep_right -/
def oddV (t : Addr) : List V := [.non, .bl true, .str "1", .ref t, .int 0, .int 9, .int (-1)]
theorem mem2 {α : Type} {x a b : α} (h : x ∈ [a, b]) : x = a ∨ x = b := by simpa using h
theorem mem3 {α : Type} {x a b c : α} (h : x ∈ [a, b, c]) : x = a ∨ x = b ∨ x = c := by simpa using h
section
variable {K : PySem.W.Frag} {H : Hp} {t : Addr} {x : V} {fit : Bool}
theorem pick_int {lo hi : Int} {gs : List V} {extra : List V} (ht : SqT K H t [.int 1]) (hg : fit = true → x ∈ gs) (hb : fit = false → x ∈ oddV t ++ extra) (g1 : ∀ y ∈ gs, okV y = true ∧ betw (.fl y) lo hi = true) (b1 : ∀ y ∈ extra, okV y = true ∧ betw (.fl y) lo hi = false)
    (l0 : 0 < lo) (h9 : hi < 9) : ∃ d, Is K H x d ∧ betw d lo hi = fit := by
  cases fit with
  | true =>
    obtain ⟨h1, h2⟩ := g1 x (hg rfl)
    exact ⟨_, .fl h1, h2⟩
  | false =>
    rcases List.mem_append.mp (hb rfl) with h | h
    · unfold oddV at h
      simp only [List.mem_cons, List.not_mem_nil, or_false] at h
      rcases h with rfl | rfl | rfl | rfl | rfl | rfl | rfl
      · exact ⟨_, .fl rfl, rfl⟩
      · exact ⟨_, .fl rfl, rfl⟩
      · exact ⟨_, .fl (by decide +kernel), rfl⟩
      · exact ⟨_, .tup ht rfl, rfl⟩
      · exact ⟨_, .fl rfl, decide_eq_false (by omega)⟩
      · exact ⟨_, .fl rfl, decide_eq_false (by omega)⟩
      · exact ⟨_, .fl rfl, decide_eq_false (by omega)⟩
    · obtain ⟨h1, h2⟩ := b1 x h
      exact ⟨_, .fl h1, h2⟩
/-- the words by one bool -/
def hf (b : Bool) : List V := allH.filter fun w => !decide (w = wAstray) || b
theorem harmsFor_hf (db : Dat) : harmsFor db = hf (betw db 2 2) := rfl
def ah (xs : List V) (b : Bool) : Bool := xs.all (fun x => oneOf x (hf b)) && decide (xs = (hf b).filter fun x => inV x xs)
theorem areHarms_ah (xs : List V) (db : Dat) : areHarms (.tup xs) db = ah xs (betw db 2 2) := rfl
/-- a drawn tuple of harms -/
structure HarmD (K : PySem.W.Frag) (H : Hp) (x : V) (d : Dat) (fit : Bool) : Prop where
  is_ : Is K H x d
  sh : short d
  eq : ∀ db, areHarms d db = fit
  as : fit = true → ∃ xs, d = .tup xs ∧ xs.length ≤ 4 ∧ ∀ db, areHarms (.tup (wAstray :: xs)) db = betw db 2 2
theorem harm_good {p : Addr} {xs : List V} (h : SqT K H p xs) (ok : xs.all okV = true) (hl : xs.length ≤ 4) (h1 : ∀ b, ah xs b = true) (h2 : ∀ b, ah (wAstray :: xs) b = b) : HarmD K H (.ref p) (.tup xs) true :=
  ⟨.tup h ok, Nat.le_trans hl (by decide), fun db => h1 _, fun _ => ⟨xs, rfl, hl, fun db => h2 _⟩⟩
theorem harm_bad {p : Addr} {xs : List V} (h : SqT K H p xs) (ok : xs.all okV = true) (hl : xs.length ≤ 4) (h1 : ∀ b, ah xs b = false) : HarmD K H (.ref p) (.tup xs) false :=
  ⟨.tup h ok, Nat.le_trans hl (by decide), fun db => h1 _, fun q => nomatch q⟩
/-- what the four, the five lists and tuples of the menu are -/
structure HMenu (K : PySem.W.Frag) (H : Hp) (g0 g1 g2 g3 b1 b2 b3 b4 b6 b7 : Addr) : Prop where
  g0 : SqT K H g0 []
  g1 : SqT K H g1 [.str "late"]
  g2 : SqT K H g2 [.str "lost", .str "torn"]
  g3 : SqT K H g3 [.str "late", .str "lost", .str "torn", .str "worn"]
  b1 : SqL K H b1 [.str "late"]
  b2 : SqT K H b2 [.str "torn", .str "lost"]
  b3 : SqT K H b3 [.str "late", .str "late"]
  b4 : SqT K H b4 [.str "done"]
  b6 : SqT K H b6 [.non]
  b7 : SqT K H b7 [.str "Late"]
theorem pick_harm {g0 g1 g2 g3 b1 b2 b3 b4 b6 b7 : Addr} (M : HMenu K H g0 g1 g2 g3 b1 b2 b3 b4 b6 b7) (hg : fit = true → x ∈ [V.ref g0, .ref g1, .ref g2, .ref g3]) (hb : fit = false → x ∈ [V.non, .ref b1, .ref b2, .ref b3, .ref b4, .str "late", .ref b6, .ref b7]) : ∃ d, HarmD K H x d fit := by
  cases fit with
  | true =>
    have h := hg rfl
    simp only [List.mem_cons, List.not_mem_nil, or_false] at h
    rcases h with rfl | rfl | rfl | rfl
    · exact ⟨_, harm_good M.g0 (by decide +kernel) (by decide) (by decide +kernel) (by decide +kernel)⟩
    · exact ⟨_, harm_good M.g1 (by decide +kernel) (by decide) (by decide +kernel) (by decide +kernel)⟩
    · exact ⟨_, harm_good M.g2 (by decide +kernel) (by decide) (by decide +kernel) (by decide +kernel)⟩
    · exact ⟨_, harm_good M.g3 (by decide +kernel) (by decide) (by decide +kernel) (by decide +kernel)⟩
  | false =>
    have h := hb rfl
    simp only [List.mem_cons, List.not_mem_nil, or_false] at h
    rcases h with rfl | rfl | rfl | rfl | rfl | rfl | rfl | rfl
    · exact ⟨.fl .non, .fl rfl, trivial, fun _ => rfl, fun q => nomatch q⟩
    · exact ⟨.lst [.str "late"], .lst M.b1 (by decide +kernel), (by show 1 ≤ 1000; decide), fun _ => rfl, fun q => nomatch q⟩
    · exact ⟨_, harm_bad M.b2 (by decide +kernel) (by decide) (by decide +kernel)⟩
    · exact ⟨_, harm_bad M.b3 (by decide +kernel) (by decide) (by decide +kernel)⟩
    · exact ⟨_, harm_bad M.b4 (by decide +kernel) (by decide) (by decide +kernel)⟩
    · exact ⟨.fl (.str "late"), .fl (by decide +kernel), trivial, fun _ => rfl, fun q => nomatch q⟩
    · exact ⟨_, harm_bad M.b6 (by decide +kernel) (by decide) (by decide +kernel)⟩
    · exact ⟨_, harm_bad M.b7 (by decide +kernel) (by decide) (by decide +kernel)⟩
theorem pick_top (hg : fit = true → x ∈ [V.int 0, .int 1, .int 2]) (hb : fit = false → x ∈ [V.non, .bl false, .int 3, .int (-1), .str "2"]) : ∃ d, Is K H x d ∧ betw d 0 2 = fit := by
  cases fit with
  | true =>
    have h := hg rfl
    simp only [List.mem_cons, List.not_mem_nil, or_false] at h
    rcases h with rfl | rfl | rfl <;> exact ⟨_, .fl rfl, rfl⟩
  | false =>
    have h := hb rfl
    simp only [List.mem_cons, List.not_mem_nil, or_false] at h
    rcases h with rfl | rfl | rfl | rfl | rfl
    · exact ⟨_, .fl rfl, rfl⟩
    · exact ⟨_, .fl rfl, rfl⟩
    · exact ⟨_, .fl rfl, rfl⟩
    · exact ⟨_, .fl rfl, rfl⟩
    · exact ⟨_, .fl (by decide +kernel), rfl⟩
/-- == with 2, of anything drawn -/
def pyD : Dat → PyData
  | .fl v => toPy v
  | .tup xs => .tuple (xs.map toPy)
  | .lst xs => .list (xs.map toPy)
theorem Is.dp {d : Dat} (h : Is K H x d) : Dp K H x (pyD d) := by
  cases h with
  | fl h => exact dp_ok h
  | tup h hf => exact .tup h (dpAll_ok hf)
  | lst h hf => exact .lst h (dpAll_ok hf)
theorem Is.shaped {d : Dat} (h : Is K H x d) : SeqAt.shaped (pyD d) = true := by
  cases h with
  | fl h => exact shaped_ok h
  | tup h hf => exact shaped_tup hf
  | lst h hf => exact shaped_lst hf
theorem Is.two {d : Dat} (h : Is K H x d) : PyData.eqv (pyD d) (.int 2) = betw d 2 2 := by
  cases h with
  | fl h =>
    cases x with
    | non => simp [pyD, toPy, PyData.eqv, betw]
    | bl b => cases b <;> simp [pyD, toPy, PyData.eqv, betw]
    | int i =>
      show PyData.eqv (.int i) (.int 2) = decide (2 ≤ i ∧ i ≤ 2)
      have : PyData.eqv (.int i) (.int 2) = (i == 2) := by simp [PyData.eqv]
      rw [this, Bool.eq_iff_iff, decide_eq_true_iff, beq_iff_eq]
      omega
    | str z => simp [pyD, toPy, PyData.eqv, betw]
    | _ => cases h
  | tup h hf => simp [pyD, PyData.eqv, betw]
  | lst h hf => simp [pyD, PyData.eqv, betw]
end
/-! ## which parts are wrong -/
def dueL (a b c d : Bool) : List V := (if a then [] else [.str "SHELVES"]) ++ ((if b then [] else [.str "BLOCKS"]) ++ ((if c then [] else [.str "HARMS"]) ++ (if d then [] else [.str "MOST"])))
theorem due_some {ds db dh dm : Dat} {wd : Str} (h : keepBad ds db dh dm = some wd) : ∃ r, dueL (betw ds 1 3) (betw db 1 2) (areHarms dh db) (betw dm 0 2) = .str wd :: r := by
  unfold keepBad at h
  cases e1 : betw ds 1 3 <;> cases e2 : betw db 1 2 <;> cases e3 : areHarms dh db <;> cases e4 : betw dm 0 2 <;> simp [e1, e2, e3, e4] at h <;> subst h <;> exact ⟨_, rfl⟩
theorem due_none {ds db dh dm : Dat} (h : keepBad ds db dh dm = none) : dueL (betw ds 1 3) (betw db 1 2) (areHarms dh db) (betw dm 0 2) = [] := by
  unfold keepBad at h
  cases e1 : betw ds 1 3 <;> cases e2 : betw db 1 2 <;> cases e3 : areHarms dh db <;> cases e4 : betw dm 0 2 <;> simp [e1, e2, e3, e4] at h <;> rfl
theorem due_ok (a b c d : Bool) : (dueL a b c d).all okV = true := by
  cases a <;> cases b <;> cases c <;> cases d <;> decide +kernel
end KW

set_option Elab.async false
set_option linter.all false
set_option maxRecDepth 100000
set_option maxHeartbeats 2000000
namespace KW
open PySem PySem.Spec PyProof.Rows L2 LamX OwnOp
/-! ## _law_keep_right -/
abbrev nsR : List Str := ["script", "at", "odd", "one", "two", "three", "four", "astray", "rows", "word", "due", "keep", "every", "blocks", "harms", "shelves", "top", "does_fit"]
def spR (K : PySem.W.Frag) (T : List (Addr × Str)) : Sp := fun vs H Q _ => ∃ (a : Addr) (ns : List Int) (i : Int), vs = [.ref a, .int i] ∧ SqL K H a (ns.map V.int) ∧ ns.length ≤ 63 ∧ 0 ≤ i ∧ i < 9000 ∧ Tabs T H ∧ ∀ H', ExtN H H' → Tabs T H' → Q (.bl true) H'
/-- the defs of the law that are called -/
structure LawD (K : PySem.W.Frag) (mg : Str → Option Value) where
  A : KAll K mg
  D : PartD K mg
  Td : Told K D.CH A.T.BK.C A.T.BP.C
  Nu : DefAt K mg "_law_number" "_law_number" sNumber
  Pk : DefAt K mg "_law_pick" "_law_pick" sPick
section
variable {P : Program} {w : World} {K : PySem.W.Frag} {mg : Str → Option Value} {base : Heap} {f c P0 : Addr} {fd : FuncData} {T : List (Addr × Str)}
theorem LawD.bPk (L : LawD K mg) : Binds K L.Pk.fd ["script", "at", "good", "bad"] [] := L.Pk.F.binds (ps := ["script", "at", "good", "bad"]) fun _ _ _ _ _ _ us hl => match us, hl with | [_, _, _, _], _ => rfl
theorem LawD.bNu (L : LawD K mg) : Binds K L.Nu.fd ["script", "index"] [] := L.Nu.F.binds (ps := ["script", "index"]) fun _ _ _ _ _ _ us hl => match us, hl with | [_, _], _ => rfl
theorem LawD.okPk (L : LawD K mg) : FnOk P w K mg base CX0 2 L.Pk.f L.Pk.fd ["script", "at", "good", "bad"] (spPick K) := ok_pick L.Pk.F L.Nu L.A.T.B
theorem LawD.okNu (L : LawD K mg) : FnOk P w K mg base CX0 1 L.Nu.f L.Nu.fd ["script", "index"] (spNumber K) := ok_number L.Nu.F L.A.T.B
theorem scKeepR : FnScope nsR ["script", "at"] (defScope sKeepR) := ⟨rfl, rfl, rfl, by decide +kernel, rfl, by decide +kernel, by decide +kernel⟩
theorem keep_mkR2 {K : PySem.W.Frag} {C CB : Addr} {H : Hp} {R : Addr → VK} {E : XK} {s b h m : V} {ds db dh dm : Dat} (hs : Is K H s ds) (hb : Is K H b db) (hh : Is K H h dh) (hm : Is K H m dm) (hsh : short dh)
    (hE : ∀ wd, keepBad ds db dh dm = some wd → ∀ d H', Same H H' → H' d = some (.xd [("part", .str wd)]) → E (.ref CB) (some d) H')
    (hQ : keepBad ds db dh dm = none → ∀ d : KD, s = .int d.s → b = .int d.b → dh = .tup d.hs → m = .int d.m → ∀ p H', Same H H' → H p = none → KeepAt K C H' p d → R p .non H') :
    ∀ x dx, H x = none → H dx = none → dx ≠ x → spKInit K C CB [.ref x, s, b, h, m] (upd (upd H dx (.own x)) x (.ins C dx [])) (R x) E := by
  cases k : keepBad ds db dh dm with
  | none => exact keep_mkR hs hb hh hm hsh (fun wd q => by rw [k] at q; cases q) (hQ k)
  | some wd =>
    refine keep_mkR hs hb hh hm hsh hE fun d q1 q2 q3 q4 p H' _ _ kp => ?_
    subst q1 q2 q3 q4
    have e1 : ds = .fl (.int d.s) := by cases hs; rfl
    have e2 : db = .fl (.int d.b) := by cases hb; rfl
    have e4 : dm = .fl (.int d.m) := by cases hm; rfl
    subst e1 e2 e4
    have := kp.ok
    unfold KD.bad at this
    rw [k] at this
    cases this
theorem shaped4 {a b c : Int} {xs : List V} (h : xs.all okV = true) : SeqAt.shaped (.tuple [.int a, .int b, .tuple (xs.map toPy), .int c]) = true := by
  show (PyData.canLayAll0 [.int a, .int b, .tuple (xs.map toPy), .int c] && decide (PyData.depthAll [.int a, .int b, .tuple (xs.map toPy), .int c] + 1 ≤ 64)) = true
  have e1 : PyData.canLayAll0 [.int a, .int b, .tuple (xs.map toPy), .int c] = true := by
    show (true && (true && (PyData.canLayAll0 (xs.map toPy) && (true && true)))) = true
    rw [layAll_ok h]
    rfl
  have e2 : PyData.depthAll [.int a, .int b, .tuple (xs.map toPy), .int c] = 1 := by
    show max 0 (max 0 (max (PyData.depthAll (xs.map toPy) + 1) (max 0 0))) = 1
    rw [depthAll_ok]
    rfl
  rw [e1, e2]
  rfl
theorem eqv4 {a b c : Int} {xs : List V} (h : xs.all okV = true) : PyData.eqv (.tuple [.int a, .int b, .tuple (xs.map toPy), .int c]) (.tuple [.int a, .int b, .tuple (xs.map toPy), .int c]) = true := by
  refine PySem.SeqAt.eqv_refl _ ?_
  show (true && (true && (PyData.canLayAll0 (xs.map toPy) && (true && true)))) = true
  rw [layAll_ok h]
  rfl
def wordsL : List V := [.str "astray", .str "late", .str "lost", .str "torn", .str "worn", .str "done", .non, .int 5]
theorem oneOf_inV {x : V} {ws : List V} (h : wordV x = true) (hw : ws.all strV = true) : oneOf x ws = inV x ws := by
  cases x with
  | str z => rfl
  | _ =>
    symm
    unfold inV
    rw [show oneOf _ ws = false from rfl, List.any_eq_false]
    intro y hy
    have := List.all_eq_true.mp hw y hy
    cases y <;> first | (cases this; done) | simp [eqV]
/-- the first n rows' -/
def dueN (a b c d : Bool) : Nat → List V
  | 0 => []
  | 1 => if a then [] else [.str "SHELVES"]
  | 2 => (if a then [] else [.str "SHELVES"]) ++ (if b then [] else [.str "BLOCKS"])
  | 3 => (if a then [] else [.str "SHELVES"]) ++ ((if b then [] else [.str "BLOCKS"]) ++ (if c then [] else [.str "HARMS"]))
  | _ => dueL a b c d
theorem dueN_len (a b c d : Bool) : (dueN a b c d 0).length ≤ 4 ∧ (dueN a b c d 1).length ≤ 4 ∧ (dueN a b c d 2).length ≤ 4 ∧ (dueN a b c d 3).length ≤ 4 := by
  cases a <;> cases b <;> cases c <;> cases d <;> decide +kernel
theorem small1000' {n : Nat} (h : n ≤ 4) : n < sizeLine := small1000 (Nat.le_trans h (by decide))
/-- what is drawn: between the drawing and the asking -/
structure Drawn4 (K : PySem.W.Frag) (H : Hp) (vs vb vh vt : V) (ds db dh dm : Dat) (one two three four : Bool) : Prop where
  is1 : Is K H vs ds
  is2 : Is K H vb db
  is3 : Is K H vh dh
  is4 : Is K H vt dm
  sh : short dh
  e1 : betw ds 1 3 = one
  e2 : betw db 1 2 = two
  e3 : areHarms dh db = three
  e4 : betw dm 0 2 = four
theorem ok_keepR {fO cO PO : Addr} {fdO : FuncData} (F : FunC K "_law_keep_right" "_law_keep_right" sKeepR f fd c) (L : LawD K mg) (TB : TabB base mg c P0) (hT : InTabs T "_law_keep_right" P0)
    (FO : FunC K "_law_operators_right" "_law_operators_right" sOpR fO fdO cO) (gO : mg "_law_operators_right" = some (.ref fO)) (TBO : TabB base mg cO PO) (hTO : InTabs T "_law_operators_right" PO) :
    FnOk P w K mg base CX0 12 f fd ["script", "at"] (spR K T) := by
  have okO : FnOk P w K mg base CX0 10 fO fdO ["keep", "word"] (spOpR K L.A.KC.C T) := ok_opR FO L.A L.D L.Td TBO hTO
  have bO := FO.fun.binds (ps := ["keep", "word"]) fun _ _ _ _ _ _ us hl => match us, hl with | [_, _], _ => rfl
  refine F.ok scKeepR (fun vs H Q E h => ?_) (fun Ar outer s H vs Q E hr h => ?_)
  · obtain ⟨a, ns, i, rfl, _⟩ := h
    rfl
  · obtain ⟨a, ns, i, rfl, ha, hl, i0, i1, hTb, kQ⟩ := h
    have hr10 : Room 10 _ := hr.mono (by decide)
    have hr8 : Room 8 _ := hr.mono (by decide)
    have hr7 : Room 7 _ := hr.mono (by decide)
    have hr6 : Room 6 _ := hr.mono (by decide)
    have hr2 : Room 2 _ := hr.mono (by decide)
    have hr1 : Room 1 _ := hr.mono (by decide)
    obtain ⟨its, mv, kb⟩ := kb4 L.A.KM.F
    obtain ⟨itsF, mvF, kbf⟩ := kbF L.A.FF
    have B := L.A.T.B
    refine ⟨_, pss_cons (ps_set (i := 2) scKeepR.nd rfl (Or.inl rfl) (pe_lst (pa_cons pe_non (pa_cons pe_bl (pa_cons pe_str (pa_cons (pe_tup (pa_cons pe_int pa_nil)) (pa_cons pe_int (pa_cons pe_int (pa_cons (pe_un un_neg pe_int) pa_nil)))))))))
      (pss_cons (ps_asg (pe_call L.okPk hr2 rfl L.Pk.g L.Pk.F.kp L.bPk .nil pass0 (pa_cons (pv 0) (pa_cons (pv 1) (pa_cons (pe_lst (pa_cons pe_int (pa_cons pe_int (pa_cons pe_int pa_nil)))) (pa_cons (pe_op op_cat (pv 2) (pe_lst (pa_cons pe_int pa_nil))) pa_nil))))) (pg_tup rfl (pgs_cons (pg_name (i := 15) scKeepR.nd rfl (Or.inr rfl)) (pgs_cons (pg_name (i := 3) scKeepR.nd rfl (Or.inl rfl)) pgs_nil))))
      (pss_cons (ps_asg (pe_call L.okPk hr2 rfl L.Pk.g L.Pk.F.kp L.bPk .nil pass0 (pa_cons (pv 0) (pa_cons (pe_op op_add (pv 1) pe_int) (pa_cons (pe_lst (pa_cons pe_int (pa_cons pe_int pa_nil))) (pa_cons (pe_op op_cat (pv 2) (pe_lst (pa_cons pe_int pa_nil))) pa_nil))))) (pg_tup rfl (pgs_cons (pg_name (i := 13) scKeepR.nd rfl (Or.inr rfl)) (pgs_cons (pg_name (i := 4) scKeepR.nd rfl (Or.inl rfl)) pgs_nil))))
      (pss_cons (ps_asg (pe_call L.okPk hr2 rfl L.Pk.g L.Pk.F.kp L.bPk .nil pass0 (pa_cons (pv 0) (pa_cons (pe_op op_add (pv 1) pe_int) (pa_cons (pe_lst (pa_cons (pe_tup pa_nil) (pa_cons (pe_tup (pa_cons pe_str pa_nil)) (pa_cons (pe_tup (pa_cons pe_str (pa_cons pe_str pa_nil))) (pa_cons (pe_tup (pa_cons pe_str (pa_cons pe_str (pa_cons pe_str (pa_cons pe_str pa_nil))))) pa_nil))))) (pa_cons (pe_lst (pa_cons pe_non (pa_cons (pe_lst (pa_cons pe_str pa_nil)) (pa_cons (pe_tup (pa_cons pe_str (pa_cons pe_str pa_nil))) (pa_cons (pe_tup (pa_cons pe_str (pa_cons pe_str pa_nil))) (pa_cons (pe_tup (pa_cons pe_str pa_nil)) (pa_cons pe_str (pa_cons (pe_tup (pa_cons pe_non pa_nil)) (pa_cons (pe_tup (pa_cons pe_str pa_nil)) pa_nil))))))))) pa_nil))))) (pg_tup rfl (pgs_cons (pg_name (i := 14) scKeepR.nd rfl (Or.inr rfl)) (pgs_cons (pg_name (i := 5) scKeepR.nd rfl (Or.inl rfl)) pgs_nil))))
      (pss_cons (ps_asg (pe_call L.okPk hr2 rfl L.Pk.g L.Pk.F.kp L.bPk .nil pass0 (pa_cons (pv 0) (pa_cons (pe_op op_add (pv 1) pe_int) (pa_cons (pe_lst (pa_cons pe_int (pa_cons pe_int (pa_cons pe_int pa_nil)))) (pa_cons (pe_lst (pa_cons pe_non (pa_cons pe_bl (pa_cons pe_int (pa_cons (pe_un un_neg pe_int) (pa_cons pe_str pa_nil)))))) pa_nil))))) (pg_tup rfl (pgs_cons (pg_name (i := 16) scKeepR.nd rfl (Or.inr rfl)) (pgs_cons (pg_name (i := 6) scKeepR.nd rfl (Or.inl rfl)) pgs_nil))))
      (pss_cons (ps_set (i := 7) scKeepR.nd rfl (Or.inl rfl) (pe_cmpR op_eq (pe_op op_mod (pe_callTy call_int1 (by rfl) B.int PyProof.Rows.boot_int (pa_cons (pe_call L.okNu hr1 rfl L.Nu.g L.Nu.F.kp L.bNu .nil pass0 (pa_cons (pv 0) (pa_cons (pe_op op_add (pv 1) pe_int) pa_nil))) pa_nil)) pe_int) pe_int (nomark _)))
      (C8.pss_cut (ps_if (PW.pt (pw_and (pt_val (pv 7)) (pw_and1 (pt_val (pv 5))))) (pss_one (ps_asg (pe_tup (pa_cons (pe_op op_catB (pe_tup (pa_cons pe_str pa_nil)) (pv 14)) (pa_cons (pe_cmpR (op_eqD hr.units) (pv 13) pe_int (nomark _)) pa_nil))) (pg_tup rfl (pgs_cons (pg_name (i := 14) scKeepR.nd rfl (Or.inr rfl)) (pgs_cons (pg_name (i := 5) scKeepR.nd rfl (Or.inl rfl)) pgs_nil))))) pss_nil)
      (pss_cons (ps_set (i := 8) scKeepR.nd rfl (Or.inl rfl) (pe_tup (pa_cons (pe_tup (pa_cons pe_str (pa_cons (pv 3) pa_nil))) (pa_cons (pe_tup (pa_cons pe_str (pa_cons (pv 4) pa_nil))) (pa_cons (pe_tup (pa_cons pe_str (pa_cons (pv 5) pa_nil))) (pa_cons (pe_tup (pa_cons pe_str (pa_cons (pv 6) pa_nil))) pa_nil))))))
      (C8.pss_cut (ps_setLc (i := 10) (own := [("word", 9), ("does_fit", 17)]) (g := gTup K 2 (gCons (gName 9) (gCons (gName 17) gNil))) (tt := tNot (tB (tVar 17))) (te := tVar 9) (by rfl) scKeepR.nd rfl rfl (sw_true rfl rfl rfl (by decide +kernel)) (pi_tup (pv 8))
          (blkOk_by (own := [("word", 9), ("does_fit", 17)]) (N := nsR) (sc := defScope sKeepR) (by decide +kernel)) (fun _ _ _ _ _ => pg_tup rfl (pgs_cons (pg_name (i := 9) scKeepR.nd rfl (Or.inl rfl)) (pgs_cons (pg_name (i := 17) scKeepR.nd rfl (Or.inl rfl)) pgs_nil)))
          (fun _ _ _ _ _ => pts_one (pt_not (pt_val (pv 17)))) (fun _ _ _ _ _ => pv 9))
      (pss_cons (ps_if (pt_cmpR op_ne (pe_part (T := T) (t := fun E => tMakeK L.A.KC.C 3 (["most"] : List Str).length (spKInit K L.A.KC.C L.A.T.BK.C) (fun vs zs => vs ++ zs) E (tCons (tVar 15) (tCons (tVar 13) (tCons (tVar 14) tNil))) (tCons (tVar 16) tNil)) L.D L.A.T rfl TB rfl hT.mem hT.one hr8 (lamS_by (show lamSB (defScope sKeepR) _ = true by decide +kernel)) rfl (fun _ _ _ _ _ => rfl)
            (fun A1 o1 s1 H1 E1 f1 c1 hrL => pe_makeK L.A.KM.M L.A.okI hrL rfl L.A.KC.g kb (passes_call (takes_of rfl rfl rfl rfl) (fun _ _ _ _ h => h)) (pa_cons (pv 15) (pa_cons (pv 13) (pa_cons (pv 14) pa_nil))) (pk_cons (pv 16) pk_nil))) (pe_ifExp (pt_cmpR (op_neD hr.units) (pv 10) (pe_lst pa_nil) (nomark _)) (pe_ix ix_list (pv 10) pe_int (fun _ _ => rfl)) pe_str) (nomark _)) (pss_one (ps_ret pe_bl)) pss_nil)
      (pss_cons (ps_if (pt_cmpR (op_neD hr.units) (pv 10) (pe_lst pa_nil) (nomark _)) (pss_one (ps_ret pe_bl)) pss_nil)
      (pss_cons (ps_set (i := 11) scKeepR.nd rfl (Or.inl rfl) (pe_makeK L.A.KM.M L.A.okI hr6 rfl L.A.KC.g kb passL (pa_cons (pv 15) (pa_cons (pv 13) (pa_cons (pv 14) pa_nil))) (pk_cons (pv 16) pk_nil)))
      (pss_cons (ps_if (pt_cmpR (op_neD hr.units) (pe_tup (pa_cons (pe_fld (pv 11) rfl) (pa_cons (pe_fld (pv 11) rfl) (pa_cons (pe_fld (pv 11) rfl) (pa_cons (pe_fld (pv 11) rfl) pa_nil))))) (pe_tup (pa_cons (pv 15) (pa_cons (pv 13) (pa_cons (pv 14) (pa_cons (pv 16) pa_nil))))) (nomark _)) (pss_one (ps_ret pe_bl)) pss_nil)
      (pss_cons (ps_if (pt_cmpR op_ne (pe_callB (L.A.callLen rfl rfl hr2) (by rfl) B.len PySem.boot_len (pa_cons (pv 11) pa_nil)) (pv 15) (nomark _)) (pss_one (ps_ret pe_bl)) pss_nil)
      (C8.pss_cut (ps_for PassesOwn.never rfl (pi_tup (pe_tup (pa_cons pe_str (pa_cons pe_str (pa_cons pe_str (pa_cons pe_str (pa_cons pe_str (pa_cons pe_str (pa_cons pe_non (pa_cons pe_int pa_nil)))))))))) (pg_name (i := 9) scKeepR.nd rfl (Or.inl rfl))
          (pss_one (ps_if (PW.pt (pw_or (pt_cmpR op_ne (pe_cmpR (L.A.opIn rfl rfl hr2) (pv 9) (pv 11) (by rfl)) (pe_cmpR op_in_seq (pv 9) (pv 14) (by rfl)) (nomark _)) (pw_or1 (pt_not (pt_val (pe_call okO hr10 rfl gO FO.kp bO .nil pass0 (pa_cons (pv 11) (pa_cons (pv 9) pa_nil)))))))) (pss_one (ps_ret pe_bl)) pss_nil)))
      (pss_cons (ps_set (i := 12) scKeepR.nd rfl (Or.inl rfl) (pe_slice sl_tupA (pe_tup (pa_cons pe_str (pa_cons pe_str (pa_cons pe_str (pa_cons pe_str (pa_cons pe_str pa_nil)))))) (po_some (pe_op op_sub pe_int (pv 13))) po_none))
      (pss_one (ps_ret (pe_cmpR (L.A.opEq rfl rfl hr1) (pe_cmethN (pe_glob (v := .ref L.A.KC.C) (by rfl) L.A.KC.g rfl) L.A.cr L.A.cm L.A.okFull hr7 kbf passL (pa_cons (pv 15) (pa_cons (pv 13) pa_nil)) (pk_cons (pv 16) pk_nil)) (pe_makeK L.A.KM.M L.A.okI hr6 rfl L.A.KC.g kb passL (pa_cons (pv 15) (pa_cons (pv 13) (pa_cons (pv 12) pa_nil))) (pk_cons (pv 16) pk_nil)) (nomark _))))))))))))))))))), ?_⟩
    -- odd
    refine ⟨by decide, fun t1 ht1 => ?_⟩
    have s1 := same_upd (o := HO.tup [V.int 1]) ht1
    have T1 : SqT K (upd H t1 (.tup [.int 1])) t1 [.int 1] := SqT.of upd_same
    refine ⟨1, rfl, by show 7 ≤ sizeLine; decide, fun O hO => ?_⟩
    have s2 := same_upd (o := HO.lst (oddV t1)) hO
    have O2 : (upd (upd H t1 (.tup [.int 1])) O (.lst (oddV t1))) O = some (.lst (oddV t1)) := upd_same
    have z2 := s1.trans s2
    have T2 := KW.Same.sqT s2 T1
    -- shelves, one
    refine ⟨_, rfl, _, rfl, by decide, fun g1 hg1 => ?_⟩
    have s3 := same_upd (o := HO.lst [V.int 1, .int 2, .int 3]) hg1
    refine ⟨_, rfl, by decide, fun x1 hx1 => ?_⟩
    have s4 := same_upd (o := HO.lst [V.int 4]) hx1
    refine ⟨O, x1, oddV t1, [.int 4], rfl, rfl, s4 _ _ (s3 _ _ O2), upd_same, by show 8 ≤ sizeLine; decide, fun b1 hb1 => ?_⟩
    have s5 := same_upd (o := HO.lst (oddV t1 ++ [.int 4])) hb1
    have z5 := s3.trans (s4.trans s5)
    refine ⟨a, ns, i, g1, b1, _, _, rfl, (z2.trans z5).seq ha, hl, i0, by omega, SqL.of (s5 _ _ (s4 _ _ upd_same)), SqL.of upd_same, by decide, by show 0 < 8; decide, by decide, by show 8 ≤ 1000; decide, fun H6 p6 vs one s6 hp6 m1 n1 hd6 => ?_⟩
    have z6 := z5.trans s6
    obtain ⟨ds, is1, f1⟩ := pick_int (lo := 1) (hi := 3) (KW.Same.sqT z6 T2) m1 n1 (fun y hy => by
      rcases mem3 hy with rfl | rfl | rfl <;> exact ⟨rfl, by decide +kernel⟩) (fun y hy => by
      rw [List.mem_singleton.mp hy]; exact ⟨rfl, by decide +kernel⟩) (by decide) (by decide)
    refine ⟨p6, _, rfl, SqT.of hd6, rfl, _, _, rfl, _, _, rfl, rfl, ?_⟩
    have O6 := z6 _ _ O2
    have T6 := KW.Same.sqT z6 T2
    have w6 := z2.trans z6
    -- blocks, two
    refine ⟨_, rfl, _, rfl, _, _, rfl, rfl, by decide, fun g2 hg2 => ?_⟩
    have s7 := same_upd (o := HO.lst [V.int 1, .int 2]) hg2
    refine ⟨_, rfl, by decide, fun x2 hx2 => ?_⟩
    have s8 := same_upd (o := HO.lst [V.int 3]) hx2
    refine ⟨O, x2, oddV t1, [.int 3], rfl, rfl, s8 _ _ (s7 _ _ O6), upd_same, by show 8 ≤ sizeLine; decide, fun b2 hb2 => ?_⟩
    have s9 := same_upd (o := HO.lst (oddV t1 ++ [.int 3])) hb2
    have z9 := s7.trans (s8.trans s9)
    refine ⟨a, ns, i + 1, g2, b2, _, _, rfl, (w6.trans z9).seq ha, hl, by omega, by omega, SqL.of (s9 _ _ (s8 _ _ upd_same)), SqL.of upd_same, by decide, by show 0 < 8; decide, by decide, by show 8 ≤ 1000; decide, fun H10 p10 vb two s10 hp10 m2 n2 hd10 => ?_⟩
    have z10 := z9.trans s10
    obtain ⟨db, is2, f2⟩ := pick_int (lo := 1) (hi := 2) (KW.Same.sqT z10 T6) m2 n2 (fun y hy => by
      rcases mem2 hy with rfl | rfl <;> exact ⟨rfl, by decide +kernel⟩) (fun y hy => by
      rw [List.mem_singleton.mp hy]; exact ⟨rfl, by decide +kernel⟩) (by decide) (by decide)
    refine ⟨p10, _, rfl, SqT.of hd10, rfl, _, _, rfl, _, _, rfl, rfl, ?_⟩
    have w10 := w6.trans z10
    have is1' := KW.Same.is z10 is1
    -- harms, three
    refine ⟨_, rfl, _, rfl, _, _, rfl, rfl, ?_⟩
    refine ⟨by decide, fun q0 hq0 => ⟨by decide, fun q1 hq1 => ⟨by decide, fun q2 hq2 => ⟨by decide, fun q3 hq3 => ⟨by show 4 ≤ sizeLine; decide, fun g3 hg3 => ?_⟩⟩⟩⟩⟩
    have e0 := same_upd (o := HO.tup []) hq0
    have e1 := same_upd (o := HO.tup [V.str "late"]) hq1
    have e2 := same_upd (o := HO.tup [V.str "lost", .str "torn"]) hq2
    have e3 := same_upd (o := HO.tup [V.str "late", .str "lost", .str "torn", .str "worn"]) hq3
    have e4 := same_upd (o := HO.lst [V.ref q0, .ref q1, .ref q2, .ref q3]) hg3
    refine ⟨by decide, fun r1 hr1' => ⟨by decide, fun r2 hr2' => ⟨by decide, fun r3 hr3' => ⟨by decide, fun r4 hr4' => ⟨by decide, fun r6 hr6' => ⟨by decide, fun r7 hr7' => ⟨by show 8 ≤ sizeLine; decide, fun b3 hb3 => ?_⟩⟩⟩⟩⟩⟩⟩
    have i1s := same_upd (o := HO.lst [V.str "late"]) hr1'
    have i2s := same_upd (o := HO.tup [V.str "torn", .str "lost"]) hr2'
    have i3s := same_upd (o := HO.tup [V.str "late", .str "late"]) hr3'
    have i4s := same_upd (o := HO.tup [V.str "done"]) hr4'
    have i6s := same_upd (o := HO.tup [V.non]) hr6'
    have i7s := same_upd (o := HO.tup [V.str "Late"]) hr7'
    have i8s := same_upd (o := HO.lst [V.non, .ref r1, .ref r2, .ref r3, .ref r4, .str "late", .ref r6, .ref r7]) hb3
    have j7 := i7s.trans i8s
    have j6 := i6s.trans j7
    have j4 := i4s.trans j6
    have j3 := i3s.trans j4
    have j2 := i2s.trans j3
    have j1 := i1s.trans j2
    have j0 := e4.trans j1
    have k3 := e3.trans j0
    have k2 := e2.trans k3
    have k1 := e1.trans k2
    have z11 := e0.trans k1
    refine ⟨a, ns, i + 2, g3, b3, _, _, rfl, (w10.trans z11).seq ha, hl, by omega, by omega, SqL.of (j1 _ _ upd_same), SqL.of upd_same, by show 0 < 4; decide, by show 0 < 8; decide, by show 4 ≤ 1000; decide, by show 8 ≤ 1000; decide, fun H12 p12 vh three s12 hp12 m3 n3 hd12 => ?_⟩
    have z12 := z11.trans s12
    obtain ⟨dh, HD⟩ := pick_harm (K := K) (H := H12) (fit := three) (x := vh)
      ⟨SqT.of (s12 _ _ (k1 _ _ upd_same)), SqT.of (s12 _ _ (k2 _ _ upd_same)), SqT.of (s12 _ _ (k3 _ _ upd_same)), SqT.of (s12 _ _ (j0 _ _ upd_same)), SqL.of (s12 _ _ (j2 _ _ upd_same)),
        SqT.of (s12 _ _ (j3 _ _ upd_same)), SqT.of (s12 _ _ (j4 _ _ upd_same)), SqT.of (s12 _ _ (j6 _ _ upd_same)), SqT.of (s12 _ _ (j7 _ _ upd_same)), SqT.of (s12 _ _ (i8s _ _ upd_same))⟩ m3 n3
    refine ⟨p12, _, rfl, SqT.of hd12, rfl, _, _, rfl, _, _, rfl, rfl, ?_⟩
    have w12 := w10.trans z12
    have is1'' := KW.Same.is z12 is1'
    have is2'' := KW.Same.is z12 is2
    -- top, four
    refine ⟨_, rfl, _, rfl, _, _, rfl, rfl, by decide, fun g4 hg4 => ?_⟩
    have l1 := same_upd (o := HO.lst [V.int 0, .int 1, .int 2]) hg4
    refine ⟨1, rfl, by decide, fun b4 hb4 => ?_⟩
    have l2 := same_upd (o := HO.lst [V.non, .bl false, .int 3, .int (-1), .str "2"]) hb4
    refine ⟨a, ns, i + 3, g4, b4, _, _, rfl, (w12.trans (l1.trans l2)).seq ha, hl, by omega, by omega, SqL.of (l2 _ _ upd_same), SqL.of upd_same, by decide, by show 0 < 5; decide, by decide, by show 5 ≤ 1000; decide, fun H14 p14 vt four s14 hp14 m4 n4 hd14 => ?_⟩
    have z14 := l1.trans (l2.trans s14)
    obtain ⟨dm, is4, f4⟩ := pick_top (K := K) (H := H14) m4 n4
    refine ⟨p14, _, rfl, SqT.of hd14, rfl, _, _, rfl, _, _, rfl, rfl, ?_⟩
    have w14 := w12.trans z14
    have j1s := KW.Same.is z14 is1''
    have j2s := KW.Same.is z14 is2''
    have j3s := KW.Same.is z14 HD.is_
    -- astray
    refine ⟨_, rfl, _, rfl, _, _, rfl, rfl, a, ns, i + 4, rfl, w14.seq ha, hl, by omega, by omega, fun H15 zz s15 => .inl ⟨_, rfl, _, _, rfl, rfl, (by show (0 : Int) < 3; decide), rfl, ?_⟩⟩
    have w15 := w14.trans s15
    have t15 := hTb.ext w15
    -- what is drawn
    refine ⟨fun σ H' => ∃ (vh' : V) (dh' : Dat) (three' ast : Bool), σ = [some (.ref a), some (.int i), some (.ref O), some (.bl one), some (.bl two), some (.bl three'), some (.bl four), some (.bl ast), none, none, none, none, none, some vb, some vh', some vs, some vt, none] ∧
      Same H H' ∧ Drawn4 K H' vs vb vh' vt ds db dh' dm one two three' four, ?_, ?_⟩
    · have base4 : ∀ {H'}, Same H15 H' → ∀ (ast : Bool), ∃ (vh' : V) (dh' : Dat) (three' ast' : Bool), ([some (.ref a), some (.int i), some (.ref O), some (.bl one), some (.bl two), some (.bl three), some (.bl four), some (.bl ast), none, none, none, none, none, some vb, some vh, some vs, some vt, none] : L2.St) = [some (.ref a), some (.int i), some (.ref O), some (.bl one), some (.bl two), some (.bl three'), some (.bl four), some (.bl ast'), none, none, none, none, none, some vb, some vh', some vs, some vt, none] ∧
        Same H H' ∧ Drawn4 K H' vs vb vh' vt ds db dh' dm one two three' four := fun sx ast =>
          ⟨vh, dh, three, ast, rfl, w15.trans sx, ⟨KW.Same.is (s15.trans sx) j1s, KW.Same.is (s15.trans sx) j2s, KW.Same.is (s15.trans sx) j3s, KW.Same.is (s15.trans sx) is4, HD.sh, f1, f2, HD.eq db, f4⟩⟩
      refine ⟨_, rfl, _, rfl, ?_⟩
      refine ite2 (fun c7 => ?_) (fun c7 => iteF (base4 (Same.refl _) _))
      refine ⟨_, rfl, _, rfl, ?_⟩
      cases three with
      | false => exact iteF (base4 (Same.refl _) _)
      | true =>
        refine iteT ?_
        obtain ⟨xs, hxs, hxl, hxa⟩ := HD.as rfl
        subst hxs
        have j3x := KW.Same.is s15 j3s
        cases j3x with
        | tup th tok =>
          rename_i ph
          refine ⟨by decide, fun u hu => ?_⟩
          have y1 := same_upd (o := HO.tup [V.str "astray"]) hu
          refine ⟨_, rfl, u, ph, _, _, rfl, rfl, SqT.of upd_same, KW.Same.sqT y1 th, Nat.le_of_lt (small1000 (by show 1 + xs.length ≤ 1000; omega)), fun H16 r y2 hr16 => ?_⟩
          have y12 := y1.trans y2
          have jb := KW.Same.is (s15.trans y12) j2s
          refine ⟨_, rfl, _, _, jb.dp, .int 2, jb.shaped, by decide +kernel, ?_⟩
          rw [jb.two]
          refine ⟨by show 2 ≤ sizeLine; decide, fun q hq => ?_⟩
          have y3 := same_upd (o := HO.tup [V.ref r, .bl (betw db 2 2)]) hq
          refine ⟨q, _, rfl, SqT.of upd_same, rfl, _, _, rfl, _, _, rfl, rfl, ?_⟩
          have y := y12.trans y3
          have hok : (wAstray :: xs).all okV = true := by
            rw [List.all_cons, tok]
            decide +kernel
          refine ⟨.ref r, .tup (wAstray :: xs), betw db 2 2, _, rfl, w15.trans y, ⟨KW.Same.is (s15.trans y) j1s, KW.Same.is (s15.trans y) j2s, .tup (KW.Same.sqT y3 hr16) hok, KW.Same.is (s15.trans y) is4, ?_, f1, f2, hxa db, f4⟩⟩
          show (wAstray :: xs).length ≤ 1000
          rw [List.length_cons]
          omega
    · rintro σ16 H16 ⟨vh', dh', three', ast, rfl, w16, D4⟩
      -- rows
      refine ⟨_, rfl, by show 2 ≤ sizeLine; decide, fun r1 h1 => ⟨_, rfl, by show 2 ≤ sizeLine; decide, fun r2 h2 => ⟨_, rfl, by show 2 ≤ sizeLine; decide, fun r3 h3 => ⟨_, rfl, by show 2 ≤ sizeLine; decide, fun r4 h4 => ⟨by show 4 ≤ sizeLine; decide, fun R hR => ?_⟩⟩⟩⟩⟩
      have a1 := same_upd (o := HO.tup [V.str "SHELVES", .bl one]) h1
      have a2 := same_upd (o := HO.tup [V.str "BLOCKS", .bl two]) h2
      have a3 := same_upd (o := HO.tup [V.str "HARMS", .bl three']) h3
      have a4 := same_upd (o := HO.tup [V.str "MOST", .bl four]) h4
      have a5 := same_upd (o := HO.tup [V.ref r1, .ref r2, .ref r3, .ref r4]) hR
      have a45 := a4.trans a5
      have a35 := a3.trans a45
      have a25 := a2.trans a35
      have aA := a1.trans a25
      -- due
      refine ⟨fun σ H' => ∃ Dd : Addr, σ = [some (.ref a), some (.int i), some (.ref O), some (.bl one), some (.bl two), some (.bl three'), some (.bl four), some (.bl ast), some (.ref R), none, some (.ref Dd), none, none, some vb, some vh', some vs, some vt, none] ∧
        Same H H' ∧ Drawn4 K H' vs vb vh' vt ds db dh' dm one two three' four ∧ H' Dd = some (.lst (dueL one two three' four)), ?_, ?_⟩
      · refine ⟨_, rfl, R, rfl, ⟨_, SqT.of upd_same⟩, fun Dd hDd => ?_⟩
        refine lc_tup (xs := [V.ref r1, .ref r2, .ref r3, .ref r4]) (fun n H' => Same (upd (upd (upd (upd (upd H16 r1 (.tup [.str "SHELVES", .bl one])) r2 (.tup [.str "BLOCKS", .bl two])) r3 (.tup [.str "HARMS", .bl three'])) r4 (.tup [.str "MOST", .bl four])) R (.tup [.ref r1, .ref r2, .ref r3, .ref r4])) H' ∧ H' Dd = some (.lst (dueN one two three' four n))) ⟨same_upd hDd, by rw [upd_same]; rfl⟩ (fun n H' _ p => KW.Same.sqT p.1 (SqT.of upd_same)) ?_ ?_
        · have step : ∀ (n : Nat) (p : Addr) (wd : Str) (fl : Bool) (H' : Hp), SqT K H' p [.str wd, .bl fl] → Same (upd (upd (upd (upd (upd H16 r1 (.tup [.str "SHELVES", .bl one])) r2 (.tup [.str "BLOCKS", .bl two])) r3 (.tup [.str "HARMS", .bl three'])) r4 (.tup [.str "MOST", .bl four])) R (.tup [.ref r1, .ref r2, .ref r3, .ref r4])) H' → H' Dd = some (.lst (dueN one two three' four n)) →
              dueN one two three' four (n + 1) = dueN one two three' four n ++ (if fl then [] else [.str wd]) → (dueN one two three' four n).length ≤ 4 →
              gTup K 2 (gCons (gName 9) (gCons (gName 17) gNil)) (V.ref p) (wipe [some (.ref a), some (.int i), some (.ref O), some (.bl one), some (.bl two), some (.bl three'), some (.bl four), some (.bl ast), some (.ref R), none, none, none, none, some vb, some vh', some vs, some vt, none] [9, 17]) H' fun σ2 H2 => wipe σ2 [9, 17] = wipe [some (.ref a), some (.int i), some (.ref O), some (.bl one), some (.bl two), some (.bl three'), some (.bl four), some (.bl ast), some (.ref R), none, none, none, none, some vb, some vh', some vs, some vt, none] [9, 17] ∧ tNot (tB (tVar 17)) σ2 H2 fun b H3 =>
                if b = true then tVar 9 σ2 H3 fun y H4 => ∃ acc, H4 Dd = some (.lst acc) ∧ acc.length < sizeLine ∧ (Same (upd (upd (upd (upd (upd H16 r1 (.tup [.str "SHELVES", .bl one])) r2 (.tup [.str "BLOCKS", .bl two])) r3 (.tup [.str "HARMS", .bl three'])) r4 (.tup [.str "MOST", .bl four])) R (.tup [.ref r1, .ref r2, .ref r3, .ref r4])) (upd H4 Dd (.lst (acc ++ [y]))) ∧ (upd H4 Dd (.lst (acc ++ [y]))) Dd = some (.lst (dueN one two three' four (n + 1))))
                else Same (upd (upd (upd (upd (upd H16 r1 (.tup [.str "SHELVES", .bl one])) r2 (.tup [.str "BLOCKS", .bl two])) r3 (.tup [.str "HARMS", .bl three'])) r4 (.tup [.str "MOST", .bl four])) R (.tup [.ref r1, .ref r2, .ref r3, .ref r4])) H3 ∧ H3 Dd = some (.lst (dueN one two three' four (n + 1))) := by
            intro n p wd fl H' hp hs hd hn hl4
            refine ⟨p, _, rfl, hp, rfl, _, _, rfl, _, _, rfl, rfl, rfl, _, rfl, _, rfl, ?_⟩
            cases fl with
            | true =>
              refine iteF ⟨hs, ?_⟩
              rw [hn, hd, if_pos rfl, List.append_nil]
            | false =>
              refine iteT ⟨_, rfl, _, hd, small1000' hl4, same_keep hs hDd, ?_⟩
              rw [upd_same, hn]
              rfl
          rintro n x H' hx ⟨hs, hd⟩
          match n, hx with
          | 0, hx =>
            cases hx
            exact step 0 r1 "SHELVES" one H' (KW.Same.sqT hs (SqT.of (a25 _ _ upd_same))) hs hd (by cases one <;> rfl) (dueN_len _ _ _ _).1
          | 1, hx =>
            cases hx
            exact step 1 r2 "BLOCKS" two H' (KW.Same.sqT hs (SqT.of (a35 _ _ upd_same))) hs hd (by cases one <;> cases two <;> rfl) (dueN_len _ _ _ _).2.1
          | 2, hx =>
            cases hx
            exact step 2 r3 "HARMS" three' H' (KW.Same.sqT hs (SqT.of (a45 _ _ upd_same))) hs hd (by cases one <;> cases two <;> cases three' <;> rfl) (dueN_len _ _ _ _).2.2.1
          | 3, hx =>
            cases hx
            exact step 3 r4 "MOST" four H' (KW.Same.sqT hs (SqT.of (a5 _ _ upd_same))) hs hd (by cases one <;> cases two <;> cases three' <;> cases four <;> rfl) (dueN_len _ _ _ _).2.2.2
          | n + 4, hx => exact nomatch hx
        · rintro H' ⟨hs, hd⟩
          refine ⟨Dd, rfl, w16.trans (aA.trans hs), ?_, hd⟩
          have y := aA.trans hs
          exact ⟨KW.Same.is y D4.is1, KW.Same.is y D4.is2, KW.Same.is y D4.is3, KW.Same.is y D4.is4, D4.sh, D4.e1, D4.e2, D4.e3, D4.e4⟩
      · rintro σ17 H17 ⟨Dd, rfl, w17, D5, hDd⟩
        have t17 := hTb.ext w17
        rw [← D5.e1, ← D5.e2, ← D5.e3, ← D5.e4] at hDd
        refine ⟨t17, fun H18 x18 t18 => ?_⟩
        have hD18 := x18 _ _ hDd fun ps z => by cases z
        have okD := due_ok (betw ds 1 3) (betw db 1 2) (areHarms dh' db) (betw dm 0 2)
        refine ⟨_, rfl, _, rfl, _, rfl, _, rfl, rfl, rfl, ?_⟩
        refine keep_mkR2 (ext_is x18 D5.is1) (ext_is x18 D5.is2) (ext_is x18 D5.is3) (ext_is x18 D5.is4) D5.sh (fun wd k e H19 s19 he => ?_) (fun k d q1 q2 q3 q4 p19 H19 s19 hp19 kp19 => ⟨rfl, ?_⟩)
        · -- some part is wrong: it is told
          refine ⟨L.A.T.BK.C, e, .str wd, true, false, rfl, L.Td.xK, L.Td.fK, L.Td.nK, L.Td.eK, rfl, he, L.Td.k1, L.Td.k2, by decide, ?_⟩
          obtain ⟨rs, hrs⟩ := due_some k
          have hD19 := s19 _ _ hD18
          rw [hrs] at okD hD19
          refine ⟨_, rfl, by decide, fun n0 hn0 => ?_⟩
          have s20 := same_upd (o := HO.lst []) hn0
          refine ⟨.list ((V.str wd :: rs).map toPy), .list (([] : List V).map toPy), .lst (SqL.of (s20 _ _ hD19)) (dpAll_ok okD), .lst (SqL.of upd_same) .nil, shaped_lst okD, shaped_lst rfl, _, rfl, ?_⟩
          rw [eqv_lst okD rfl]
          refine iteT ⟨_, rfl, Dd, _, 0, .str wd, rfl, rfl, SqL.of (s20 _ _ hD19), atI_nat rfl, rfl, _, rfl, ?_⟩
          refine iteBF (by rw [decide_eq_true rfl]; rfl) ?_
          refine ⟨_, rfl, by decide, fun n1 hn1 => ?_⟩
          have s21 := same_upd (o := HO.lst []) hn1
          refine ⟨.list ((V.str wd :: rs).map toPy), .list (([] : List V).map toPy), .lst (SqL.of (s21 _ _ (s20 _ _ hD19))) (dpAll_ok okD), .lst (SqL.of upd_same) .nil, shaped_lst okD, shaped_lst rfl, _, rfl, ?_⟩
          rw [eqv_lst okD rfl]
          refine iteT ?_
          have y := s19.trans (s20.trans s21)
          exact kQ _ ((ext_same w17).trans (x18.trans (ext_same y))) (t18.ext y)
        · -- all parts are right
          have hz := due_none k
          have hD19 := s19 _ _ hD18
          rw [hz] at hD19
          refine ⟨_, rfl, by decide, fun f0 hf0 => ?_⟩
          have s20 := same_upd (o := HO.lst []) hf0
          refine ⟨.list (([] : List V).map toPy), .list (([] : List V).map toPy), .lst (SqL.of (s20 _ _ hD19)) .nil, .lst (SqL.of upd_same) .nil, shaped_lst rfl, shaped_lst rfl, _, rfl, ?_⟩
          rw [eqv_lst rfl rfl]
          refine iteF ⟨rfl, _, rfl, ?_⟩
          refine iteBF (by rw [decide_eq_true rfl]; rfl) ?_
          refine ⟨_, rfl, by decide, fun f9 hf9 => ?_⟩
          have s21 := same_upd (o := HO.lst []) hf9
          refine ⟨.list (([] : List V).map toPy), .list (([] : List V).map toPy), .lst (SqL.of (s21 _ _ (s20 _ _ hD19))) .nil, .lst (SqL.of upd_same) .nil, shaped_lst rfl, shaped_lst rfl, _, rfl, ?_⟩
          rw [eqv_lst rfl rfl]
          refine iteF ?_
          have y21 := s19.trans (s20.trans s21)
          have x21 := x18.trans (ext_same y21)
          have t21 := t18.ext y21
          subst q1 q2 q3 q4
          have bad := kp19.ok
          have ub := KD.use bad
          have h21 := ext_is x21 D5.is3
          have e3' : ∃ hr, vh' = .ref hr := by
            cases h21
            exact ⟨_, rfl⟩
          obtain ⟨hh, rfl⟩ := e3'
          have hs21 : SqT K (upd (upd H19 f0 (.lst [])) f9 (.lst [])) hh d.hs := by
            cases h21 with
            | tup h _ => exact h
          have oks := harms_oks ub.2.2.1
          have sh5 : short (.tup d.hs) := Nat.le_trans (harms_le ub.2.2.1) (by decide)
          -- keep = Keep(..)
          refine ⟨_, rfl, _, rfl, _, rfl, _, rfl, rfl, rfl, ?_⟩
          refine keep_mkR (ds := .fl (.int d.s)) (db := .fl (.int d.b)) (dh := .tup d.hs) (dm := .fl (.int d.m)) (.fl rfl) (.fl rfl) (.tup hs21 oks) (.fl rfl) sh5 (fun wd kk => ?_) (fun d' q1 q2 q3 q4 p H22 s22 hp22 kp => ⟨rfl, ?_⟩)
          · rw [show keepBad (.fl (.int d.s)) (.fl (.int d.b)) (.tup d.hs) (.fl (.int d.m)) = none from bad] at kk
            cases kk
          have ed : d' = d := by
            rw [kd_ext (V.int.inj q1) (V.int.inj q2) (Dat.tup.inj q3) (V.int.inj q4)]
          subst ed
          have hs22 := KW.Same.sqT s22 hs21
          have x22 := x21.trans (ext_same s22)
          have t22 := t21.ext s22
          obtain ⟨dx, hr', o1, o2⟩ := kp.ob
          -- its parts
          refine ⟨_, rfl, p, L.A.KC.C, dx, _, _, rfl, o1, L.A.KC.cl, L.A.KC.n1, kfs_s _ _ _ _, _, rfl, p, L.A.KC.C, dx, _, _, rfl, o1, L.A.KC.cl, L.A.KC.n2, kfs_b _ _ _ _, _, rfl, p, L.A.KC.C, dx, _, _, rfl, o1, L.A.KC.cl, L.A.KC.n3, kfs_h _ _ _ _, _, rfl, p, L.A.KC.C, dx, _, _, rfl, o1, L.A.KC.cl, L.A.KC.n4, kfs_m _ _ _ _, (by show 4 ≤ sizeLine; decide), fun u1 hu1 => ?_⟩
          have s23 := same_upd (o := HO.tup [V.int d'.s, .int d'.b, .ref hr', .int d'.m]) hu1
          refine ⟨_, rfl, _, rfl, _, rfl, _, rfl, (by show 4 ≤ sizeLine; decide), fun u2 hu2 => ?_⟩
          have s24 := same_upd (o := HO.tup [V.int d'.s, .int d'.b, .ref hh, .int d'.m]) hu2
          have y24 := s23.trans s24
          have dpA : DpAll K (upd (upd H22 u1 (.tup [V.int d'.s, .int d'.b, .ref hr', .int d'.m])) u2 (.tup [V.int d'.s, .int d'.b, .ref hh, .int d'.m])) [V.int d'.s, .int d'.b, .ref hr', .int d'.m] [.int d'.s, .int d'.b, .tuple (d'.hs.map toPy), .int d'.m] := .cons (.int _) (.cons (.int _) (.cons (.tup (KW.Same.sqT y24 o2) (dpAll_ok oks)) (.cons (.int _) .nil)))
          have dpB : DpAll K (upd (upd H22 u1 (.tup [V.int d'.s, .int d'.b, .ref hr', .int d'.m])) u2 (.tup [V.int d'.s, .int d'.b, .ref hh, .int d'.m])) [V.int d'.s, .int d'.b, .ref hh, .int d'.m] [.int d'.s, .int d'.b, .tuple (d'.hs.map toPy), .int d'.m] := .cons (.int _) (.cons (.int _) (.cons (.tup (KW.Same.sqT y24 hs22) (dpAll_ok oks)) (.cons (.int _) .nil)))
          have shp := shaped4 (a := d'.s) (b := d'.b) (c := d'.m) oks
          refine ⟨_, _, .tup (SqT.of (s24 _ _ upd_same)) dpA, .tup (SqT.of upd_same) dpB, shp, shp, _, rfl, ?_⟩
          rw [eqv4 oks]
          refine iteF ?_
          -- len(keep)
          have kp24 := KW.Same.keep y24 kp
          refine ⟨_, rfl, p, dx, _, rfl, y24 _ _ o1, p, d', rfl, kp24, d'.s, rfl, by omega, by omega, _, rfl, rfl, _, rfl, ?_⟩
          refine iteBF (by rw [decide_eq_true rfl]; rfl) ?_
          have x24 := x22.trans (ext_same y24)
          have t24 := t22.ext y24
          have hs24 := KW.Same.sqT y24 hs22
          have X24 := (ext_same w17).trans x24
          -- the words
          refine ⟨fun σ H' => ∃ wv : Option V, σ = [some (.ref a), some (.int i), some (.ref O), some (.bl one), some (.bl two), some (.bl three'), some (.bl four), some (.bl ast), some (.ref R), wv, some (.ref Dd), some (.ref p), none, some (.int d'.b), some (.ref hh), some (.int d'.s), some (.int d'.m), none] ∧
            ExtN H H' ∧ Tabs T H' ∧ KeepAt K L.A.KC.C H' p d' ∧ SqT K H' hh d'.hs, ?_, ?_⟩
          · refine ⟨by show 8 ≤ sizeLine; decide, fun wt hwt => ⟨wt, rfl, ⟨_, SqT.of upd_same⟩, ?_⟩⟩
            have s25 := same_upd (o := HO.tup wordsL) hwt
            refine for_tup (K := K) (a := wt) (xs := wordsL) (fun n σ H' => SqT K H' wt wordsL ∧ ∃ wv : Option V, σ = [some (.ref a), some (.int i), some (.ref O), some (.bl one), some (.bl two), some (.bl three'), some (.bl four), some (.bl ast), some (.ref R), wv, some (.ref Dd), some (.ref p), none, some (.int d'.b), some (.ref hh), some (.int d'.s), some (.int d'.m), none] ∧
              ExtN H H' ∧ Tabs T H' ∧ KeepAt K L.A.KC.C H' p d' ∧ SqT K H' hh d'.hs) ⟨SqT.of upd_same, none, rfl, X24.trans (ext_same s25), t24.ext s25, KW.Same.keep s25 kp24, KW.Same.sqT s25 hs24⟩ (fun n σ H' _ pv' => pv'.1) ?_ (fun σ H' pv' => pv'.2)
            rintro n x σ H' hx ⟨hwt', wv, rfl, xx, tt, kk, hh'⟩
            have hm := List.mem_of_getElem? hx
            have hwv : wordV x = true := List.all_eq_true.mp (show wordsL.all wordV = true by decide +kernel) x hm
            obtain ⟨dz, hz, z1, z2⟩ := kk.ob
            refine ⟨_, rfl, _, rfl, p, _, _, rfl, z1, p, d', x, .fl x, rfl, kk, .fl (wordV.ok hwv), _, rfl, ?_⟩
            refine ⟨_, rfl, _, rfl, hh, d'.hs, rfl, .inr hh', okV.flat (wordV.ok hwv), okV.all oks, rfl, _, rfl, ?_⟩
            refine iteBF ?_ ?_
            · show (!decide (V.bl (oneOf x d'.hs) = V.bl (inV x d'.hs))) = false
              rw [oneOf_inV hwv (harms_strs ub.2.2.1), decide_eq_true rfl]
              rfl
            refine ⟨_, rfl, _, rfl, p, d', x, rfl, kk, hwv, tt, fun H26 x26 t26 => ⟨_, rfl, ?_⟩⟩
            refine iteF ?_
            exact ⟨ext_sqT x26 hwt', _, rfl, xx.trans x26, t26, ext_keep x26 kk, ext_sqT x26 hh'⟩
          · rintro σ27 H27 ⟨wv, rfl, xx, tt, kk, hh'⟩
            refine ⟨by decide, fun e5 he5 => ?_⟩
            have s28 := same_upd (o := HO.tup allH) he5
            refine ⟨_, rfl, _, _, rfl, rfl, 2 - d'.b, rfl, e5, allH, rfl, SqT.of upd_same, ?_⟩
            -- from here on: the tuple of all harms that there can be
            have fin : ∀ (Ev : Addr) (H29 : Hp), Same (upd H27 e5 (.tup allH)) H29 → SqT K H29 Ev (harmsFor (.fl (.int d'.b))) →
                tRet (tOp (rOwn L.A.KC.C (spKEq K L.A.KC.C) E0 id) (tCMethN L.A.KC.C 2 (["most"] : List Str).length (spKFull K L.A.KC.C) (fun vs zs => vs ++ zs) E0 (tC (.ref L.A.KC.C)) (tCons (tVar 15) (tCons (tVar 13) tNil)) (tCons (tVar 16) tNil))
                  (tMakeK L.A.KC.C 3 (["most"] : List Str).length (spKInit K L.A.KC.C L.A.T.BK.C) (fun vs zs => vs ++ zs) E0 (tCons (tVar 15) (tCons (tVar 13) (tCons (tVar 12) tNil))) (tCons (tVar 16) tNil))) { nx := fun _ H' => Q .non H', rt := Q }
                  [some (.ref a), some (.int i), some (.ref O), some (.bl one), some (.bl two), some (.bl three'), some (.bl four), some (.bl ast), some (.ref R), wv, some (.ref Dd), some (.ref p), some (.ref Ev), some (.int d'.b), some (.ref hh), some (.int d'.s), some (.int d'.m), none] H29 := by
              intro Ev H29 s29 hEv
              refine ⟨rfl, _, rfl, _, rfl, _, rfl, rfl, rfl, d', rfl, bad, fun pf H30 s30 hpf kf => ?_⟩
              refine ⟨_, rfl, _, rfl, _, rfl, _, rfl, rfl, rfl, ?_⟩
              have bf := KD.full_ok bad
              have uf := KD.use bf
              refine keep_mkR (ds := .fl (.int d'.s)) (db := .fl (.int d'.b)) (dh := .tup d'.full.hs) (dm := .fl (.int d'.m)) (.fl rfl) (.fl rfl) (.tup (KW.Same.sqT s30 hEv) (harms_ok _)) (.fl rfl) (Nat.le_trans (harms_len _) (by decide)) (fun wd kk => ?_) (fun d2 q1 q2 q3 q4 pm H31 s31 hpm km => ⟨rfl, ?_⟩)
              · rw [show keepBad (.fl (.int d'.s)) (.fl (.int d'.b)) (.tup d'.full.hs) (.fl (.int d'.m)) = none from bf] at kk
                cases kk
              have e2 : d2 = d'.full := by
                rw [kd_ext (d := d2) (V.int.inj q1) (V.int.inj q2) (Dat.tup.inj q3) (V.int.inj q4)]
                rfl
              subst e2
              refine rd_eq (KW.Same.keep s31 kf) km ?_
              show Q (.bl (decide (d'.full = d'.full))) H31
              rw [decide_eq_true rfl]
              have y := s28.trans (s29.trans (s30.trans s31))
              exact kQ _ (xx.trans (ext_same y)) (tt.ext y)
            have hb : d'.b = 1 ∨ d'.b = 2 := by omega
            refine ⟨fun hw => ?_, fun hw pz hpz => ?_⟩
            · have e2 : d'.b = 2 := by
                rcases hb with e | e
                · exfalso
                  rw [e] at hw
                  exact absurd hw.1 (by decide)
                · exact e
              refine fin e5 _ (Same.refl _) ?_
              rw [e2]
              exact SqT.of upd_same
            · have e1 : d'.b = 1 := by
                rcases hb with e | e
                · exact e
                · exfalso
                  rw [e] at hw
                  exact hw (by decide)
              refine fin pz _ (same_upd hpz) ?_
              rw [e1]
              exact SqT.of upd_same
end
end KW

set_option Elab.async false
set_option linter.all false
set_option maxRecDepth 100000
set_option maxHeartbeats 2000000
namespace KW
open PySem PySem.Spec PyProof.Rows L2 LamX OwnOp
/-! ## all of Plan, as the law uses it -/
structure PAll (K : PySem.W.Frag) (mg : Str → Option Value) (T : Parts K mg) where
  PC : PCls K mg
  PM : PMkr K mg PC.C
  KI : KIsi K PC.C
  eq : MethD K PC.C "__eq__" "Plan.__eq__" sPEq
  hn : PySem.W.findIn K (.ref PC.C) "__ne__" = some (some (.builtin "object.__ne__"))
  fB : Addr
  dB : FuncData
  FB : Fun K "but" "Plan.but" sPBut fB dB
  MB : Meth K PC.C "but" fB
  fT : Addr
  dT : FuncData
  FT : Fun K "turned" "Plan.turned" sPTurned fT dT
  MT : Meth K PC.C "turned" fT
section
variable {P : Program} {w : World} {K : PySem.W.Frag} {mg : Str → Option Value} {base : Heap} {T : Parts K mg}
theorem PAll.okEq (A : PAll K mg T) : FnOk P w K mg base CX0 1 A.eq.f A.eq.fd ["self", "other"] (spPEq K A.PC.C) := ok_pEq A.eq.F T.B A.PC A.KI
theorem PAll.bEq (A : PAll K mg T) : Binds K A.eq.fd ["self", "other"] [] := A.eq.F.binds (ps := ["self", "other"]) fun _ _ _ _ _ _ us hl => match us, hl with | [_, _], _ => rfl
theorem PAll.okB (A : PAll K mg T) : FnOk P w K mg base (L2.CX P w) 7 A.fB A.dB psB (spBut K A.PC.C T.BP.C) := ok_but A.FB T A.PC A.PM
theorem PAll.bB (A : PAll K mg T) : Binds K A.dB psB [] := A.FB.binds (ps := psB) fun _ _ _ _ _ _ us hl => match us, hl with | [_, _, _], _ => rfl
theorem PAll.okT (A : PAll K mg T) : FnOk P w K mg base (L2.CX P w) 8 A.fT A.dT ["self"] (spTurned K A.PC.C) := ok_turned A.FT T A.PC A.PM A.FB A.MB
theorem PAll.bT (A : PAll K mg T) : Binds K A.dT ["self"] [] := A.FT.binds (ps := ["self"]) fun _ _ _ _ _ _ us hl => match us, hl with | [_], _ => rfl
theorem PAll.okI (A : PAll K mg T) : FnOk P w K mg base (L2.CX P w) 5 A.PM.fI A.PM.fd psP (spPInit K A.PC.C T.BP.C) := ok_pI T A.PC A.PM
theorem PAll.opEq (A : PAll K mg T) {X : Cx} (e1 : X.K = K) (e2 : X.mg = mg) (hr : Room 1 X.A) : OpR X (compareOp .Eq) (rOwn A.PC.C (spPEq K A.PC.C) E0 id) := by
  subst e1 e2
  exact op_eq_own A.okEq hr A.eq.m A.bEq pass0
theorem PAll.opNe (A : PAll K mg T) {X : Cx} (e1 : X.K = K) (e2 : X.mg = mg) (hr : Room 2 X.A) : OpR X (compareOp .NotEq) (rOwn A.PC.C (spPEq K A.PC.C) E0 not) := by
  subst e1 e2
  exact op_ne_own A.okEq hr A.eq.m A.bEq pass0 A.KI.hm A.hn
theorem rd_peq {C : Addr} {H : Hp} {Q : VK} {g : Bool → Bool} {a b : Addr} {d e : PD} (ka : PlanAt K C H a d) (kb : PlanAt K C H b e) (h : Q (.bl (g (decide (d = e)))) H) : rOwn C (spPEq K C) E0 g (.ref a) (.ref b) H Q := by
  obtain ⟨dx, hu, hr, a1, _⟩ := ka.ob
  obtain ⟨dy, hs, ht, b1, _⟩ := kb.ob
  exact ⟨a, b, dx, _, dy, _, rfl, rfl, a1, b1, a, b, d, e, rfl, ka, kb, _, rfl, h⟩
end
/-! ## a plan with another part: the five of them -/
/-- the words, the other values, the plan with the n-th one -/
def altW : Nat → Str
  | 0 => "sums" | 1 => "order" | 2 => "choice" | 3 => "mends" | _ => "limit"
def altU : Nat → Str
  | 0 => "SUMS" | 1 => "ORDER" | 2 => "CHOICE" | 3 => "MENDS" | _ => "LIMIT"
def altD : Nat → Dat
  | 0 => .tup [.str "named"] | 1 => .tup [.int 0, .int 1] | 2 => .fl (.str "most") | 3 => .fl (.bl false) | _ => .fl (.int 2)
def PD.alt (d : PD) : Nat → PD
  | 0 => { d with u := [.str "named"] } | 1 => { d with r := [.int 0, .int 1] } | 2 => { d with c := .str "most" } | 3 => { d with m := .bl false } | _ => { d with l := .int 2 }
theorem ns_ne {x y : Str} (h : ¬ x = y) : ¬ (V.str x = V.str y) := fun z => h (V.str.inj z)
theorem alt_parts (d : PD) (n : Nat) : bU d (.str (altW n)) (altD n) = .tup (d.alt n).u ∧ bR d (.str (altW n)) (altD n) = .tup (d.alt n).r ∧ bC d (.str (altW n)) (altD n) = .fl (d.alt n).c ∧ bM d (.str (altW n)) (altD n) = .fl (d.alt n).m ∧ bL d (.str (altW n)) (altD n) = .fl (d.alt n).l := by
  match n with
  | 0 => exact ⟨if_pos rfl, if_neg (ns_ne (by decide +kernel)), if_neg (ns_ne (by decide +kernel)), if_neg (ns_ne (by decide +kernel)), if_neg (ns_ne (by decide +kernel))⟩
  | 1 => exact ⟨if_neg (ns_ne (by decide +kernel)), if_pos rfl, if_neg (ns_ne (by decide +kernel)), if_neg (ns_ne (by decide +kernel)), if_neg (ns_ne (by decide +kernel))⟩
  | 2 => exact ⟨if_neg (ns_ne (by decide +kernel)), if_neg (ns_ne (by decide +kernel)), if_pos rfl, if_neg (ns_ne (by decide +kernel)), if_neg (ns_ne (by decide +kernel))⟩
  | 3 => exact ⟨if_neg (ns_ne (by decide +kernel)), if_neg (ns_ne (by decide +kernel)), if_neg (ns_ne (by decide +kernel)), if_pos rfl, if_neg (ns_ne (by decide +kernel))⟩
  | n + 4 => exact ⟨if_neg (ns_ne (by show ¬ (("limit" : Str) = "sums"); decide +kernel)), if_neg (ns_ne (by show ¬ (("limit" : Str) = "order"); decide +kernel)), if_neg (ns_ne (by show ¬ (("limit" : Str) = "choice"); decide +kernel)), if_neg (ns_ne (by show ¬ (("limit" : Str) = "mends"); decide +kernel)), if_pos rfl⟩
theorem alt_ok {d : PD} (h : d.bad = none) (n : Nat) : (d.alt n).bad = none := by
  obtain ⟨u1, u2, u3, u4, u5⟩ := planBad_use h
  match n with
  | 0 => exact planBad_none (show areSums (.tup [.str "named"]) = true by decide +kernel) u2 u3 u4 u5
  | 1 => exact planBad_none u1 (show isOrder (.tup [.int 0, .int 1]) = true by decide +kernel) u3 u4 u5
  | 2 => exact planBad_none u1 u2 (show oneOfD (.fl (.str "most")) allC = true by decide +kernel) u4 u5
  | 3 => exact planBad_none u1 u2 u3 rfl u5
  | n + 4 => exact planBad_none u1 u2 u3 u4 rfl
/-- and with something odd in its place -/
theorem odd_bad {d : PD} (h : d.bad = none) (n : Nat) : butBad d (.str (altW n)) (.fl (.str "odd")) = some (altU n) := by
  obtain ⟨u1, u2, u3, u4, u5⟩ := planBad_use h
  have no : ∀ {x y : Str}, ¬ x = y → ∀ {A : Type} {a b : A}, (if V.str x = V.str y then a else b) = b := fun hh => if_neg (ns_ne hh)
  unfold butBad planBad bU bR bC bM bL
  match n with
  | 0 =>
    rw [show altW 0 = "sums" from rfl, if_pos (show V.str "sums" = V.str "sums" from rfl)]
    rfl
  | 1 =>
    rw [show altW 1 = "order" from rfl, no (show ¬ (("order" : Str) = "sums") by decide +kernel), u1, if_pos (show V.str "order" = V.str "order" from rfl)]
    rfl
  | 2 =>
    rw [show altW 2 = "choice" from rfl, no (show ¬ (("choice" : Str) = "sums") by decide +kernel), no (show ¬ (("choice" : Str) = "order") by decide +kernel), u1, u2, if_pos (show V.str "choice" = V.str "choice" from rfl), show oneOfD (.fl (.str "odd")) allC = false by decide +kernel]
    rfl
  | 3 =>
    rw [show altW 3 = "mends" from rfl, no (show ¬ (("mends" : Str) = "sums") by decide +kernel), no (show ¬ (("mends" : Str) = "order") by decide +kernel), no (show ¬ (("mends" : Str) = "choice") by decide +kernel), u1, u2, u3, if_pos (show V.str "mends" = V.str "mends" from rfl)]
    rfl
  | n + 4 =>
    rw [show altW (n + 4) = "limit" from rfl, no (show ¬ (("limit" : Str) = "sums") by decide +kernel), no (show ¬ (("limit" : Str) = "order") by decide +kernel), no (show ¬ (("limit" : Str) = "choice") by decide +kernel), no (show ¬ (("limit" : Str) = "mends") by decide +kernel), u1, u2, u3, u4, if_pos (show V.str "limit" = V.str "limit" from rfl)]
    rfl
/-! ## a plan's parts as data -/
def PD.py (d : PD) : List PyData := [.tuple (d.u.map toPy), .tuple (d.r.map toPy), toPy d.c, toPy d.m, toPy d.l]
theorem py_shaped {d : PD} (h : d.bad = none) : SeqAt.shaped (.tuple d.py) = true := by
  obtain ⟨u1, u2, u3, u4, u5⟩ := planBad_use h
  obtain ⟨f1, f2, f3⟩ := PD.flat h
  have i1 := int_ok (order_use u2).2.1
  show (PyData.canLayAll0 d.py && decide (PyData.depthAll d.py + 1 ≤ 64)) = true
  have e1 : PyData.canLayAll0 d.py = true := by
    show (PyData.canLayAll0 (d.u.map toPy) && (PyData.canLayAll0 (d.r.map toPy) && ((toPy d.c).canLay0 && ((toPy d.m).canLay0 && ((toPy d.l).canLay0 && true))))) = true
    rw [layAll_ok (sums_ok u1), layAll_ok i1, lay_ok f1, lay_ok f2, lay_ok f3]
    rfl
  have e2 : PyData.depthAll d.py = 1 := by
    show max (PyData.depthAll (d.u.map toPy) + 1) (max (PyData.depthAll (d.r.map toPy) + 1) (max (toPy d.c).depth (max (toPy d.m).depth (max (toPy d.l).depth 0)))) = 1
    rw [depthAll_ok, depthAll_ok, depth_ok, depth_ok, depth_ok]
    rfl
  rw [e1, e2]
  rfl
theorem eqV_lim {x y : V} (hx : limOk (.fl x) = true) (hy : limOk (.fl y) = true) : eqV x y = decide (x = y) := by
  rcases lim_cases hx with rfl | ⟨i, rfl⟩ <;> rcases lim_cases hy with rfl | ⟨j, rfl⟩
  · rfl
  · rfl
  · rfl
  · exact eqV_kin rfl
theorem py_eqv {d e : PD} (hd : d.bad = none) (he : e.bad = none) : PyData.eqv (.tuple d.py) (.tuple e.py) = decide (d = e) := by
  obtain ⟨u1, u2, u3, u4, u5⟩ := planBad_use hd
  obtain ⟨w1, w2, w3, w4, w5⟩ := planBad_use he
  obtain ⟨f1, f2, f3⟩ := PD.flat hd
  obtain ⟨g1, g2, g3⟩ := PD.flat he
  have i1 := (order_use u2).2.1
  have i2 := (order_use w2).2.1
  have e0 : PyData.eqv (.tuple d.py) (.tuple e.py) = (PyData.eqv (.tuple (d.u.map toPy)) (.tuple (e.u.map toPy)) && (PyData.eqv (.tuple (d.r.map toPy)) (.tuple (e.r.map toPy)) && (PyData.eqv (toPy d.c) (toPy e.c) && (PyData.eqv (toPy d.m) (toPy e.m) && (PyData.eqv (toPy d.l) (toPy e.l) && true))))) := by
    simp [PD.py, PyData.eqv, PyData.eqvAll]
  rw [e0, eqv_tup (sums_ok u1) (sums_ok w1), eqL_str (sums_str u1) (sums_str w1), eqv_tup (int_ok i1) (int_ok i2), eqL_int i1 i2, eqv_ok f1 g1, eqv_ok f2 g2, eqv_ok f3 g3, eqV_lim u5 w5]
  obtain ⟨x1, x2, x3, x4, x5⟩ := d
  obtain ⟨y1, y2, y3, y4, y5⟩ := e
  obtain ⟨z3, rfl⟩ : ∃ z, x3 = .str z := by cases x3 <;> first | exact ⟨_, rfl⟩ | cases u3
  obtain ⟨z3', rfl⟩ : ∃ z, y3 = .str z := by cases y3 <;> first | exact ⟨_, rfl⟩ | cases w3
  obtain ⟨z4, rfl⟩ : ∃ z, x4 = .bl z := by cases x4 <;> first | exact ⟨_, rfl⟩ | cases u4
  obtain ⟨z4', rfl⟩ : ∃ z, y4 = .bl z := by cases y4 <;> first | exact ⟨_, rfl⟩ | cases w4
  rw [eqV_kin (show kin (.str z3) (.str z3') = true from rfl), eqV_kin (show kin (.bl z4) (.bl z4') = true from rfl)]
  by_cases a1 : x1 = y1 <;> by_cases a2 : x2 = y2 <;> by_cases a3 : V.str z3 = V.str z3' <;> by_cases a4 : V.bl z4 = V.bl z4' <;> by_cases a5 : x5 = y5 <;> simp [a1, a2, a3, a4, a5]
end KW

set_option Elab.async false
set_option linter.all false
set_option maxRecDepth 100000
set_option maxHeartbeats 2000000
namespace KW
open PySem PySem.Spec PyProof.Rows L2 LamX OwnOp
/-! ## _law_but_right -/
def spButR (K : PySem.W.Frag) (C : Addr) (T : List (Addr × Str)) : Sp := fun vs H Q _ => ∃ (a : Addr) (ns : List Int) (i : Int) (pl pp hu hr : Addr) (d : PD), vs = [.ref a, .int i, .ref pl, .ref pp] ∧ SqL K H a (ns.map V.int) ∧ ns.length ≤ 63 ∧ 0 ≤ i ∧ i < 9500 ∧ PlanAt K C H pl d ∧
  SqT K H pp [.ref hu, .ref hr, d.c, d.m, d.l] ∧ SqT K H hu d.u ∧ SqT K H hr d.r ∧ Tabs T H ∧ ∀ H', ExtN H H' → Tabs T H' → Q (.bl true) H'
abbrev nsBR : List Str := ["script", "at", "plan", "parts", "values", "late", "other", "spot", "words"]
theorem set5 {α : Type} (a b c d e x : α) : ∀ n : Nat, n < 5 → [a, b, c, d, e].set n x = [if n = 0 then x else a, if n = 1 then x else b, if n = 2 then x else c, if n = 3 then x else d, if n = 4 then x else e]
  | 0, _ => rfl
  | 1, _ => rfl
  | 2, _ => rfl
  | 3, _ => rfl
  | 4, _ => rfl
  | n + 5, h => absurd h (by omega)
theorem ixN5 : ∀ n : Nat, n < 5 → ixN 5 (n : Int) = some n
  | 0, _ => rfl
  | 1, _ => rfl
  | 2, _ => rfl
  | 3, _ => rfl
  | 4, _ => rfl
  | n + 5, h => absurd h (by omega)
section
variable {P : Program} {w : World} {K : PySem.W.Frag} {mg : Str → Option Value} {base : Heap} {f c P0 : Addr} {fd : FuncData} {T : List (Addr × Str)}
theorem scButR : FnScope nsBR ["script", "at", "plan", "parts"] (defScope sButR) := ⟨rfl, rfl, rfl, by decide +kernel, rfl, by decide +kernel, by decide +kernel⟩
/-- what stands in the place of each part -/
theorem late_is {H : Hp} {d : PD} (bad : d.bad = none) {hu hr : Addr} {xv : V} (h1 : SqT K H hu d.u) (h2 : SqT K H hr d.r) (n : Nat) (hn : n < 5) (hx : Is K H xv (altD n)) :
    Is K H (if n = 0 then xv else .ref hu) (.tup (d.alt n).u) ∧ Is K H (if n = 1 then xv else .ref hr) (.tup (d.alt n).r) ∧ Is K H (if n = 2 then xv else d.c) (.fl (d.alt n).c) ∧ Is K H (if n = 3 then xv else d.m) (.fl (d.alt n).m) ∧ Is K H (if n = 4 then xv else d.l) (.fl (d.alt n).l) := by
  obtain ⟨u1, u2, u3, u4, u5⟩ := planBad_use bad
  obtain ⟨f1, f2, f3⟩ := PD.flat bad
  have a1 : Is K H (.ref hu) (.tup d.u) := .tup h1 (sums_ok u1)
  have a2 : Is K H (.ref hr) (.tup d.r) := .tup h2 (int_ok (order_use u2).2.1)
  match n, hn with
  | 0, _ => exact ⟨hx, a2, .fl f1, .fl f2, .fl f3⟩
  | 1, _ => exact ⟨a1, hx, .fl f1, .fl f2, .fl f3⟩
  | 2, _ => exact ⟨a1, a2, hx, .fl f2, .fl f3⟩
  | 3, _ => exact ⟨a1, a2, .fl f1, hx, .fl f3⟩
  | 4, _ => exact ⟨a1, a2, .fl f1, .fl f2, hx⟩
  | n + 5, h => exact absurd h (by omega)
theorem is_tup {H : Hp} {x : V} {xs : List V} (h : Is K H x (.tup xs)) : ∃ p, x = .ref p ∧ SqT K H p xs := by
  cases h with
  | tup h _ => exact ⟨_, rfl, h⟩
theorem is_fl {H : Hp} {x v : V} (h : Is K H x (.fl v)) : x = v := by cases h; rfl
theorem pd_ext {d : PD} {u r : List V} {c m l : V} (e1 : Dat.tup u = .tup d.u) (e2 : Dat.tup r = .tup d.r) (e3 : Dat.fl c = .fl d.c) (e4 : Dat.fl m = .fl d.m) (e5 : Dat.fl l = .fl d.l) : d = ⟨u, r, c, m, l⟩ := by
  cases e1
  cases e2
  cases e3
  cases e4
  cases e5
  rfl
theorem alt_word (n : Nat) (hn : n < 5) : ([V.str "sums", .str "order", .str "choice", .str "mends", .str "limit"] : List V)[n]? = some (.str (altW n)) := by
  match n, hn with
  | 0, _ => rfl
  | 1, _ => rfl
  | 2, _ => rfl
  | 3, _ => rfl
  | 4, _ => rfl
  | n + 5, h => exact absurd h (by omega)
theorem alt_in (n : Nat) (hn : n < 5) : oneOf (.str (altW n)) allP = true := by
  match n, hn with
  | 0, _ => decide +kernel
  | 1, _ => decide +kernel
  | 2, _ => decide +kernel
  | 3, _ => decide +kernel
  | 4, _ => decide +kernel
  | n + 5, h => exact absurd h (by omega)
theorem alt_up (n : Nat) (hn : n < 5) : Txt.upper (altW n) = altU n ∧ (altW n).length ≤ 5592405 ∧ okV (.str (altW n)) = true := by
  match n, hn with
  | 0, _ => exact ⟨by decide +kernel, by decide +kernel, by decide +kernel⟩
  | 1, _ => exact ⟨by decide +kernel, by decide +kernel, by decide +kernel⟩
  | 2, _ => exact ⟨by decide +kernel, by decide +kernel, by decide +kernel⟩
  | 3, _ => exact ⟨by decide +kernel, by decide +kernel, by decide +kernel⟩
  | 4, _ => exact ⟨by decide +kernel, by decide +kernel, by decide +kernel⟩
  | n + 5, h => exact absurd h (by omega)
theorem alt_val {H : Hp} {v0 v1 : Addr} (h0 : SqT K H v0 [.str "named"]) (h1 : SqT K H v1 [.int 0, .int 1]) (n : Nat) (hn : n < 5) : ∃ xv, ([V.ref v0, .ref v1, .str "most", .bl false, .int 2] : List V)[n]? = some xv ∧ Is K H xv (altD n) ∧ short (altD n) := by
  match n, hn with
  | 0, _ => exact ⟨_, rfl, .tup h0 (by decide +kernel), by show 1 ≤ 1000; decide⟩
  | 1, _ => exact ⟨_, rfl, .tup h1 (by decide +kernel), by show 2 ≤ 1000; decide⟩
  | 2, _ => exact ⟨_, rfl, .fl (by decide +kernel), trivial⟩
  | 3, _ => exact ⟨_, rfl, .fl rfl, trivial⟩
  | 4, _ => exact ⟨_, rfl, .fl rfl, trivial⟩
  | n + 5, h => exact absurd h (by omega)
theorem pfs_but (u r c m l : V) : (pfs u r c m l).lookup ("but" : Str) = none := by
  have e1 : (("but" : Str) == "sums") = false := by decide +kernel
  have e2 : (("but" : Str) == "order") = false := by decide +kernel
  have e3 : (("but" : Str) == "choice") = false := by decide +kernel
  have e4 : (("but" : Str) == "mends") = false := by decide +kernel
  have e5 : (("but" : Str) == "limit") = false := by decide +kernel
  simp [pfs, List.lookup, e1, e2, e3, e4, e5]
theorem ok_butR (F : FunC K "_law_but_right" "_law_but_right" sButR f fd c) (L : LawD K mg) (PA : PAll K mg L.A.T) (TB : TabB base mg c P0) (hT : InTabs T "_law_but_right" P0) :
    FnOk P w K mg base CX0 10 f fd ["script", "at", "plan", "parts"] (spButR K PA.PC.C T) := by
  refine F.ok scButR (fun vs H Q E h => ?_) (fun Ar outer s H vs Q E hr h => ?_)
  · obtain ⟨a, ns, i, pl, pp, hu, hr, d, rfl, _⟩ := h
    rfl
  · obtain ⟨a, ns, i, pl, pp, hu, hr', d, rfl, ha, hl, i0, i1, ka, hpp, hhu, hhr, hTb, kQ⟩ := h
    have hr7 : Room 7 _ := hr.mono (by decide)
    have hr6 : Room 6 _ := hr.mono (by decide)
    have hr2 : Room 2 _ := hr.mono (by decide)
    have hr1 : Room 1 _ := hr.mono (by decide)
    obtain ⟨mv, kb⟩ := pb5 PA.PM.F
    have B := L.A.T.B
    refine ⟨_, pss_cons (ps_asg (pe_tup (pa_cons (pe_tup (pa_cons pe_str (pa_cons pe_str (pa_cons pe_str (pa_cons pe_str (pa_cons pe_str pa_nil)))))) (pa_cons (pe_lst (pa_cons (pe_tup (pa_cons pe_str pa_nil)) (pa_cons (pe_tup (pa_cons pe_int (pa_cons pe_int pa_nil))) (pa_cons pe_str (pa_cons pe_bl (pa_cons pe_int pa_nil)))))) pa_nil))) (pg_tup rfl (pgs_cons (pg_name (i := 8) scButR.nd rfl (Or.inr rfl)) (pgs_cons (pg_name (i := 4) scButR.nd rfl (Or.inl rfl)) pgs_nil))))
      (pss_cons (ps_set (i := 7) scButR.nd rfl (Or.inr rfl) (pe_op op_mod (pe_callTy call_int1 (by rfl) B.int PyProof.Rows.boot_int (pa_cons (pe_call L.okNu hr1 rfl L.Nu.g L.Nu.F.kp L.bNu .nil pass0 (pa_cons (pv 0) (pa_cons (pv 1) pa_nil))) pa_nil)) pe_int))
      (pss_cons (ps_set (i := 5) scButR.nd rfl (Or.inl rfl) (pe_callTy call_list_of (by rfl) B.list (by decide +kernel) (pa_cons (pv 3) pa_nil)))
      (pss_cons (ps_asg (pe_ix ix_list (pv 4) (pv 7) (fun _ _ => rfl)) (pg_sub (pv 5) (pv 7) set_list))
      (pss_cons (ps_set (i := 6) scButR.nd rfl (Or.inl rfl) (pe_makeK PA.PM.M PA.okI hr6 rfl PA.PC.g kb passL (pa_cons (pe_ix ix_list (pv 5) pe_int (fun _ _ => rfl)) (pa_cons (pe_ix ix_list (pv 5) pe_int (fun _ _ => rfl)) pa_nil)) (pk_cons (pe_ix ix_list (pv 5) pe_int (fun _ _ => rfl)) (pk_cons (pe_ix ix_list (pv 5) pe_int (fun _ _ => rfl)) (pk_cons (pe_ix ix_list (pv 5) pe_int (fun _ _ => rfl)) pk_nil)))))
      (pss_cons (ps_if (PW.pt (pw_or (pt_cmpR (PA.opNe rfl rfl hr2) (pe_meth (pv 2) PA.PC.cl PA.MB PA.okB hr7 PA.bB .nil passL (pa_cons (pe_ix ix_tup (pv 8) (pv 7) (fun _ _ => rfl)) (pa_cons (pe_ix ix_list (pv 4) (pv 7) (fun _ _ => rfl)) pa_nil))) (pv 6) (nomark _)) (pw_or1 (pt_cmpR op_ne (pe_cmpR (PA.opEq rfl rfl hr1) (pv 2) (pv 6) (nomark _)) (pe_cmpR (op_eqD hr.units) (pe_callTy call_tuple_of (by rfl) B.tuple PyProof.Rows.boot_tuple (pa_cons (pv 5) pa_nil)) (pv 3) (nomark _)) (nomark _))))) (pss_one (ps_ret pe_bl)) pss_nil)
      (pss_cons (ps_if (pt_cmpR op_notN (pe_part (T := T) (t := fun E => tMeth PA.PC.C "but" (spBut K PA.PC.C L.A.T.BP.C) [] E (tVar 2) (tCons (tC (.str "Sums")) (tCons (tTup (tCons (tC (.str "bare")) tNil)) tNil))) L.D L.A.T rfl TB rfl hT.mem hT.one hr (lamS_by (show lamSB (defScope sButR) _ = true by decide +kernel)) rfl (fun _ _ _ _ _ => rfl)
            (fun A1 o1 s1 H1 E1 f1 c1 hrL => (pe_meth (pv 2) PA.PC.cl PA.MB PA.okB hrL PA.bB .nil (passes_call (takes_of rfl rfl rfl rfl) (fun _ _ _ _ h => h)) (pa_cons pe_str (pa_cons (pe_tup (pa_cons pe_str pa_nil)) pa_nil))))) pe_non (nomark _)) (pss_one (ps_ret pe_bl)) pss_nil)
      (pss_cons (ps_if (pt_cmpR op_notN (pe_part (T := T) (t := fun E => tMeth PA.PC.C "but" (spBut K PA.PC.C L.A.T.BP.C) [] E (tVar 2) (tCons (tC .non) (tCons (tC (.int 1)) tNil))) L.D L.A.T rfl TB rfl hT.mem hT.one hr (lamS_by (show lamSB (defScope sButR) _ = true by decide +kernel)) rfl (fun _ _ _ _ _ => rfl)
            (fun A1 o1 s1 H1 E1 f1 c1 hrL => (pe_meth (pv 2) PA.PC.cl PA.MB PA.okB hrL PA.bB .nil (passes_call (takes_of rfl rfl rfl rfl) (fun _ _ _ _ h => h)) (pa_cons pe_non (pa_cons pe_int pa_nil))))) pe_non (nomark _)) (pss_one (ps_ret pe_bl)) pss_nil)
      (pss_one (ps_ret (pe_cmpR op_eq (pe_part (T := T) (t := fun E => tMeth PA.PC.C "but" (spBut K PA.PC.C L.A.T.BP.C) [] E (tVar 2) (tCons (tOp (rIxT K) (tVar 8) (tVar 7)) (tCons (tC (.str "odd")) tNil))) L.D L.A.T rfl TB rfl hT.mem hT.one hr (lamS_by (show lamSB (defScope sButR) _ = true by decide +kernel)) rfl (fun _ _ _ _ _ => rfl)
            (fun A1 o1 s1 H1 E1 f1 c1 hrL => (pe_meth (pv 2) PA.PC.cl PA.MB PA.okB hrL PA.bB .nil (passes_call (takes_of rfl rfl rfl rfl) (fun _ _ _ _ h => h)) (pa_cons (pe_ix ix_tup (pv 8) (pv 7) (fun _ _ => rfl)) (pa_cons pe_str pa_nil))))) (pe_upper (pe_ix ix_tup (pv 8) (pv 7) (fun _ _ => rfl))) (nomark _))))))))))), ?_⟩
    -- words, values
    refine ⟨(by show 5 ≤ sizeLine; decide), fun W hW => ⟨(by show 1 ≤ sizeLine; decide), fun v0 h0 => ⟨(by show 2 ≤ sizeLine; decide), fun v1 h1 => ⟨(by show 5 ≤ sizeLine; decide), fun V0 hV => ⟨(by show 2 ≤ sizeLine; decide), fun O hO => ⟨O, _, rfl, SqT.of upd_same, rfl, _, _, rfl, _, _, rfl, rfl, ?_⟩⟩⟩⟩⟩⟩
    have s1 := same_upd (o := HO.tup [V.str "sums", .str "order", .str "choice", .str "mends", .str "limit"]) hW
    have s2 := same_upd (o := HO.tup [V.str "named"]) h0
    have s3 := same_upd (o := HO.tup [V.int 0, .int 1]) h1
    have s4 := same_upd (o := HO.lst [V.ref v0, .ref v1, .str "most", .bl false, .int 2]) hV
    have s5 := same_upd (o := HO.tup [V.ref W, .ref V0]) hO
    have s45 := s4.trans s5
    have s35 := s3.trans s45
    have s25 := s2.trans s35
    have z5 := s1.trans s25
    have hWt := SqT.of (K := K) (s25 _ _ upd_same)
    have hv0 := SqT.of (K := K) (s35 _ _ upd_same)
    have hv1 := SqT.of (K := K) (s45 _ _ upd_same)
    have hVl := SqL.of (K := K) (s5 _ _ upd_same)
    generalize upd (upd (upd (upd (upd H W (.tup [V.str "sums", .str "order", .str "choice", .str "mends", .str "limit"])) v0 (.tup [V.str "named"])) v1 (.tup [V.int 0, .int 1])) V0 (.lst [V.ref v0, .ref v1, .str "most", .bl false, .int 2])) O (.tup [V.ref W, .ref V0]) = H5 at *
    -- spot
    refine ⟨_, rfl, _, rfl, a, ns, i, rfl, z5.seq ha, hl, by omega, by omega, fun H6 z s6 => .inl ⟨_, rfl, _, _, rfl, rfl, (by show (0 : Int) < 5; decide), ?_⟩⟩
    obtain ⟨n, hn, hz⟩ : ∃ n : Nat, n < 5 ∧ z % 5 = (n : Int) := ⟨(z % 5).toNat, by omega, by omega⟩
    show gName 7 (V.int (z % 5)) _ _ _
    rw [hz]
    have z6 := z5.trans s6
    -- late
    have hpp6 := KW.Same.sqT z6 hpp
    obtain ⟨xv, ev, isv, shv⟩ := alt_val (KW.Same.sqT s6 hv0) (KW.Same.sqT s6 hv1) n hn
    refine ⟨_, rfl, pp, _, rfl, .inr hpp6, fun l0 hl0 => ?_⟩
    have s7 := same_upd (o := HO.lst [V.ref hu, .ref hr', d.c, d.m, d.l]) hl0
    refine ⟨_, rfl, _, rfl, V0, _, _, xv, rfl, rfl, (s6.trans s7).seq hVl, atI_nat ev, _, rfl, _, rfl, l0, _, _, n, rfl, rfl, upd_same, ixN5 n hn, ?_⟩
    have s8 : Same H6 (upd (upd H6 l0 (.lst [V.ref hu, .ref hr', d.c, d.m, d.l])) l0 (.lst (([V.ref hu, .ref hr', d.c, d.m, d.l] : List V).set n xv))) := fun c o e => by
      rw [upd_ne (ne_of_none e hl0), upd_ne (ne_of_none e hl0)]
      exact e
    have hl8 : (upd (upd H6 l0 (.lst [V.ref hu, .ref hr', d.c, d.m, d.l])) l0 (.lst (([V.ref hu, .ref hr', d.c, d.m, d.l] : List V).set n xv))) l0 = some (.lst (([V.ref hu, .ref hr', d.c, d.m, d.l] : List V).set n xv)) := upd_same
    generalize upd (upd H6 l0 (.lst [V.ref hu, .ref hr', d.c, d.m, d.l])) l0 (.lst (([V.ref hu, .ref hr', d.c, d.m, d.l] : List V).set n xv)) = H8 at *
    rw [set5 _ _ _ _ _ _ n hn] at hl8
    have z8 := z6.trans s8
    have ok1 := alt_ok ka.ok n
    have v1 := planBad_use ok1
    obtain ⟨b1, b2, b3, b4, b5⟩ := late_is ka.ok (KW.Same.sqT z8 hhu) (KW.Same.sqT z8 hhr) n hn (KW.Same.is s8 isv)
    have hL := SqL.of (K := K) hl8
    refine ⟨_, rfl, l0, _, 0, _, rfl, rfl, hL, atI_nat (j := 0) rfl, _, rfl, l0, _, 1, _, rfl, rfl, hL, atI_nat (j := 1) rfl, _, rfl, l0, _, 2, _, rfl, rfl, hL, atI_nat (j := 2) rfl, _, rfl, l0, _, 3, _, rfl, rfl, hL, atI_nat (j := 3) rfl, _, rfl, l0, _, 4, _, rfl, rfl, hL, atI_nat (j := 4) rfl, rfl, rfl, ?_⟩
    refine plan_mkR b1 b2 b3 b4 b5 (Nat.le_trans (sums_use v1.1).1.2 (by decide)) (Nat.le_trans (order_use v1.2.1).1.2 (by decide)) (fun wd k => ?_) (fun d' q1 q2 q3 q4 q5 p H9 s9 hp kp => ⟨rfl, ?_⟩)
    · rw [show planBad (.tup (d.alt n).u) (.tup (d.alt n).r) (.fl (d.alt n).c) (.fl (d.alt n).m) (.fl (d.alt n).l) = none from ok1] at k
      cases k
    have ed : d' = d.alt n := pd_ext (d := d') (u := (d.alt n).u) (r := (d.alt n).r) (c := (d.alt n).c) (m := (d.alt n).m) (l := (d.alt n).l) q1 q2 q3 q4 q5
    subst ed
    have z9 := z8.trans s9
    have ka9 := KW.Same.plan z9 ka
    obtain ⟨dx, pu, pr, o1, o2, o3⟩ := ka9.ob
    -- plan.but
    refine ⟨_, rfl, pl, dx, _, rfl, o1, pfs_but _ _ _ _ _, _, rfl, _, rfl, W, _, _, _, rfl, rfl, KW.Same.sqT (s6.trans (s8.trans s9)) hWt, atI_nat (alt_word n hn), _, rfl, _, rfl, V0, _, _, xv, rfl, rfl, (s6.trans (s8.trans s9)).seq hVl, atI_nat ev, ?_⟩
    refine ⟨pl, d, .str (altW n), .fl (.str (altW n)), xv, altD n, rfl, ka9, .fl (alt_up n hn).2.2, KW.Same.is (s8.trans s9) isv, shv, fun k => ?_, fun _ wd k => ?_, fun _ e r1 r2 r3 r4 r5 q H10 s10 hq kq => ?_⟩
    · rw [alt_in n hn] at k
      cases k
    · unfold butBad at k
      obtain ⟨y1, y2, y3, y4, y5⟩ := alt_parts d n
      rw [y1, y2, y3, y4, y5, show planBad (.tup (d.alt n).u) (.tup (d.alt n).r) (.fl (d.alt n).c) (.fl (d.alt n).m) (.fl (d.alt n).l) = none from ok1] at k
      cases k
    have ee : e = d.alt n := by
      obtain ⟨y1, y2, y3, y4, y5⟩ := alt_parts d n
      exact pd_ext (d := e) (u := (d.alt n).u) (r := (d.alt n).r) (c := (d.alt n).c) (m := (d.alt n).m) (l := (d.alt n).l) (y1.symm.trans r1) (y2.symm.trans r2) (y3.symm.trans r3) (y4.symm.trans r4) (y5.symm.trans r5)
    subst ee
    have z10 := z9.trans s10
    refine ⟨_, rfl, rd_peq kq (KW.Same.plan s10 kp) ⟨_, rfl, ?_⟩⟩
    refine iteBF (by rw [decide_eq_true rfl]; rfl) ?_
    -- (plan == other) != (tuple(late) == parts)
    have ka10 := KW.Same.plan z10 ka
    refine ⟨_, rfl, _, rfl, rd_peq ka10 (KW.Same.plan s10 kp) ?_⟩
    refine ⟨_, rfl, l0, _, rfl, .inl ⟨(s9.trans s10).seq hL, fun t ht => ?_⟩⟩
    have s11 := same_upd (o := HO.tup [if n = 0 then xv else V.ref hu, if n = 1 then xv else .ref hr', if n = 2 then xv else d.c, if n = 3 then xv else d.m, if n = 4 then xv else d.l]) ht
    have y11 := s9.trans (s10.trans s11)
    have z11 := z10.trans s11
    obtain ⟨u1, u2, u3, u4, u5⟩ := planBad_use ka.ok
    obtain ⟨f1, f2, f3⟩ := PD.flat ka.ok
    refine ⟨_, rfl, .tuple (d.alt n).py, .tuple d.py, .tup (SqT.of upd_same) (.cons (KW.Same.is y11 b1).dp (.cons (KW.Same.is y11 b2).dp (.cons (KW.Same.is y11 b3).dp (.cons (KW.Same.is y11 b4).dp (.cons (KW.Same.is y11 b5).dp .nil))))),
      .tup (KW.Same.sqT z11 hpp) (.cons (.tup (KW.Same.sqT z11 hhu) (dpAll_ok (sums_ok u1))) (.cons (.tup (KW.Same.sqT z11 hhr) (dpAll_ok (int_ok (order_use u2).2.1))) (.cons (dp_ok f1) (.cons (dp_ok f2) (.cons (dp_ok f3) .nil))))), py_shaped ok1, py_shaped ka.ok, ?_⟩
    rw [py_eqv ok1 ka.ok]
    refine ⟨rfl, _, rfl, ?_⟩
    refine iteBF (by rw [show (decide (d = d.alt n)) = decide (d.alt n = d) by rw [decide_eq_decide]; exact eq_comm]; simp) ?_
    have t11 := hTb.ext z11
    have pnon : okV V.non = true := rfl
    -- a part that there is not
    refine ⟨t11, fun H12 x12 t12 => ?_⟩
    have X12 := (ext_same z11).trans x12
    have ka12 := ext_plan X12 ka
    obtain ⟨dx2, pu2, pr2, o4, _, _⟩ := ka12.ob
    refine ⟨_, rfl, pl, dx2, _, rfl, o4, pfs_but _ _ _ _ _, (by show 1 ≤ sizeLine; decide), fun q0 hq0 => ?_⟩
    have s13 := same_upd (o := HO.tup [V.str "bare"]) hq0
    refine ⟨pl, d, .str "Sums", .fl (.str "Sums"), .ref q0, .tup [.str "bare"], rfl, KW.Same.plan s13 ka12, .fl (by decide +kernel), .tup (SqT.of upd_same) (by decide +kernel), (by show 1 ≤ 1000; decide), fun _ e H14 s14 he => ?_, (fun k => by rw [show oneOf (.str "Sums") allP = false by decide +kernel] at k; cases k), (fun k => by rw [show oneOf (.str "Sums") allP = false by decide +kernel] at k; cases k)⟩
    refine ⟨L.A.T.BP.C, e, .non, false, true, rfl, L.Td.xP, L.Td.fP, L.Td.nP, L.Td.eP, rfl, he, L.Td.p1, L.Td.p2, by decide, ?_⟩
    refine ⟨rfl, _, rfl, ?_⟩
    refine iteBF (by rw [decide_eq_true rfl]; rfl) ?_
    have X14 := X12.trans (ext_same (s13.trans s14))
    have t14 := t12.ext (s13.trans s14)
    -- None
    refine ⟨t14, fun H15 x15 t15 => ?_⟩
    have X15 := X14.trans x15
    have ka15 := ext_plan X15 ka
    obtain ⟨dx3, pu3, pr3, o5, _, _⟩ := ka15.ob
    refine ⟨_, rfl, pl, dx3, _, rfl, o5, pfs_but _ _ _ _ _, ?_⟩
    refine ⟨pl, d, .non, .fl .non, .int 1, .fl (.int 1), rfl, ka15, .fl rfl, .fl rfl, trivial, fun _ e H16 s16 he => ?_, (fun k => by rw [show oneOf .non allP = false from rfl] at k; cases k), (fun k => by rw [show oneOf .non allP = false from rfl] at k; cases k)⟩
    refine ⟨L.A.T.BP.C, e, .non, false, true, rfl, L.Td.xP, L.Td.fP, L.Td.nP, L.Td.eP, rfl, he, L.Td.p1, L.Td.p2, by decide, ?_⟩
    refine ⟨rfl, _, rfl, ?_⟩
    refine iteBF (by rw [decide_eq_true rfl]; rfl) ?_
    have X16 := X15.trans (ext_same s16)
    have t16 := t15.ext s16
    -- something odd
    have Y16 : ExtN H5 H16 := (ext_same ((s6.trans s8).trans y11)).trans (x12.trans ((ext_same (s13.trans s14)).trans (x15.trans (ext_same s16))))
    refine ⟨t16, fun H17 x17 t17 => ?_⟩
    have X17 := X16.trans x17
    have ka17 := ext_plan X17 ka
    have W17 := ext_sqT (Y16.trans x17) hWt
    obtain ⟨dx4, pu4, pr4, o6, _, _⟩ := ka17.ob
    refine ⟨_, rfl, pl, dx4, _, rfl, o6, pfs_but _ _ _ _ _, _, rfl, _, rfl, W, _, _, _, rfl, rfl, W17, atI_nat (alt_word n hn), ?_⟩
    refine ⟨pl, d, .str (altW n), .fl (.str (altW n)), .str "odd", .fl (.str "odd"), rfl, ka17, .fl (alt_up n hn).2.2, .fl (by decide +kernel), trivial, (fun k => by rw [alt_in n hn] at k; cases k), fun _ wd k e H18 s18 he => ?_, fun _ e r1 r2 r3 r4 r5 q18 H18 _ _ kq => ?_⟩
    · rw [odd_bad ka.ok n] at k
      cases k
      refine ⟨L.A.T.BP.C, e, .str (altU n), false, true, rfl, L.Td.xP, L.Td.fP, L.Td.nP, L.Td.eP, rfl, he, L.Td.p1, L.Td.p2, by decide, ?_⟩
      refine ⟨_, rfl, _, rfl, W, _, _, _, rfl, rfl, KW.Same.sqT s18 W17, atI_nat (alt_word n hn), ⟨_, rfl⟩, altW n, rfl, rfl, (alt_up n hn).2.1, rfl, ?_⟩
      rw [(alt_up n hn).1, decide_eq_true rfl]
      exact kQ _ (X17.trans (ext_same s18)) (t17.ext s18)
    · have z := odd_bad ka.ok n
      unfold butBad at z
      rw [r1, r2, r3, r4, r5, show planBad (.tup e.u) (.tup e.r) (.fl e.c) (.fl e.m) (.fl e.l) = none from kq.ok] at z
      cases z
end
end KW

set_option Elab.async false
set_option linter.all false
set_option maxRecDepth 100000
set_option maxHeartbeats 4000000
namespace KW
open PySem PySem.Spec PyProof.Rows L2 LamX OwnOp
/-! ## the menus of _law_plan_right -/
def oddP (t : Addr) : List V := [.non, .int 5, .str "bare", .ref t, .bl true]
theorem mem4 {α : Type} {x a b c d : α} (h : x ∈ [a, b, c, d]) : x = a ∨ x = b ∨ x = c ∨ x = d := by simpa using h
theorem mem5 {α : Type} {x a b c d e : α} (h : x ∈ [a, b, c, d, e]) : x = a ∨ x = b ∨ x = c ∨ x = d ∨ x = e := by simpa using h
section
variable {K : PySem.W.Frag} {H : Hp} {t : Addr} {x : V} {fit : Bool}
theorem pick_sums {g0 g1 g2 b0 b1 b2 b3 : Addr} (ht : SqT K H t []) (h0 : SqT K H g0 [.str "bare"]) (h1 : SqT K H g1 [.str "noted", .str "whole"]) (h2 : SqT K H g2 [.str "named", .str "named"])
    (c0 : SqL K H b0 [.str "bare"]) (c1 : SqT K H b1 [.str "sum"]) (c2 : SqT K H b2 [.str "bare", .str "bare", .str "bare"]) (c3 : SqT K H b3 [.non])
    (hg : fit = true → x ∈ [V.ref g0, .ref g1, .ref g2]) (hb : fit = false → x ∈ oddP t ++ [V.ref b0, .ref b1, .ref b2, .ref b3]) : ∃ d, Is K H x d ∧ short d ∧ areSums d = fit := by
  cases fit with
  | true =>
    rcases mem3 (hg rfl) with rfl | rfl | rfl
    · exact ⟨_, .tup h0 (by decide +kernel), (by show 1 ≤ 1000; decide), by decide +kernel⟩
    · exact ⟨_, .tup h1 (by decide +kernel), (by show 2 ≤ 1000; decide), by decide +kernel⟩
    · exact ⟨_, .tup h2 (by decide +kernel), (by show 2 ≤ 1000; decide), by decide +kernel⟩
  | false =>
    rcases List.mem_append.mp (hb rfl) with h | h
    · rcases mem5 h with rfl | rfl | rfl | rfl | rfl
      · exact ⟨_, .fl rfl, trivial, rfl⟩
      · exact ⟨_, .fl rfl, trivial, rfl⟩
      · exact ⟨_, .fl (by decide +kernel), trivial, rfl⟩
      · exact ⟨_, .tup ht rfl, (by show 0 ≤ 1000; decide), rfl⟩
      · exact ⟨_, .fl rfl, trivial, rfl⟩
    · rcases mem4 h with rfl | rfl | rfl | rfl
      · exact ⟨_, .lst c0 (by decide +kernel), (by show 1 ≤ 1000; decide), rfl⟩
      · exact ⟨_, .tup c1 (by decide +kernel), (by show 1 ≤ 1000; decide), by decide +kernel⟩
      · exact ⟨_, .tup c2 (by decide +kernel), (by show 3 ≤ 1000; decide), by decide +kernel⟩
      · exact ⟨_, .tup c3 (by decide +kernel), (by show 1 ≤ 1000; decide), by decide +kernel⟩
theorem pick_order {g0 g1 g2 g3 b0 b1 b2 b3 b4 b5 : Addr} (ht : SqT K H t []) (h0 : SqT K H g0 [.int 0]) (h1 : SqT K H g1 [.int 1, .int 0]) (h2 : SqT K H g2 [.int 2, .int 0, .int 1]) (h3 : SqT K H g3 [.int 0, .int 1, .int 2])
    (c0 : SqL K H b0 [.int 0]) (c1 : SqT K H b1 [.int 1]) (c2 : SqT K H b2 [.int 0, .int 0]) (c3 : SqT K H b3 [.int 0, .int 2]) (c4 : SqT K H b4 [.bl false]) (c5 : SqT K H b5 [.int 0, .int 1, .int 2, .int 3])
    (hg : fit = true → x ∈ [V.ref g0, .ref g1, .ref g2, .ref g3]) (hb : fit = false → x ∈ oddP t ++ [V.ref b0, .ref b1, .ref b2, .ref b3, .ref b4, .ref b5]) : ∃ d, Is K H x d ∧ short d ∧ isOrder d = fit := by
  cases fit with
  | true =>
    rcases mem4 (hg rfl) with rfl | rfl | rfl | rfl
    · exact ⟨_, .tup h0 (by decide +kernel), (by show 1 ≤ 1000; decide), by decide +kernel⟩
    · exact ⟨_, .tup h1 (by decide +kernel), (by show 2 ≤ 1000; decide), by decide +kernel⟩
    · exact ⟨_, .tup h2 (by decide +kernel), (by show 3 ≤ 1000; decide), by decide +kernel⟩
    · exact ⟨_, .tup h3 (by decide +kernel), (by show 3 ≤ 1000; decide), by decide +kernel⟩
  | false =>
    rcases List.mem_append.mp (hb rfl) with h | h
    · rcases mem5 h with rfl | rfl | rfl | rfl | rfl
      · exact ⟨_, .fl rfl, trivial, rfl⟩
      · exact ⟨_, .fl rfl, trivial, rfl⟩
      · exact ⟨_, .fl (by decide +kernel), trivial, rfl⟩
      · exact ⟨_, .tup ht rfl, (by show 0 ≤ 1000; decide), by decide +kernel⟩
      · exact ⟨_, .fl rfl, trivial, rfl⟩
    · simp only [List.mem_cons, List.not_mem_nil, or_false] at h
      rcases h with rfl | rfl | rfl | rfl | rfl | rfl
      · exact ⟨_, .lst c0 (by decide +kernel), (by show 1 ≤ 1000; decide), rfl⟩
      · exact ⟨_, .tup c1 (by decide +kernel), (by show 1 ≤ 1000; decide), by decide +kernel⟩
      · exact ⟨_, .tup c2 (by decide +kernel), (by show 2 ≤ 1000; decide), by decide +kernel⟩
      · exact ⟨_, .tup c3 (by decide +kernel), (by show 2 ≤ 1000; decide), by decide +kernel⟩
      · exact ⟨_, .tup c4 (by decide +kernel), (by show 1 ≤ 1000; decide), by decide +kernel⟩
      · exact ⟨_, .tup c5 (by decide +kernel), (by show 4 ≤ 1000; decide), by decide +kernel⟩
theorem pick_way {b : Addr} (hb0 : SqT K H b [.str "first"]) (hg : fit = true → x ∈ [V.str "first", .str "newest", .str "most"]) (hb : fit = false → x ∈ [V.non, .str "last", .ref b, .str ""]) : ∃ d, Is K H x d ∧ oneOfD d allC = fit := by
  cases fit with
  | true =>
    rcases mem3 (hg rfl) with rfl | rfl | rfl <;> exact ⟨_, .fl (by decide +kernel), by decide +kernel⟩
  | false =>
    rcases mem4 (hb rfl) with rfl | rfl | rfl | rfl
    · exact ⟨_, .fl rfl, rfl⟩
    · exact ⟨_, .fl (by decide +kernel), by decide +kernel⟩
    · exact ⟨_, .tup hb0 (by decide +kernel), by decide +kernel⟩
    · exact ⟨_, .fl (by decide +kernel), by decide +kernel⟩
theorem pick_mend (hg : fit = true → x ∈ [V.bl true, .bl false]) (hb : fit = false → x ∈ [V.non, .int 1, .int 0, .str "yes"]) : ∃ d, Is K H x d ∧ isBool d = fit := by
  cases fit with
  | true =>
    rcases mem2 (hg rfl) with rfl | rfl <;> exact ⟨_, .fl rfl, rfl⟩
  | false =>
    rcases mem4 (hb rfl) with rfl | rfl | rfl | rfl
    · exact ⟨_, .fl rfl, rfl⟩
    · exact ⟨_, .fl rfl, rfl⟩
    · exact ⟨_, .fl rfl, rfl⟩
    · exact ⟨_, .fl (by decide +kernel), rfl⟩
theorem pick_stop {b : Addr} (hb0 : SqT K H b [.int 1]) (hg : fit = true → x ∈ [V.non, .int 1, .int 2]) (hb : fit = false → x ∈ [V.int 0, .int 3, .bl true, .str "1", .ref b]) : ∃ d, Is K H x d ∧ limOk d = fit := by
  cases fit with
  | true =>
    rcases mem3 (hg rfl) with rfl | rfl | rfl <;> exact ⟨_, .fl rfl, by decide +kernel⟩
  | false =>
    rcases mem5 (hb rfl) with rfl | rfl | rfl | rfl | rfl
    · exact ⟨_, .fl rfl, by decide +kernel⟩
    · exact ⟨_, .fl rfl, by decide +kernel⟩
    · exact ⟨_, .fl rfl, by decide +kernel⟩
    · exact ⟨_, .fl (by decide +kernel), by decide +kernel⟩
    · exact ⟨_, .tup hb0 (by decide +kernel), by decide +kernel⟩
end
/-! ## which parts of a plan are wrong -/
def dueP (a b c d e : Bool) : List V := (if a then [] else [.str "SUMS"]) ++ ((if b then [] else [.str "ORDER"]) ++ ((if c then [] else [.str "CHOICE"]) ++ ((if d then [] else [.str "MENDS"]) ++ (if e then [] else [.str "LIMIT"]))))
theorem dueP_some {du dr dc dm dl : Dat} {wd : Str} (h : planBad du dr dc dm dl = some wd) : ∃ r, dueP (areSums du) (isOrder dr) (oneOfD dc allC) (isBool dm) (limOk dl) = .str wd :: r := by
  unfold planBad at h
  cases e1 : areSums du <;> cases e2 : isOrder dr <;> cases e3 : oneOfD dc allC <;> cases e4 : isBool dm <;> cases e5 : limOk dl <;> simp [e1, e2, e3, e4, e5] at h <;> subst h <;> exact ⟨_, rfl⟩
theorem dueP_none {du dr dc dm dl : Dat} (h : planBad du dr dc dm dl = none) : dueP (areSums du) (isOrder dr) (oneOfD dc allC) (isBool dm) (limOk dl) = [] := by
  obtain ⟨e1, e2, e3, e4, e5⟩ := planBad_use h
  rw [e1, e2, e3, e4, e5]
  rfl
theorem dueP_ok (a b c d e : Bool) : (dueP a b c d e).all okV = true := by
  cases a <;> cases b <;> cases c <;> cases d <;> cases e <;> decide +kernel
/-- after n of the five words -/
def duePN (a b c d e : Bool) : Nat → List V
  | 0 => dueP true true true true true
  | 1 => dueP a true true true true
  | 2 => dueP a b true true true
  | 3 => dueP a b c true true
  | 4 => dueP a b c d true
  | _ => dueP a b c d e
theorem dueP_len (a b c d e : Bool) : (dueP a b c d e).length ≤ 5 := by
  cases a <;> cases b <;> cases c <;> cases d <;> cases e <;> decide
theorem duePN_len (a b c d e : Bool) (n : Nat) : (duePN a b c d e n).length ≤ 5 := by
  match n with
  | 0 | 1 | 2 | 3 | 4 | n + 5 => exact dueP_len _ _ _ _ _
def wordsP : List V := [.str "SUMS", .str "ORDER", .str "CHOICE", .str "MENDS", .str "LIMIT"]
theorem duePN_step (a b c d e : Bool) (n : Nat) (x y : V) (hx : wordsP[n]? = some x) (hy : ([V.bl a, .bl b, .bl c, .bl d, .bl e] : List V)[n]? = some y) : ∃ wd fl, x = .str wd ∧ y = .bl fl ∧ duePN a b c d e (n + 1) = duePN a b c d e n ++ (if fl then [] else [.str wd]) := by
  match n with
  | 0 => cases hx; cases hy; exact ⟨_, _, rfl, rfl, by cases a <;> rfl⟩
  | 1 => cases hx; cases hy; exact ⟨_, _, rfl, rfl, by cases a <;> cases b <;> rfl⟩
  | 2 => cases hx; cases hy; exact ⟨_, _, rfl, rfl, by cases a <;> cases b <;> cases c <;> rfl⟩
  | 3 => cases hx; cases hy; exact ⟨_, _, rfl, rfl, by cases a <;> cases b <;> cases c <;> cases d <;> rfl⟩
  | 4 => cases hx; cases hy; exact ⟨_, _, rfl, rfl, by cases a <;> cases b <;> cases c <;> cases d <;> cases e <;> rfl⟩
  | n + 5 => exact nomatch hx
/-! ## two tuples abreast -/
theorem walk_zipT {K : PySem.W.Frag} {a b : Addr} {xs ys : List V} (hl : xs.length = ys.length) : Walk (RZ.ItzT K a b) xs.length (fun H => SqT K H a xs ∧ SqT K H b ys) (YPair (fun i => xs[i]?) (fun i => ys[i]?)) := by
  refine ⟨fun i H hi h => ⟨xs, ys, xs[i], ys[i]'(by omega), h.1, h.2, List.getElem?_eq_getElem hi, List.getElem?_eq_getElem (by omega)⟩, fun H h => ⟨xs, ys, h.1, h.2, Or.inl (Nat.le_refl _)⟩, fun i H x H' hi h y => ?_⟩
  obtain ⟨T, x', y', rfl, hT, rfl, f1, f2⟩ := y
  exact ⟨T, x', y', rfl, hT, rfl, f1 xs h.1, f2 ys h.2⟩
end KW

set_option Elab.async false
set_option linter.all false
set_option maxRecDepth 100000
set_option maxHeartbeats 4000000
namespace KW
open PySem PySem.Spec PyProof.Rows L2 LamX OwnOp
/-! ## _law_plan_right -/
abbrev nsPR : List Str := ["script", "at", "odd", "one", "two", "three", "four", "five", "due", "told", "plan", "parts", "words", "sums", "order", "way", "is_mending", "stop", "word", "does_fit"]
theorem pfs_turned (u r c m l : V) : (pfs u r c m l).lookup ("turned" : Str) = none := by
  have e1 : (("turned" : Str) == "sums") = false := by decide +kernel
  have e2 : (("turned" : Str) == "order") = false := by decide +kernel
  have e3 : (("turned" : Str) == "choice") = false := by decide +kernel
  have e4 : (("turned" : Str) == "mends") = false := by decide +kernel
  have e5 : (("turned" : Str) == "limit") = false := by decide +kernel
  simp [pfs, List.lookup, e1, e2, e3, e4, e5]
section
variable {P : Program} {w : World} {K : PySem.W.Frag} {mg : Str → Option Value} {base : Heap} {f c P0 : Addr} {fd : FuncData} {T : List (Addr × Str)}
theorem scPlanR : FnScope nsPR ["script", "at"] (defScope sPlanR) := ⟨rfl, rfl, rfl, by decide +kernel, rfl, by decide +kernel, by decide +kernel⟩
theorem ok_planR {fB cB PB : Addr} {fdB : FuncData} (F : FunC K "_law_plan_right" "_law_plan_right" sPlanR f fd c) (L : LawD K mg) (PA : PAll K mg L.A.T) (TB : TabB base mg c P0) (hT : InTabs T "_law_plan_right" P0)
    (FB : FunC K "_law_but_right" "_law_but_right" sButR fB fdB cB) (gB : mg "_law_but_right" = some (.ref fB)) (TBB : TabB base mg cB PB) (hTB : InTabs T "_law_but_right" PB) :
    FnOk P w K mg base CX0 11 f fd ["script", "at"] (spR K T) := by
  have okB : FnOk P w K mg base CX0 10 fB fdB ["script", "at", "plan", "parts"] (spButR K PA.PC.C T) := ok_butR FB L PA TBB hTB
  have bB := FB.fun.binds (ps := ["script", "at", "plan", "parts"]) fun _ _ _ _ _ _ us hl => match us, hl with | [_, _, _, _], _ => rfl
  refine F.ok scPlanR (fun vs H Q E h => ?_) (fun Ar outer s H vs Q E hr h => ?_)
  · obtain ⟨a, ns, i, rfl, _⟩ := h
    rfl
  · obtain ⟨a, ns, i, rfl, ha, hl, i0, i1, hTb, kQ⟩ := h
    have hr8 : Room 8 _ := hr.mono (by decide)
    have hr6 : Room 6 _ := hr.mono (by decide)
    have hr2 : Room 2 _ := hr.mono (by decide)
    obtain ⟨mv, kb⟩ := pb5 PA.PM.F
    have B := L.A.T.B
    refine ⟨_, pss_cons (ps_set (i := 2) scPlanR.nd rfl (Or.inl rfl) (pe_lst (pa_cons pe_non (pa_cons pe_int (pa_cons pe_str (pa_cons (pe_tup pa_nil) (pa_cons pe_bl pa_nil)))))))
      (pss_cons (ps_asg (pe_call L.okPk hr2 rfl L.Pk.g L.Pk.F.kp L.bPk .nil pass0 (pa_cons (pv 0) (pa_cons (pv 1) (pa_cons (pe_lst (pa_cons (pe_tup (pa_cons pe_str pa_nil)) (pa_cons (pe_tup (pa_cons pe_str (pa_cons pe_str pa_nil))) (pa_cons (pe_tup (pa_cons pe_str (pa_cons pe_str pa_nil))) pa_nil)))) (pa_cons (pe_op op_cat (pv 2) (pe_lst (pa_cons (pe_lst (pa_cons pe_str pa_nil)) (pa_cons (pe_tup (pa_cons pe_str pa_nil)) (pa_cons (pe_tup (pa_cons pe_str (pa_cons pe_str (pa_cons pe_str pa_nil)))) (pa_cons (pe_tup (pa_cons pe_non pa_nil)) pa_nil)))))) pa_nil))))) (pg_tup rfl (pgs_cons (pg_name (i := 13) scPlanR.nd rfl (Or.inr rfl)) (pgs_cons (pg_name (i := 3) scPlanR.nd rfl (Or.inl rfl)) pgs_nil))))
      (pss_cons (ps_asg (pe_call L.okPk hr2 rfl L.Pk.g L.Pk.F.kp L.bPk .nil pass0 (pa_cons (pv 0) (pa_cons (pe_op op_add (pv 1) pe_int) (pa_cons (pe_lst (pa_cons (pe_tup (pa_cons pe_int pa_nil)) (pa_cons (pe_tup (pa_cons pe_int (pa_cons pe_int pa_nil))) (pa_cons (pe_tup (pa_cons pe_int (pa_cons pe_int (pa_cons pe_int pa_nil)))) (pa_cons (pe_tup (pa_cons pe_int (pa_cons pe_int (pa_cons pe_int pa_nil)))) pa_nil))))) (pa_cons (pe_op op_cat (pv 2) (pe_lst (pa_cons (pe_lst (pa_cons pe_int pa_nil)) (pa_cons (pe_tup (pa_cons pe_int pa_nil)) (pa_cons (pe_tup (pa_cons pe_int (pa_cons pe_int pa_nil))) (pa_cons (pe_tup (pa_cons pe_int (pa_cons pe_int pa_nil))) (pa_cons (pe_tup (pa_cons pe_bl pa_nil)) (pa_cons (pe_tup (pa_cons pe_int (pa_cons pe_int (pa_cons pe_int (pa_cons pe_int pa_nil))))) pa_nil)))))))) pa_nil))))) (pg_tup rfl (pgs_cons (pg_name (i := 14) scPlanR.nd rfl (Or.inr rfl)) (pgs_cons (pg_name (i := 4) scPlanR.nd rfl (Or.inl rfl)) pgs_nil))))
      (pss_cons (ps_asg (pe_call L.okPk hr2 rfl L.Pk.g L.Pk.F.kp L.bPk .nil pass0 (pa_cons (pv 0) (pa_cons (pe_op op_add (pv 1) pe_int) (pa_cons (pe_lst (pa_cons pe_str (pa_cons pe_str (pa_cons pe_str pa_nil)))) (pa_cons (pe_lst (pa_cons pe_non (pa_cons pe_str (pa_cons (pe_tup (pa_cons pe_str pa_nil)) (pa_cons pe_str pa_nil))))) pa_nil))))) (pg_tup rfl (pgs_cons (pg_name (i := 15) scPlanR.nd rfl (Or.inr rfl)) (pgs_cons (pg_name (i := 5) scPlanR.nd rfl (Or.inl rfl)) pgs_nil))))
      (pss_cons (ps_asg (pe_call L.okPk hr2 rfl L.Pk.g L.Pk.F.kp L.bPk .nil pass0 (pa_cons (pv 0) (pa_cons (pe_op op_add (pv 1) pe_int) (pa_cons (pe_lst (pa_cons pe_bl (pa_cons pe_bl pa_nil))) (pa_cons (pe_lst (pa_cons pe_non (pa_cons pe_int (pa_cons pe_int (pa_cons pe_str pa_nil))))) pa_nil))))) (pg_tup rfl (pgs_cons (pg_name (i := 16) scPlanR.nd rfl (Or.inr rfl)) (pgs_cons (pg_name (i := 6) scPlanR.nd rfl (Or.inl rfl)) pgs_nil))))
      (pss_cons (ps_asg (pe_call L.okPk hr2 rfl L.Pk.g L.Pk.F.kp L.bPk .nil pass0 (pa_cons (pv 0) (pa_cons (pe_op op_add (pv 1) pe_int) (pa_cons (pe_lst (pa_cons pe_non (pa_cons pe_int (pa_cons pe_int pa_nil)))) (pa_cons (pe_lst (pa_cons pe_int (pa_cons pe_int (pa_cons pe_bl (pa_cons pe_str (pa_cons (pe_tup (pa_cons pe_int pa_nil)) pa_nil)))))) pa_nil))))) (pg_tup rfl (pgs_cons (pg_name (i := 17) scPlanR.nd rfl (Or.inr rfl)) (pgs_cons (pg_name (i := 7) scPlanR.nd rfl (Or.inl rfl)) pgs_nil))))
      (C8.pss_cut (ps_set (i := 12) scPlanR.nd rfl (Or.inl rfl) (pe_tup (pa_cons pe_str (pa_cons pe_str (pa_cons pe_str (pa_cons pe_str (pa_cons pe_str pa_nil)))))))
      (C8.pss_cut (ps_setLc (i := 8) (own := [("word", 18), ("does_fit", 19)]) (g := gTup K 2 (gCons (gName 18) (gCons (gName 19) gNil))) (tt := tNot (tB (tVar 19))) (te := tVar 18) (by rfl) scPlanR.nd rfl rfl (sw_true rfl rfl rfl (by decide +kernel)) (RZ.pi_zipA (by rfl) B.zip (pa_cons (pv 12) (pa_cons (pe_tup (pa_cons (pv 3) (pa_cons (pv 4) (pa_cons (pv 5) (pa_cons (pv 6) (pa_cons (pv 7) pa_nil)))))) pa_nil)))
          (blkOk_by (own := [("word", 18), ("does_fit", 19)]) (N := nsPR) (sc := defScope sPlanR) (by decide +kernel)) (fun _ _ _ _ _ => pg_tup rfl (pgs_cons (pg_name (i := 18) scPlanR.nd rfl (Or.inl rfl)) (pgs_cons (pg_name (i := 19) scPlanR.nd rfl (Or.inl rfl)) pgs_nil)))
          (fun _ _ _ _ _ => pts_one (pt_not (pt_val (pv 19)))) (fun _ _ _ _ _ => pv 18))
      (pss_cons (ps_set (i := 9) scPlanR.nd rfl (Or.inl rfl) (pe_part (T := T) (t := fun E => tMakeK PA.PC.C 2 (["choice", "mends", "limit"] : List Str).length (spPInit K PA.PC.C L.A.T.BP.C) (fun vs zs => vs ++ zs) E (tCons (tVar 13) (tCons (tVar 14) tNil)) (tCons (tVar 15) (tCons (tVar 16) (tCons (tVar 17) tNil)))) L.D L.A.T rfl TB rfl hT.mem hT.one hr8 (lamS_by (show lamSB (defScope sPlanR) _ = true by decide +kernel)) rfl (fun _ _ _ _ _ => rfl)
            (fun A1 o1 s1 H1 E1 f1 c1 hrL => (pe_makeK PA.PM.M PA.okI hrL rfl PA.PC.g kb (passes_call (takes_of rfl rfl rfl rfl) (fun _ _ _ _ h => h)) (pa_cons (pv 13) (pa_cons (pv 14) pa_nil)) (pk_cons (pv 15) (pk_cons (pv 16) (pk_cons (pv 17) pk_nil)))))))
      (pss_cons (ps_if (pt_cmpR op_ne (pv 9) (pe_ifExp (pt_cmpR (op_neD hr.units) (pv 8) (pe_lst pa_nil) (nomark _)) (pe_ix ix_list (pv 8) pe_int (fun _ _ => rfl)) pe_str) (nomark _)) (pss_one (ps_ret pe_bl)) pss_nil)
      (pss_cons (ps_if (pt_cmpR (op_neD hr.units) (pv 8) (pe_lst pa_nil) (nomark _)) (pss_one (ps_ret pe_bl)) pss_nil)
      (pss_cons (ps_par (i := 10) (j := 11) (by rfl) scPlanR.nd rfl rfl (by decide) rfl rfl (pa_cons (pe_makeK PA.PM.M PA.okI hr6 rfl PA.PC.g kb passL (pa_cons (pv 13) (pa_cons (pv 14) pa_nil)) (pk_cons (pv 15) (pk_cons (pv 16) (pk_cons (pv 17) pk_nil)))) (pa_cons (pe_tup (pa_cons (pv 13) (pa_cons (pv 14) (pa_cons (pv 15) (pa_cons (pv 16) (pa_cons (pv 17) pa_nil)))))) pa_nil)) (by rfl))
      (pss_cons (ps_if (pt_cmpR (op_neD hr.units) (pe_tup (pa_cons (pe_fld (pv 10) rfl) (pa_cons (pe_fld (pv 10) rfl) (pa_cons (pe_fld (pv 10) rfl) (pa_cons (pe_fld (pv 10) rfl) (pa_cons (pe_fld (pv 10) rfl) pa_nil)))))) (pv 11) (nomark _)) (pss_one (ps_ret pe_bl)) pss_nil)
      (pss_cons (ps_if (pt_cmpR (PA.opNe rfl rfl hr2) (pe_meth0 (pv 10) PA.PC.cl PA.MT PA.okT hr8 PA.bT .nil passL) (pe_makeK PA.PM.M PA.okI hr6 rfl PA.PC.g kb passL (pa_cons (pv 13) (pa_cons (pe_revT (pv 14)) pa_nil)) (pk_cons (pv 15) (pk_cons (pv 16) (pk_cons (pv 17) pk_nil)))) (nomark _)) (pss_one (ps_ret pe_bl)) pss_nil)
      (pss_one (ps_ret (pe_call okB hr rfl gB FB.kp bB .nil pass0 (pa_cons (pv 0) (pa_cons (pe_op op_add (pv 1) pe_int) (pa_cons (pv 10) (pa_cons (pv 11) pa_nil)))))))))))))))))))), ?_⟩
    -- odd
    refine ⟨(by decide), fun t1 ht1 => ⟨(by show 5 ≤ sizeLine; decide), fun O hO => ?_⟩⟩
    have s1 := same_upd (o := HO.tup []) ht1
    have s2 := same_upd (o := HO.lst (oddP t1)) hO
    have z2 := s1.trans s2
    have T2 : SqT K _ t1 [] := SqT.of (s2 _ _ upd_same)
    have O2 : (upd (upd H t1 (.tup [])) O (.lst (oddP t1))) O = some (.lst (oddP t1)) := upd_same
    -- sums, one
    refine ⟨_, rfl, _, rfl, ?_⟩
    refine ⟨by decide, fun q0 hq0 => ⟨by decide, fun q1 hq1 => ⟨by decide, fun q2 hq2 => ⟨by show 3 ≤ sizeLine; decide, fun g1 hg1 => ?_⟩⟩⟩⟩
    have e0 := same_upd (o := HO.tup [V.str "bare"]) hq0
    have e1 := same_upd (o := HO.tup [V.str "noted", .str "whole"]) hq1
    have e2 := same_upd (o := HO.tup [V.str "named", .str "named"]) hq2
    have e3 := same_upd (o := HO.lst [V.ref q0, .ref q1, .ref q2]) hg1
    refine ⟨_, rfl, ?_⟩
    refine ⟨by decide, fun r0 hr0 => ⟨by decide, fun r1 hr1 => ⟨by show 3 ≤ sizeLine; decide, fun r2 hr2' => ⟨by decide, fun r3 hr3 => ⟨by show 4 ≤ sizeLine; decide, fun x1 hx1 => ?_⟩⟩⟩⟩⟩
    have f0 := same_upd (o := HO.lst [V.str "bare"]) hr0
    have f1 := same_upd (o := HO.tup [V.str "sum"]) hr1
    have f2 := same_upd (o := HO.tup [V.str "bare", .str "bare", .str "bare"]) hr2'
    have f3 := same_upd (o := HO.tup [V.non]) hr3
    have f4 := same_upd (o := HO.lst [V.ref r0, .ref r1, .ref r2, .ref r3]) hx1
    have k3 := f3.trans f4
    have k2 := f2.trans k3
    have k1 := f1.trans k2
    have k0 := f0.trans k1
    have m3 := e3.trans k0
    have m2 := e2.trans m3
    have m1 := e1.trans m2
    have m0 := e0.trans m1
    refine ⟨O, x1, oddP t1, [.ref r0, .ref r1, .ref r2, .ref r3], rfl, rfl, m0 _ _ O2, upd_same, by show 9 ≤ sizeLine; decide, fun b1 hb1 => ?_⟩
    have s3 := same_upd (o := HO.lst (oddP t1 ++ [.ref r0, .ref r1, .ref r2, .ref r3])) hb1
    have z3 := m0.trans s3
    refine ⟨a, ns, i, g1, b1, _, _, rfl, (z2.trans z3).seq ha, hl, i0, by omega, SqL.of (s3 _ _ (k0 _ _ upd_same)), SqL.of upd_same, by show 0 < 3; decide, by show 0 < 9; decide, by show 3 ≤ 1000; decide, by show 9 ≤ 1000; decide, fun H4 p4 vu one s4 hp4 n1 n2 hd4 => ?_⟩
    have z4 := z3.trans s4
    have y4 := s3.trans s4
    obtain ⟨du, is1, sh1, c1⟩ := pick_sums (KW.Same.sqT z4 T2) (SqT.of (y4 _ _ (m1 _ _ upd_same))) (SqT.of (y4 _ _ (m2 _ _ upd_same))) (SqT.of (y4 _ _ (m3 _ _ upd_same))) (SqL.of (y4 _ _ (k1 _ _ upd_same))) (SqT.of (y4 _ _ (k2 _ _ upd_same))) (SqT.of (y4 _ _ (k3 _ _ upd_same))) (SqT.of (y4 _ _ (f4 _ _ upd_same))) n1 n2
    refine ⟨p4, _, rfl, SqT.of hd4, rfl, _, _, rfl, _, _, rfl, rfl, ?_⟩
    have O4 := z4 _ _ O2
    have T4 := KW.Same.sqT z4 T2
    have w4 := z2.trans z4
    clear hq0 hq1 hq2 hg1 e0 e1 e2 e3 hr0 hr1 hr2' hr3 hx1 f0 f1 f2 f3 f4 k0 k1 k2 k3 m0 m1 m2 m3 hb1 s3 z3 s4 z4 y4 n1 n2 T2 O2 s1 s2 z2 ht1 hO hd4 hp4
    -- order, two
    refine ⟨_, rfl, _, rfl, _, _, rfl, rfl, ?_⟩
    refine ⟨by decide, fun q0 hq0 => ⟨by decide, fun q1 hq1 => ⟨by show 3 ≤ sizeLine; decide, fun q2 hq2 => ⟨by show 3 ≤ sizeLine; decide, fun q3 hq3 => ⟨by show 4 ≤ sizeLine; decide, fun g1 hg1 => ?_⟩⟩⟩⟩⟩
    have e0 := same_upd (o := HO.tup [V.int 0]) hq0
    have e1 := same_upd (o := HO.tup [V.int 1, .int 0]) hq1
    have e2 := same_upd (o := HO.tup [V.int 2, .int 0, .int 1]) hq2
    have e3 := same_upd (o := HO.tup [V.int 0, .int 1, .int 2]) hq3
    have e4 := same_upd (o := HO.lst [V.ref q0, .ref q1, .ref q2, .ref q3]) hg1
    refine ⟨_, rfl, ?_⟩
    refine ⟨by decide, fun r0 hr0 => ⟨by decide, fun r1 hr1 => ⟨by decide, fun r2 hr2' => ⟨by decide, fun r3 hr3 => ⟨by decide, fun r4 hr4 => ⟨by show 4 ≤ sizeLine; decide, fun r5 hr5 => ⟨by show 6 ≤ sizeLine; decide, fun x1 hx1 => ?_⟩⟩⟩⟩⟩⟩⟩
    have f0 := same_upd (o := HO.lst [V.int 0]) hr0
    have f1 := same_upd (o := HO.tup [V.int 1]) hr1
    have f2 := same_upd (o := HO.tup [V.int 0, .int 0]) hr2'
    have f3 := same_upd (o := HO.tup [V.int 0, .int 2]) hr3
    have f4 := same_upd (o := HO.tup [V.bl false]) hr4
    have f5 := same_upd (o := HO.tup [V.int 0, .int 1, .int 2, .int 3]) hr5
    have f6 := same_upd (o := HO.lst [V.ref r0, .ref r1, .ref r2, .ref r3, .ref r4, .ref r5]) hx1
    have k5 := f5.trans f6
    have k4 := f4.trans k5
    have k3 := f3.trans k4
    have k2 := f2.trans k3
    have k1 := f1.trans k2
    have k0 := f0.trans k1
    have m4 := e4.trans k0
    have m3 := e3.trans m4
    have m2 := e2.trans m3
    have m1 := e1.trans m2
    have m0 := e0.trans m1
    refine ⟨O, x1, oddP t1, [.ref r0, .ref r1, .ref r2, .ref r3, .ref r4, .ref r5], rfl, rfl, m0 _ _ O4, upd_same, by show 11 ≤ sizeLine; decide, fun b1 hb1 => ?_⟩
    have s3 := same_upd (o := HO.lst (oddP t1 ++ [.ref r0, .ref r1, .ref r2, .ref r3, .ref r4, .ref r5])) hb1
    have z3 := m0.trans s3
    refine ⟨a, ns, i + 1, g1, b1, _, _, rfl, (w4.trans z3).seq ha, hl, by omega, by omega, SqL.of (s3 _ _ (k0 _ _ upd_same)), SqL.of upd_same, by show 0 < 4; decide, by show 0 < 11; decide, by show 4 ≤ 1000; decide, by show 11 ≤ 1000; decide, fun H6 p6 vr two s4 hp6 n1 n2 hd6 => ?_⟩
    have z4 := z3.trans s4
    have y4 := s3.trans s4
    obtain ⟨dr, is2, sh2, c2⟩ := pick_order (KW.Same.sqT z4 T4) (SqT.of (y4 _ _ (m1 _ _ upd_same))) (SqT.of (y4 _ _ (m2 _ _ upd_same))) (SqT.of (y4 _ _ (m3 _ _ upd_same))) (SqT.of (y4 _ _ (m4 _ _ upd_same))) (SqL.of (y4 _ _ (k1 _ _ upd_same))) (SqT.of (y4 _ _ (k2 _ _ upd_same))) (SqT.of (y4 _ _ (k3 _ _ upd_same))) (SqT.of (y4 _ _ (k4 _ _ upd_same))) (SqT.of (y4 _ _ (k5 _ _ upd_same))) (SqT.of (y4 _ _ (f6 _ _ upd_same))) n1 n2
    refine ⟨p6, _, rfl, SqT.of hd6, rfl, _, _, rfl, _, _, rfl, rfl, ?_⟩
    have w6 := w4.trans z4
    have is1' := KW.Same.is z4 is1
    clear hq0 hq1 hq2 hq3 hg1 e0 e1 e2 e3 e4 hr0 hr1 hr2' hr3 hr4 hr5 hx1 f0 f1 f2 f3 f4 f5 f6 k0 k1 k2 k3 k4 k5 m0 m1 m2 m3 m4 hb1 s3 z3 s4 z4 y4 n1 n2 O4 T4 hd6 hp6 is1 w4
    -- way, three
    refine ⟨_, rfl, _, rfl, _, _, rfl, rfl, ?_⟩
    refine ⟨by show 3 ≤ sizeLine; decide, fun g1 hg1 => ⟨by decide, fun r0 hr0 => ⟨by show 4 ≤ sizeLine; decide, fun b1 hb1 => ?_⟩⟩⟩
    have e0 := same_upd (o := HO.lst [V.str "first", .str "newest", .str "most"]) hg1
    have e1 := same_upd (o := HO.tup [V.str "first"]) hr0
    have e2 := same_upd (o := HO.lst [V.non, .str "last", .ref r0, .str ""]) hb1
    have m1 := e1.trans e2
    have m0 := e0.trans m1
    refine ⟨a, ns, i + 2, g1, b1, _, _, rfl, (w6.trans m0).seq ha, hl, by omega, by omega, SqL.of (m1 _ _ upd_same), SqL.of upd_same, by show 0 < 3; decide, by show 0 < 4; decide, by show 3 ≤ 1000; decide, by show 4 ≤ 1000; decide, fun H8 p8 vc three s4 hp8 n1 n2 hd8 => ?_⟩
    obtain ⟨dc, is3, c3⟩ := pick_way (K := K) (SqT.of (s4 _ _ (e2 _ _ upd_same))) n1 n2
    refine ⟨p8, _, rfl, SqT.of hd8, rfl, _, _, rfl, _, _, rfl, rfl, ?_⟩
    have z8 := m0.trans s4
    have w8 := w6.trans z8
    have js1 := KW.Same.is z8 is1'
    have js2 := KW.Same.is z8 is2
    clear hg1 hr0 hb1 e0 e1 e2 m1 m0 s4 n1 n2 hd8 hp8 z8 is1' is2 w6
    -- is_mending, four
    refine ⟨_, rfl, _, rfl, _, _, rfl, rfl, ?_⟩
    refine ⟨by show 2 ≤ sizeLine; decide, fun g1 hg1 => ⟨by show 4 ≤ sizeLine; decide, fun b1 hb1 => ?_⟩⟩
    have e0 := same_upd (o := HO.lst [V.bl true, .bl false]) hg1
    have e2 := same_upd (o := HO.lst [V.non, .int 1, .int 0, .str "yes"]) hb1
    have m0 := e0.trans e2
    refine ⟨a, ns, i + 3, g1, b1, _, _, rfl, (w8.trans m0).seq ha, hl, by omega, by omega, SqL.of (e2 _ _ upd_same), SqL.of upd_same, by show 0 < 2; decide, by show 0 < 4; decide, by show 2 ≤ 1000; decide, by show 4 ≤ 1000; decide, fun H9 p9 vm four s4 hp9 n1 n2 hd9 => ?_⟩
    obtain ⟨dm, is4, c4⟩ := pick_mend (K := K) (H := H9) n1 n2
    refine ⟨p9, _, rfl, SqT.of hd9, rfl, _, _, rfl, _, _, rfl, rfl, ?_⟩
    have z9 := m0.trans s4
    have w9 := w8.trans z9
    have ks1 := KW.Same.is z9 js1
    have ks2 := KW.Same.is z9 js2
    have ks3 := KW.Same.is z9 is3
    clear hg1 hb1 e0 e2 m0 s4 n1 n2 hd9 hp9 z9 js1 js2 is3 w8
    -- stop, five
    refine ⟨_, rfl, _, rfl, _, _, rfl, rfl, ?_⟩
    refine ⟨by show 3 ≤ sizeLine; decide, fun g1 hg1 => ⟨by decide, fun r0 hr0 => ⟨by show 5 ≤ sizeLine; decide, fun b1 hb1 => ?_⟩⟩⟩
    have e0 := same_upd (o := HO.lst [V.non, .int 1, .int 2]) hg1
    have e1 := same_upd (o := HO.tup [V.int 1]) hr0
    have e2 := same_upd (o := HO.lst [V.int 0, .int 3, .bl true, .str "1", .ref r0]) hb1
    have m1 := e1.trans e2
    have m0 := e0.trans m1
    refine ⟨a, ns, i + 4, g1, b1, _, _, rfl, (w9.trans m0).seq ha, hl, by omega, by omega, SqL.of (m1 _ _ upd_same), SqL.of upd_same, by show 0 < 3; decide, by show 0 < 5; decide, by show 3 ≤ 1000; decide, by show 5 ≤ 1000; decide, fun H10 p10 vl five s4 hp10 n1 n2 hd10 => ?_⟩
    obtain ⟨dl, is5, c5⟩ := pick_stop (K := K) (SqT.of (s4 _ _ (e2 _ _ upd_same))) n1 n2
    refine ⟨p10, _, rfl, SqT.of hd10, rfl, _, _, rfl, _, _, rfl, rfl, ?_⟩
    have z10 := m0.trans s4
    have w10 := w9.trans z10
    have ls1 := KW.Same.is z10 ks1
    have ls2 := KW.Same.is z10 ks2
    have ls3 := KW.Same.is z10 ks3
    have ls4 := KW.Same.is z10 is4
    clear hg1 hr0 hb1 e0 e1 e2 m1 m0 s4 n1 n2 hd10 hp10 z10 ks1 ks2 ks3 is4 w9
    -- words
    refine ⟨fun σ H' => ∃ Wd : Addr, σ = [some (.ref a), some (.int i), some (.ref O), some (.bl one), some (.bl two), some (.bl three), some (.bl four), some (.bl five), none, none, none, none, some (.ref Wd), some vu, some vr, some vc, some vm, some vl, none, none] ∧ Same H10 H' ∧ SqT K H' Wd wordsP, ?_, ?_⟩
    · exact ⟨(by show 5 ≤ sizeLine; decide), fun Wd hWd => ⟨Wd, rfl, same_upd hWd, SqT.of upd_same⟩⟩
    rintro σ11 H11 ⟨Wd, rfl, s11, hW11⟩
    have w11 := w10.trans s11
    -- due
    refine ⟨fun σ H' => ∃ Dd : Addr, σ = [some (.ref a), some (.int i), some (.ref O), some (.bl one), some (.bl two), some (.bl three), some (.bl four), some (.bl five), some (.ref Dd), none, none, none, some (.ref Wd), some vu, some vr, some vc, some vm, some vl, none, none] ∧ Same H11 H' ∧ H' Dd = some (.lst (dueP one two three four five)), ?_, ?_⟩
    · refine ⟨_, rfl, _, rfl, _, rfl, _, rfl, _, rfl, _, rfl, (by show 5 ≤ sizeLine; decide), fun R hR => ⟨Wd, R, wordsP, _, rfl, .inr ⟨KW.Same.sqT (same_upd hR) hW11, SqT.of upd_same, fun Dd hDd => ?_⟩⟩⟩
      have sR := same_upd (o := HO.tup [V.bl one, .bl two, .bl three, .bl four, .bl five]) hR
      refine lc_it (walk_zipT (xs := wordsP) (ys := [V.bl one, .bl two, .bl three, .bl four, .bl five]) rfl) (fun n H' => Same (upd H11 R (.tup [V.bl one, .bl two, .bl three, .bl four, .bl five])) H' ∧ H' Dd = some (.lst (duePN one two three four five n))) ⟨same_upd hDd, by rw [upd_same]; rfl⟩ (fun n H' _ p => ⟨KW.Same.sqT p.1 (KW.Same.sqT sR hW11), KW.Same.sqT p.1 (SqT.of upd_same)⟩) ?_ ?_
      · rintro n x H' H'' hn ⟨hs, hd⟩ ⟨Tt, x', y', rfl, hT0, rfl, e1, e2⟩
        obtain ⟨wd, fl, rfl, rfl, e3⟩ := duePN_step one two three four five n x' y' e1 e2
        have sT := same_upd (o := HO.tup [V.str wd, .bl fl]) hT0
        have hd' := sT _ _ hd
        refine ⟨Tt, _, rfl, SqT.of upd_same, rfl, _, _, rfl, _, _, rfl, rfl, rfl, _, rfl, _, rfl, ?_⟩
        cases fl with
        | true =>
          refine iteF ⟨hs.trans sT, ?_⟩
          rw [e3, hd', if_pos rfl, List.append_nil]
        | false =>
          refine iteT ⟨_, rfl, _, hd', small1000 (Nat.le_trans (duePN_len _ _ _ _ _ n) (by decide)), same_keep (hs.trans sT) hDd, ?_⟩
          rw [upd_same, e3]
          rfl
      · rintro H' ⟨hs, hd⟩
        exact ⟨Dd, rfl, sR.trans hs, hd⟩
    · rintro σ12 H12 ⟨Dd, rfl, s12, hDd⟩
      have w12 := w11.trans s12
      have t12 := hTb.ext w12
      rw [← c1, ← c2, ← c3, ← c4, ← c5] at hDd
      have z12 := s11.trans s12
      -- asked
      refine ⟨t12, fun H13 x13 t13 => ?_⟩
      have hD13 := x13 _ _ hDd fun ps z => by cases z
      have hW13 := ext_sqT (x13) (KW.Same.sqT s12 hW11)
      have okD := dueP_ok (areSums du) (isOrder dr) (oneOfD dc allC) (isBool dm) (limOk dl)
      have b1 := ext_is x13 (KW.Same.is z12 ls1)
      have b2 := ext_is x13 (KW.Same.is z12 ls2)
      have b3 := ext_is x13 (KW.Same.is z12 ls3)
      have b4 := ext_is x13 (KW.Same.is z12 ls4)
      have b5 := ext_is x13 (KW.Same.is z12 is5)
      have X13 := (ext_same w12).trans x13
      refine ⟨_, rfl, _, rfl, _, rfl, _, rfl, _, rfl, rfl, rfl, ?_⟩
      refine plan_mkR b1 b2 b3 b4 b5 sh1 sh2 (fun wd k e H14 s14 he => ?_) (fun d q1 q2 q3 q4 q5 p14 H14 s14 hp14 kp14 => ⟨rfl, ?_⟩)
      · -- some part is wrong: it is told
        refine ⟨L.A.T.BP.C, e, .str wd, false, true, rfl, L.Td.xP, L.Td.fP, L.Td.nP, L.Td.eP, rfl, he, L.Td.p1, L.Td.p2, by decide, ?_⟩
        obtain ⟨rs, hrs⟩ := dueP_some k
        have hD14 := s14 _ _ hD13
        rw [hrs] at okD hD14
        refine ⟨_, rfl, _, rfl, by decide, fun n0 hn0 => ?_⟩
        have s20 := same_upd (o := HO.lst []) hn0
        refine ⟨.list ((V.str wd :: rs).map toPy), .list (([] : List V).map toPy), .lst (SqL.of (s20 _ _ hD14)) (dpAll_ok okD), .lst (SqL.of upd_same) .nil, shaped_lst okD, shaped_lst rfl, _, rfl, ?_⟩
        rw [eqv_lst okD rfl]
        refine iteT ⟨_, rfl, Dd, _, 0, .str wd, rfl, rfl, SqL.of (s20 _ _ hD14), atI_nat rfl, rfl, _, rfl, ?_⟩
        refine iteBF (by rw [decide_eq_true rfl]; rfl) ?_
        refine ⟨_, rfl, by decide, fun n1 hn1 => ?_⟩
        have s21 := same_upd (o := HO.lst []) hn1
        refine ⟨.list ((V.str wd :: rs).map toPy), .list (([] : List V).map toPy), .lst (SqL.of (s21 _ _ (s20 _ _ hD14))) (dpAll_ok okD), .lst (SqL.of upd_same) .nil, shaped_lst okD, shaped_lst rfl, _, rfl, ?_⟩
        rw [eqv_lst okD rfl]
        refine iteT ?_
        have y := s14.trans (s20.trans s21)
        exact kQ _ (X13.trans (ext_same y)) (t13.ext y)
      · -- all parts are right
        subst q1 q2 q3 q4 q5
        have bad := kp14.ok
        have hz := dueP_none (show planBad (.tup d.u) (.tup d.r) (.fl d.c) (.fl d.m) (.fl d.l) = none from bad)
        have hD14 := s14 _ _ hD13
        rw [hz] at hD14
        refine ⟨_, rfl, _, rfl, by decide, fun f0 hf0 => ?_⟩
        have s20 := same_upd (o := HO.lst []) hf0
        refine ⟨.list (([] : List V).map toPy), .list (([] : List V).map toPy), .lst (SqL.of (s20 _ _ hD14)) .nil, .lst (SqL.of upd_same) .nil, shaped_lst rfl, shaped_lst rfl, _, rfl, ?_⟩
        rw [eqv_lst rfl rfl]
        refine iteF ⟨rfl, _, rfl, ?_⟩
        refine iteBF (by rw [decide_eq_true rfl]; rfl) ?_
        refine ⟨_, rfl, by decide, fun f9 hf9 => ?_⟩
        have s21 := same_upd (o := HO.lst []) hf9
        refine ⟨.list (([] : List V).map toPy), .list (([] : List V).map toPy), .lst (SqL.of (s21 _ _ (s20 _ _ hD14))) .nil, .lst (SqL.of upd_same) .nil, shaped_lst rfl, shaped_lst rfl, _, rfl, ?_⟩
        rw [eqv_lst rfl rfl]
        refine iteF ?_
        have y21 := s14.trans (s20.trans s21)
        have x21 := x13.trans (ext_same y21)
        have X21 := (ext_same w12).trans x21
        have t21 := t13.ext y21
        obtain ⟨hu, rfl, hu21⟩ := is_tup (KW.Same.is y21 b1)
        obtain ⟨hrr, rfl, hr21⟩ := is_tup (KW.Same.is y21 b2)
        obtain rfl := is_fl b3
        obtain rfl := is_fl b4
        obtain rfl := is_fl b5
        have g1 := KW.Same.is y21 b1
        have g2 := KW.Same.is y21 b2
        have g3 := KW.Same.is y21 b3
        have g4 := KW.Same.is y21 b4
        have g5 := KW.Same.is y21 b5
        obtain ⟨u1, u2, u3, u4, u5⟩ := planBad_use bad
        obtain ⟨v1, v2, v3⟩ := PD.flat bad
        generalize upd (upd H14 f0 (.lst [])) f9 (.lst []) = H21 at *
        -- plan, parts
        refine ⟨_, rfl, _, rfl, _, rfl, _, rfl, _, rfl, rfl, rfl, ?_⟩
        refine plan_mkR g1 g2 g3 g4 g5 sh1 sh2 (fun wd k => ?_) (fun d' q1 q2 q3 q4 q5 p H22 s22 hp22 kp => ⟨rfl, ?_⟩)
        · rw [show planBad (.tup d.u) (.tup d.r) (.fl d.c) (.fl d.m) (.fl d.l) = none from bad] at k
          cases k
        have ed : d = d' := pd_ext (d := d) (u := d'.u) (r := d'.r) (c := d'.c) (m := d'.m) (l := d'.l) q1.symm q2.symm q3.symm q4.symm q5.symm
        subst ed
        have hu22 := KW.Same.sqT s22 hu21
        have hr22 := KW.Same.sqT s22 hr21
        have X22 := X21.trans (ext_same s22)
        have t22 := t21.ext s22
        refine ⟨_, rfl, _, rfl, _, rfl, _, rfl, _, rfl, (by show 5 ≤ sizeLine; decide), fun pt hpt => ⟨_, _, rfl, ?_⟩⟩
        have s23 := same_upd (o := HO.tup [V.ref hu, .ref hrr, d.c, d.m, d.l]) hpt
        have hpt23 : SqT K (upd H22 pt (.tup [V.ref hu, .ref hrr, d.c, d.m, d.l])) pt [V.ref hu, .ref hrr, d.c, d.m, d.l] := SqT.of upd_same
        have kp23 := KW.Same.plan s23 kp
        obtain ⟨dx, au, ar, o1, o2, o3⟩ := kp23.ob
        -- its parts
        refine ⟨_, rfl, p, PA.PC.C, dx, _, _, rfl, o1, PA.PC.cl, PA.PC.n1, pfs_u _ _ _ _ _, _, rfl, p, PA.PC.C, dx, _, _, rfl, o1, PA.PC.cl, PA.PC.n2, pfs_r _ _ _ _ _, _, rfl, p, PA.PC.C, dx, _, _, rfl, o1, PA.PC.cl, PA.PC.n3, pfs_c _ _ _ _ _, _, rfl, p, PA.PC.C, dx, _, _, rfl, o1, PA.PC.cl, PA.PC.n4, pfs_m _ _ _ _ _, _, rfl, p, PA.PC.C, dx, _, _, rfl, o1, PA.PC.cl, PA.PC.n5, pfs_l _ _ _ _ _, (by show 5 ≤ sizeLine; decide), fun tu htu => ?_⟩
        have s24 := same_upd (o := HO.tup [V.ref au, .ref ar, d.c, d.m, d.l]) htu
        have y24 := s23.trans s24
        have io := int_ok (order_use u2).2.1
        refine ⟨_, rfl, .tuple d.py, .tuple d.py, .tup (SqT.of upd_same) (.cons (.tup (KW.Same.sqT s24 o2) (dpAll_ok (sums_ok u1))) (.cons (.tup (KW.Same.sqT s24 o3) (dpAll_ok io)) (.cons (dp_ok v1) (.cons (dp_ok v2) (.cons (dp_ok v3) .nil))))),
          .tup (KW.Same.sqT s24 hpt23) (.cons (.tup (KW.Same.sqT y24 hu22) (dpAll_ok (sums_ok u1))) (.cons (.tup (KW.Same.sqT y24 hr22) (dpAll_ok io)) (.cons (dp_ok v1) (.cons (dp_ok v2) (.cons (dp_ok v3) .nil))))), py_shaped bad, py_shaped bad, _, rfl, ?_⟩
        rw [py_eqv bad bad]
        refine iteBF (by rw [decide_eq_true rfl]; rfl) ?_
        have kp24 := KW.Same.plan s24 kp23
        -- turned
        refine ⟨_, rfl, p, dx, _, rfl, s24 _ _ o1, pfs_turned _ _ _ _ _, ?_⟩
        refine ⟨p, d, rfl, kp24, fun pT H25 s25 hpT kT => ?_⟩
        have y25 := y24.trans s25
        refine ⟨_, rfl, _, rfl, hrr, d.r, rfl, KW.Same.sqT y25 hr22, fun lr hlr => ⟨_, rfl, _, rfl, _, rfl, rfl, rfl, ?_⟩⟩
        have s26 := same_upd (o := HO.tup d.r.reverse) hlr
        have y26 := (s22.trans y25).trans s26
        have ior : d.r.reverse.all okV = true := by
          rw [List.all_reverse]
          exact io
        have bT : planBad (.tup d.u) (.tup d.r.reverse) (.fl d.c) (.fl d.m) (.fl d.l) = none := planBad_none u1 (order_rev u2) u3 u4 u5
        refine plan_mkR (KW.Same.is y26 g1) (.tup (SqT.of upd_same) ior) (KW.Same.is y26 g3) (KW.Same.is y26 g4) (KW.Same.is y26 g5) sh1 (Nat.le_trans (Nat.le_of_eq (List.length_reverse)) (Nat.le_trans (order_use u2).1.2 (by decide))) (fun wd k => ?_) (fun d' q1 q2 q3 q4 q5 pN H27 s27 hpN kN => ⟨rfl, ?_⟩)
        · rw [bT] at k
          cases k
        have eN : d' = d.turned := pd_ext (d := d') (u := d.turned.u) (r := d.turned.r) (c := d.turned.c) (m := d.turned.m) (l := d.turned.l) q1 q2 q3 q4 q5
        subst eN
        refine rd_peq (KW.Same.plan (s26.trans s27) kT) kN ⟨_, rfl, ?_⟩
        refine iteBF (by rw [decide_eq_true rfl]; rfl) ?_
        -- with another part
        have y27 := y26.trans s27
        have z27 := y25.trans (s26.trans s27)
        have m27 := s24.trans (s25.trans (s26.trans s27))
        have X27 := X21.trans (ext_same y27)
        have t27 := t21.ext y27
        refine ⟨_, rfl, _, rfl, _, _, rfl, rfl, _, rfl, _, rfl, a, ns, i + 5, p, pt, hu, hrr, d, rfl, ext_sqL X27 ha, hl, by omega, by omega, KW.Same.plan z27 kp, KW.Same.sqT m27 hpt23, KW.Same.sqT y27 hu21, KW.Same.sqT y27 hr21, t27, fun H28 x28 t28 => ?_⟩
        exact kQ _ (X27.trans x28) t28
end
end KW

set_option Elab.async false
set_option linter.all false
set_option maxRecDepth 100000
set_option maxHeartbeats 4000000
namespace KW
open PySem PySem.Spec PyProof.Rows L2 LamX OwnOp
/-! ## law -/
theorem kb3m {K : PySem.W.Frag} {aE f : Addr} {fd : FuncData} (F : FKI K aE f fd) : ∃ its mv : List Value, KBn K fd psK 3 ["most"] (fun us ws => us ++ its ++ ws) (fun vs zs => vs ++ [.ref aE] ++ zs) :=
  F.kbinds 3 ["most"] [] (fun us its _ ws => us ++ its ++ ws) (by simp) (by simp) (fun q hq => by cases hq) (fun r1 r2 _ r4 => (r1.append r2).append r4)
    (fun T D doc pm an cdv ct us its mv ws h1 h2 h3 h4 => match us, its, mv, ws, h1, h2, h3, h4 with
    | [_, _, _], [_], [], [_], _, _, _, _ => ⟨_, rfl, rfl⟩)
def rowsD : List KD := [⟨1, 1, [], 1⟩, ⟨2, 1, [], 1⟩, ⟨2, 2, [], 1⟩, ⟨2, 1, [.str "late"], 1⟩, ⟨2, 1, [], 0⟩, KD.full ⟨2, 1, [], 1⟩]
def Rows (K : PySem.W.Frag) (C R : Addr) (ks : List Addr) (H : Hp) : Prop := SqL K H R (ks.map V.ref) ∧ ∀ (j : Nat) (k : Addr) (d : KD), ks[j]? = some k → rowsD[j]? = some d → KeepAt K C H k d
theorem rows_at {ks : List Addr} {n : Nat} {v : V} (hl : ks.length = 6) (h : (ks.map V.ref)[n]? = some v) : ∃ k d, ks[n]? = some k ∧ rowsD[n]? = some d ∧ v = .ref k := by
  rw [List.getElem?_map] at h
  cases e : ks[n]? with
  | none => rw [e] at h; cases h
  | some k =>
    rw [e] at h
    have hn : n < 6 := by
      rw [← hl]
      exact (List.getElem?_eq_some_iff.mp e).1
    exact ⟨k, rowsD[n]'hn, rfl, List.getElem?_eq_getElem hn, (Option.some.inj h).symm⟩
theorem rows_inj {n m : Nat} {d e : KD} (h1 : rowsD[n]? = some d) (h2 : rowsD[m]? = some e) : decide (d = e) = decide (V.int (n : Int) = V.int (m : Int)) := by
  have hn : n < 6 := (List.getElem?_eq_some_iff.mp h1).1
  have hm : m < 6 := (List.getElem?_eq_some_iff.mp h2).1
  have key : ∀ n ∈ List.range 6, ∀ m ∈ List.range 6, decide (rowsD[n]? = rowsD[m]?) = decide (n = m) := by decide +kernel
  have k := key n (List.mem_range.mpr hn) m (List.mem_range.mpr hm)
  rw [h1, h2] at k
  have e1 : decide (some d = some e) = decide (d = e) := decide_eq_decide.mpr ⟨fun q => Option.some.inj q, fun q => congrArg some q⟩
  have e2 : decide (V.int (n : Int) = V.int (m : Int)) = decide (n = m) := decide_eq_decide.mpr ⟨fun q => by have := V.int.inj q; omega, fun q => by rw [q]⟩
  rw [e2, ← k, e1]
abbrev nsLw : List Str := ["script", "turn", "rows", "at", "one", "spot", "other", "plain"]
def spLaw (K : PySem.W.Frag) (T : List (Addr × Str)) : Sp := fun vs H Q _ => ∃ (a : Addr) (ns : List Int), vs = [.ref a] ∧ SqL K H a (ns.map V.int) ∧ ns.length ≤ 63 ∧ Tabs T H ∧ ∀ H', Q (.bl true) H'
section
variable {P : Program} {w : World} {K : PySem.W.Frag} {mg : Str → Option Value} {base : Heap} {f c P0 : Addr} {fd : FuncData} {T : List (Addr × Str)}
theorem scLaw : FnScope nsLw ["script"] (defScope sLaw) := ⟨rfl, rfl, rfl, by decide +kernel, rfl, by decide +kernel, by decide +kernel⟩
theorem ok_law {fK cK PK fO cO PO fP cP PP fB cB PB : Addr} {fdK fdO fdP fdB : FuncData} (F : Fun K "law" "law" sLaw f fd) (L : LawD K mg) (PA : PAll K mg L.A.T)
    (FK : FunC K "_law_keep_right" "_law_keep_right" sKeepR fK fdK cK) (gK : mg "_law_keep_right" = some (.ref fK)) (TK : TabB base mg cK PK) (iK : InTabs T "_law_keep_right" PK)
    (FO : FunC K "_law_operators_right" "_law_operators_right" sOpR fO fdO cO) (gO : mg "_law_operators_right" = some (.ref fO)) (TO : TabB base mg cO PO) (iO : InTabs T "_law_operators_right" PO)
    (FP : FunC K "_law_plan_right" "_law_plan_right" sPlanR fP fdP cP) (gP : mg "_law_plan_right" = some (.ref fP)) (TP : TabB base mg cP PP) (iP : InTabs T "_law_plan_right" PP)
    (FB : FunC K "_law_but_right" "_law_but_right" sButR fB fdB cB) (gB : mg "_law_but_right" = some (.ref fB)) (TB : TabB base mg cB PB) (iB : InTabs T "_law_but_right" PB) :
    FnOk P w K mg base CX0 13 f fd ["script"] (spLaw K T) := by
  have okK : FnOk P w K mg base CX0 12 fK fdK ["script", "at"] (spR K T) := ok_keepR FK L TK iK FO gO TO iO
  have okP : FnOk P w K mg base CX0 11 fP fdP ["script", "at"] (spR K T) := ok_planR FP L PA TP iP FB gB TB iB
  have bK := FK.fun.binds (ps := ["script", "at"]) fun _ _ _ _ _ _ us hl => match us, hl with | [_, _], _ => rfl
  have bP := FP.fun.binds (ps := ["script", "at"]) fun _ _ _ _ _ _ us hl => match us, hl with | [_, _], _ => rfl
  refine F.ok scLaw (fun vs H Q E h => ?_) (fun cdv Ar outer s H vs Q E hr h => ?_)
  · obtain ⟨a, ns, rfl, _⟩ := h
    rfl
  · obtain ⟨a, ns, rfl, ha, hl, hTb, kQ⟩ := h
    have hr11 : Room 11 _ := hr.mono (by decide)
    have hr7 : Room 7 _ := hr.mono (by decide)
    have hr6 : Room 6 _ := hr.mono (by decide)
    have hr2 : Room 2 _ := hr.mono (by decide)
    have hr1 : Room 1 _ := hr.mono (by decide)
    obtain ⟨d2, k2v, k2b⟩ := kb2 L.A.KM.F
    obtain ⟨d3, k3v, k3b⟩ := kb3 L.A.KM.F
    obtain ⟨its, mv, k3m⟩ := kb3m L.A.KM.F
    obtain ⟨dF, kfv, kfb⟩ := kbF0 L.A.FF
    obtain ⟨dP, p2v, p2b⟩ := pb2 PA.PM.F
    obtain ⟨mp, kbp⟩ := pb5 PA.PM.F
    have B := L.A.T.B
    refine ⟨_, C8.pss_cut (ps_for PassesOwn.never rfl (pi_range1 (by rfl) B.range (pa_cons pe_int pa_nil)) (pg_name (i := 1) scLaw.nd rfl (Or.inl rfl)) (pss_one (ps_if (PW.pt (pw_or (pt_not (pt_val (pe_call okK hr rfl gK FK.kp bK .nil pass0 (pa_cons (pv 0) (pa_cons (pe_op op_mul pe_int (pv 1)) pa_nil))))) (pw_or1 (pt_not (pt_val (pe_call okP hr11 rfl gP FP.kp bP .nil pass0 (pa_cons (pv 0) (pa_cons (pe_op op_add pe_int (pe_op op_mul pe_int (pv 1))) pa_nil)))))))) (pss_one (ps_ret pe_bl)) pss_nil)))
      (C8.pss_cut (ps_set (i := 2) scLaw.nd rfl (Or.inl rfl) (pe_lst (pa_cons (pe_make L.A.KM.M L.A.okI hr6 rfl L.A.KC.g k2b k2v passL (pa_cons pe_int (pa_cons pe_int pa_nil))) (pa_cons (pe_make L.A.KM.M L.A.okI hr6 rfl L.A.KC.g k2b k2v passL (pa_cons pe_int (pa_cons pe_int pa_nil))) (pa_cons (pe_make L.A.KM.M L.A.okI hr6 rfl L.A.KC.g k2b k2v passL (pa_cons pe_int (pa_cons pe_int pa_nil))) (pa_cons (pe_make L.A.KM.M L.A.okI hr6 rfl L.A.KC.g k3b k3v passL (pa_cons pe_int (pa_cons pe_int (pa_cons (pe_tup (pa_cons pe_str pa_nil)) pa_nil)))) (pa_cons (pe_makeK L.A.KM.M L.A.okI hr6 rfl L.A.KC.g k3m passL (pa_cons pe_int (pa_cons pe_int pa_nil)) (pk_cons pe_int pk_nil)) (pa_cons (ClX.pe_cmeth (pe_glob (v := .ref L.A.KC.C) (by rfl) L.A.KC.g rfl) L.A.cr L.A.cm (L.A.okFull.raw kfb kfv) hr7 passL (pa_cons pe_int (pa_cons pe_int pa_nil))) pa_nil))))))))
      (C8.pss_cut (ps_for PassesOwn.never rfl (pi_enum (by rfl) B.enum (pa_cons (pv 2) pa_nil)) (pg_tup rfl (pgs_cons (pg_name (i := 3) scLaw.nd rfl (Or.inl rfl)) (pgs_cons (pg_name (i := 4) scLaw.nd rfl (Or.inl rfl)) pgs_nil))) (pss_one (ps_for PassesOwn.never rfl (pi_enum (by rfl) B.enum (pa_cons (pv 2) pa_nil)) (pg_tup rfl (pgs_cons (pg_name (i := 5) scLaw.nd rfl (Or.inl rfl)) (pgs_cons (pg_name (i := 6) scLaw.nd rfl (Or.inl rfl)) pgs_nil))) (pss_one (ps_if (PW.pt (pw_or (pt_cmpR op_ne (pe_cmpR (L.A.opEq rfl rfl hr1) (pv 4) (pv 6) (nomark _)) (pe_cmpR op_eq (pv 3) (pv 5) (nomark _)) (nomark _)) (pw_or1 (pt_cmpR op_eq (pe_cmpR (L.A.opNe rfl rfl hr2) (pv 4) (pv 6) (nomark _)) (pe_cmpR op_eq (pv 3) (pv 5) (nomark _)) (nomark _))))) (pss_one (ps_ret pe_bl)) pss_nil)))))
      (pss_cons (ps_set (i := 7) scLaw.nd rfl (Or.inl rfl) (pe_make PA.PM.M PA.okI hr6 rfl PA.PC.g p2b p2v passL (pa_cons (pe_tup (pa_cons pe_str pa_nil)) (pa_cons (pe_tup (pa_cons pe_int pa_nil)) pa_nil))))
      (pss_one (ps_ret (pe_and (pe_cmpR op_eq (pe_fld (pe_make L.A.KM.M L.A.okI hr6 rfl L.A.KC.g k2b k2v passL (pa_cons pe_int (pa_cons pe_int pa_nil))) rfl) pe_int (nomark _)) (pe_one (pe_cmpR (PA.opEq rfl rfl hr1) (pv 7) (pe_makeK PA.PM.M PA.okI hr6 rfl PA.PC.g kbp passL (pa_cons (pe_tup (pa_cons pe_str pa_nil)) (pa_cons (pe_tup (pa_cons pe_int pa_nil)) pa_nil)) (pk_cons pe_str (pk_cons pe_bl (pk_cons pe_non pk_nil)))) (nomark _))))))))), ?_⟩
    -- what is drawn
    refine ⟨fun σ H' => ∃ tv : Option V, σ = [some (.ref a), tv, none, none, none, none, none, none] ∧ ExtN H H' ∧ Tabs T H', ?_, ?_⟩
    · refine ⟨24, rfl, by decide, by decide, ?_⟩
      refine for_range (lo := 0) (n := 24) (fun _ σ H' => ∃ tv : Option V, σ = [some (.ref a), tv, none, none, none, none, none, none] ∧ ExtN H H' ∧ Tabs T H') ⟨none, rfl, ExtN.refl H, hTb⟩ ?_ (fun σ H' h => h)
      rintro n σ H' hn ⟨tv, rfl, xx, tt⟩
      refine ⟨_, rfl, _, rfl, 10, 0 + (n : Int), rfl, rfl, ?_, a, ns, 10 * (0 + (n : Int)), rfl, ext_sqL xx ha, hl, by omega, by omega, tt, fun H1 x1 t1 => ⟨_, rfl, ?_⟩⟩
      · exact .inl ⟨by decide, by decide⟩
      refine iteF ?_
      refine ⟨_, rfl, _, rfl, 10, 0 + (n : Int), rfl, rfl, ?_, _, _, rfl, rfl, a, ns, 500 + 10 * (0 + (n : Int)), rfl, ext_sqL (xx.trans x1) ha, hl, by omega, by omega, t1, fun H2 x2 t2 => ⟨_, rfl, ?_⟩⟩
      · exact .inl ⟨by decide, by decide⟩
      refine iteF ?_
      exact ⟨_, rfl, (xx.trans x1).trans x2, t2⟩
    rintro σ2 H2 ⟨tv, rfl, x2, t2⟩
    -- rows
    refine ⟨fun σ H' => ∃ (R : Addr) (ks : List Addr), σ = [some (.ref a), tv, some (.ref R), none, none, none, none, none] ∧ SqL K H' R (ks.map V.ref) ∧ ks.length = 6 ∧ ∀ (j : Nat) (k : Addr) (d : KD), ks[j]? = some k → rowsD[j]? = some d → KeepAt K L.A.KC.C H' k d, ?_, ?_⟩
    · refine keep_mkR (ds := .fl (.int 1)) (db := .fl (.int 1)) (dh := .tup []) (dm := .fl (.int 1)) (.fl rfl) (.fl rfl) (.tup (L.A.KM.tE _) rfl) (.fl rfl) (by show 0 ≤ 1000; decide) (fun wd kk => ?_) (fun d0 q1 q2 q3 q4 p0 H3 s3 hp0 k0 => ⟨rfl, ?_⟩)
      · rw [show keepBad (.fl (.int 1)) (.fl (.int 1)) (.tup []) (.fl (.int 1)) = none by decide +kernel] at kk
        cases kk
      have e0 : d0 = ⟨1, 1, [], 1⟩ := kd_ext (V.int.inj q1) (V.int.inj q2) (Dat.tup.inj q3) (V.int.inj q4)
      subst e0
      clear q1 q2 q3 q4
      refine keep_mkR (ds := .fl (.int 2)) (db := .fl (.int 1)) (dh := .tup []) (dm := .fl (.int 1)) (.fl rfl) (.fl rfl) (.tup (L.A.KM.tE _) rfl) (.fl rfl) (by show 0 ≤ 1000; decide) (fun wd kk => ?_) (fun d1 q1 q2 q3 q4 p1 H4 s4 hp1 k1 => ⟨rfl, ?_⟩)
      · rw [show keepBad (.fl (.int 2)) (.fl (.int 1)) (.tup []) (.fl (.int 1)) = none by decide +kernel] at kk
        cases kk
      have e1 : d1 = ⟨2, 1, [], 1⟩ := kd_ext (V.int.inj q1) (V.int.inj q2) (Dat.tup.inj q3) (V.int.inj q4)
      subst e1
      clear q1 q2 q3 q4
      refine keep_mkR (ds := .fl (.int 2)) (db := .fl (.int 2)) (dh := .tup []) (dm := .fl (.int 1)) (.fl rfl) (.fl rfl) (.tup (L.A.KM.tE _) rfl) (.fl rfl) (by show 0 ≤ 1000; decide) (fun wd kk => ?_) (fun d2 q1 q2 q3 q4 p2 H5 s5 hp2 k2 => ⟨rfl, ?_⟩)
      · rw [show keepBad (.fl (.int 2)) (.fl (.int 2)) (.tup []) (.fl (.int 1)) = none by decide +kernel] at kk
        cases kk
      have e2 : d2 = ⟨2, 2, [], 1⟩ := kd_ext (V.int.inj q1) (V.int.inj q2) (Dat.tup.inj q3) (V.int.inj q4)
      subst e2
      clear q1 q2 q3 q4
      refine ⟨(by show 1 ≤ sizeLine; decide), fun q0 hq0 => ?_⟩
      have sq0 := same_upd (o := HO.tup [V.str "late"]) hq0
      refine keep_mkR (ds := .fl (.int 2)) (db := .fl (.int 1)) (dh := .tup [.str "late"]) (dm := .fl (.int 1)) (.fl rfl) (.fl rfl) (.tup (SqT.of upd_same) (by decide +kernel)) (.fl rfl) (by show 1 ≤ 1000; decide) (fun wd kk => ?_) (fun d3 q1 q2 q3 q4 p3 H6 s6 hp3 k3 => ⟨rfl, ?_⟩)
      · rw [show keepBad (.fl (.int 2)) (.fl (.int 1)) (.tup [.str "late"]) (.fl (.int 1)) = none by decide +kernel] at kk
        cases kk
      have e3 : d3 = ⟨2, 1, [.str "late"], 1⟩ := kd_ext (V.int.inj q1) (V.int.inj q2) (Dat.tup.inj q3) (V.int.inj q4)
      subst e3
      clear q1 q2 q3 q4
      refine ⟨rfl, rfl, ?_⟩
      refine keep_mkR (ds := .fl (.int 2)) (db := .fl (.int 1)) (dh := .tup []) (dm := .fl (.int 0)) (.fl rfl) (.fl rfl) (.tup (L.A.KM.tE _) rfl) (.fl rfl) (by show 0 ≤ 1000; decide) (fun wd kk => ?_) (fun d4 q1 q2 q3 q4 p4 H7 s7 hp4 k4 => ⟨rfl, ?_⟩)
      · rw [show keepBad (.fl (.int 2)) (.fl (.int 1)) (.tup []) (.fl (.int 0)) = none by decide +kernel] at kk
        cases kk
      have e4 : d4 = ⟨2, 1, [], 0⟩ := kd_ext (V.int.inj q1) (V.int.inj q2) (Dat.tup.inj q3) (V.int.inj q4)
      subst e4
      clear q1 q2 q3 q4
      refine ⟨rfl, ⟨2, 1, [], 1⟩, rfl, (by decide +kernel), fun p5 H8 s8 hp5 k5 => ?_⟩
      refine ⟨(by show 6 ≤ sizeLine; decide), fun R hR => ⟨R, [p0, p1, p2, p3, p4, p5], rfl, SqL.of upd_same, rfl, ?_⟩⟩
      have s9 := same_upd (o := HO.lst [V.ref p0, .ref p1, .ref p2, .ref p3, .ref p4, .ref p5]) hR
      have m8 := s8.trans s9
      have m7 := s7.trans m8
      have m6 := (sq0.trans s6).trans m7
      have m6' := s6.trans m7
      have m5 := s5.trans m6
      have m4 := s4.trans m5
      intro j k d hk hd
      match j, hk, hd with
      | 0, hk, hd => cases hk; cases hd; exact KW.Same.keep m4 k0
      | 1, hk, hd => cases hk; cases hd; exact KW.Same.keep m5 k1
      | 2, hk, hd => cases hk; cases hd; exact KW.Same.keep m6 k2
      | 3, hk, hd => cases hk; cases hd; exact KW.Same.keep m7 k3
      | 4, hk, hd => cases hk; cases hd; exact KW.Same.keep m8 k4
      | 5, hk, hd => cases hk; cases hd; exact KW.Same.keep s9 k5
      | j + 6, hk, hd => exact nomatch hk
    rintro σ3 H3 ⟨R, ks, rfl, hR, hlk, hks⟩
    have gS : ∀ {H' H'' : Hp}, Same H' H'' → Rows K L.A.KC.C R ks H' → Rows K L.A.KC.C R ks H'' := fun s g => ⟨s.seq g.1, fun j k d e1 e2 => KW.Same.keep s (g.2 j k d e1 e2)⟩
    refine ⟨fun σ H' => ∃ o3 o4 o5 o6 : Option V, σ = [some (.ref a), tv, some (.ref R), o3, o4, o5, o6, none], ?_, ?_⟩
    · refine ⟨_, rfl, R, _, rfl, hR, ?_⟩
      refine for_it (walk_enum (K := K) (a := R) (xs := ks.map V.ref)) (fun _ σ H' => ∃ o3 o4 o5 o6 : Option V, σ = [some (.ref a), tv, some (.ref R), o3, o4, o5, o6, none] ∧ Rows K L.A.KC.C R ks H') ⟨none, none, none, none, rfl, hR, hks⟩ (fun n σ H' _ p => by obtain ⟨_, _, _, _, _, g⟩ := p; exact g.1) ?_ (fun σ H' p => by obtain ⟨o3, o4, o5, o6, e, _⟩ := p; exact ⟨o3, o4, o5, o6, e⟩)
      rintro n x σ H' H'' hn ⟨o3, o4, o5, o6, rfl, gR⟩ ⟨Tt, x1, x2, rfl, hT0, rfl, e1, e2⟩
      cases e1
      obtain ⟨k, d, ek, ed, rfl⟩ := rows_at hlk e2
      have sT := same_upd (o := HO.tup [V.int (n : Int), .ref k]) hT0
      refine ⟨Tt, _, rfl, SqT.of upd_same, rfl, _, _, rfl, _, _, rfl, rfl, ?_⟩
      have gT := gS sT gR
      refine ⟨_, rfl, R, _, rfl, gT.1, ?_⟩
      refine for_it (walk_enum (K := K) (a := R) (xs := ks.map V.ref)) (fun _ σ H' => ∃ o5 o6 : Option V, σ = [some (.ref a), tv, some (.ref R), some (.int (n : Int)), some (.ref k), o5, o6, none] ∧ Rows K L.A.KC.C R ks H') ⟨o5, o6, rfl, gT⟩ (fun n σ H' _ p => by obtain ⟨_, _, _, g⟩ := p; exact g.1) ?_ (fun σ H' p => by obtain ⟨p5, p6, e, g⟩ := p; exact ⟨_, _, p5, p6, e, g⟩)
      rintro m y σ H3' H4' hm ⟨p5, p6, rfl, g3⟩ ⟨T2, y1, y2, rfl, hT2, rfl, f1, f2⟩
      cases f1
      obtain ⟨k', d', ek', ed', rfl⟩ := rows_at hlk f2
      have sT2 := same_upd (o := HO.tup [V.int (m : Int), .ref k']) hT2
      have g4 := gS sT2 g3
      have ka := g4.2 n k d ek ed
      have kb := g4.2 m k' d' ek' ed'
      have hi := rows_inj ed ed'
      refine ⟨T2, _, rfl, SqT.of upd_same, rfl, _, _, rfl, _, _, rfl, rfl, ?_⟩
      refine ⟨_, rfl, _, rfl, rd_eq ka kb ⟨_, rfl, _, rfl, rfl, rfl, _, rfl, ?_⟩⟩
      refine iteBF ?_ ?_
      · show (!decide (V.bl (decide (d = d')) = V.bl (decide (V.int (n : Int) = V.int (m : Int))))) = false
        rw [hi, decide_eq_true rfl]
        rfl
      refine ⟨_, rfl, _, rfl, rd_eq ka kb ⟨_, rfl, _, rfl, rfl, rfl, _, rfl, ?_⟩⟩
      refine iteBF ?_ ?_
      · show decide (V.bl (!decide (d = d')) = V.bl (decide (V.int (n : Int) = V.int (m : Int)))) = false
        rw [hi]
        cases decide (V.int (n : Int) = V.int (m : Int)) <;> rfl
      exact ⟨_, _, rfl, g4⟩
    rintro σ4 H4 ⟨o3, o4, o5, o6, rfl⟩
    have pbad : planBad (.tup [.str "bare"]) (.tup [.int 0]) (.fl (.str "first")) (.fl (.bl true)) (.fl .non) = none := by decide +kernel
    refine ⟨(by show 1 ≤ sizeLine; decide), fun u0 hu0 => ⟨(by show 1 ≤ sizeLine; decide), fun r0 hr0 => ?_⟩⟩
    have s1 := same_upd (o := HO.tup [V.str "bare"]) hu0
    have s2 := same_upd (o := HO.tup [V.int 0]) hr0
    refine plan_mkR (du := .tup [.str "bare"]) (dr := .tup [.int 0]) (dc := .fl (.str "first")) (dm := .fl (.bl true)) (dl := .fl .non) (.tup (SqT.of (s2 _ _ upd_same)) (by decide +kernel)) (.tup (SqT.of upd_same) (by decide +kernel)) (.fl (by decide +kernel)) (.fl rfl) (.fl rfl) (by show 1 ≤ 1000; decide) (by show 1 ≤ 1000; decide) (fun wd kk => ?_) (fun d q1 q2 q3 q4 q5 p H5 s5 hp kp => ⟨rfl, ?_⟩)
    · rw [pbad] at kk
      cases kk
    have ed : d = ⟨[.str "bare"], [.int 0], .str "first", .bl true, .non⟩ := pd_ext (d := d) q1 q2 q3 q4 q5
    subst ed
    refine keep_mkR (ds := .fl (.int 2)) (db := .fl (.int 1)) (dh := .tup []) (dm := .fl (.int 1)) (.fl rfl) (.fl rfl) (.tup (L.A.KM.tE _) rfl) (.fl rfl) (by show 0 ≤ 1000; decide) (fun wd kk => ?_) (fun d q1 q2 q3 q4 pk H6 s6 hpk kk => ⟨rfl, ?_⟩)
    · rw [show keepBad (.fl (.int 2)) (.fl (.int 1)) (.tup []) (.fl (.int 1)) = none by decide +kernel] at kk
      cases kk
    have ek : d = ⟨2, 1, [], 1⟩ := kd_ext (V.int.inj q1) (V.int.inj q2) (Dat.tup.inj q3) (V.int.inj q4)
    subst ek
    obtain ⟨dx, hh, o1, o2⟩ := kk.ob
    refine ⟨pk, L.A.KC.C, dx, _, _, rfl, o1, L.A.KC.cl, L.A.KC.n4, kfs_m _ _ _ _, rfl, _, rfl, ?_⟩
    refine iteB (decide_eq_true rfl) ?_
    refine ⟨_, rfl, (by show 1 ≤ sizeLine; decide), fun u1 hu1 => ⟨(by show 1 ≤ sizeLine; decide), fun r1 hr1 => ⟨rfl, rfl, ?_⟩⟩⟩
    have s7 := same_upd (o := HO.tup [V.str "bare"]) hu1
    have s8 := same_upd (o := HO.tup [V.int 0]) hr1
    refine plan_mkR (du := .tup [.str "bare"]) (dr := .tup [.int 0]) (dc := .fl (.str "first")) (dm := .fl (.bl true)) (dl := .fl .non) (.tup (SqT.of (s8 _ _ upd_same)) (by decide +kernel)) (.tup (SqT.of upd_same) (by decide +kernel)) (.fl (by decide +kernel)) (.fl rfl) (.fl rfl) (by show 1 ≤ 1000; decide) (by show 1 ≤ 1000; decide) (fun wd kk => ?_) (fun d q1 q2 q3 q4 q5 p2 H9 s9 hp2 kp2 => ⟨rfl, ?_⟩)
    · rw [pbad] at kk
      cases kk
    have ed : d = ⟨[.str "bare"], [.int 0], .str "first", .bl true, .non⟩ := pd_ext (d := d) q1 q2 q3 q4 q5
    subst ed
    refine rd_peq (KW.Same.plan (s6.trans (s7.trans (s8.trans s9))) kp) kp2 ?_
    rw [decide_eq_true rfl]
    exact kQ _
end
end KW

set_option Elab.async false
set_option linter.all false
set_option maxRecDepth 100000
set_option maxHeartbeats 4000000
namespace KW
open PySem PySem.Spec PyProof.Rows L2 LamX OwnOp
/-! ## the facts of the head -/
theorem fun_mk {K : PySem.W.Frag} {x qual : Str} {st : Stmt} {f : Addr} {oc : Value} {od : Option Addr} {kV doc pm : Value} {an : Option Addr} {cdv ct : Value} {osl : Array (Option Value)}
    (l : K.lookup f = some ⟨oc, od, .func (PySem.W.fnOf x qual (defArgs st) (defBody st) (defScope st) .none kV doc pm an cdv ct), osl⟩) (c : PySem.W.codeIn K cdv qual = true) (k : PySem.W.keepIn K (.ref f) = true) :
    Fun K x qual st f (PySem.W.fnOf x qual (defArgs st) (defBody st) (defScope st) .none kV doc pm an cdv ct) := ⟨⟨oc, od, kV, doc, pm, an, cdv, ct, osl, rfl, l, c⟩, k⟩
theorem all_mk {l : PySem.W.OpenLaw} {w : World} {K : PySem.W.Frag} {h : Heap} {mg : Str → Option Value} {fa : Addr} {ts : List Addr} (X : K.In h) (G : h.Ns mainGlobals mg) (hfa : mg "law" = some (.ref fa)) (Y : ∀ P ∈ ts, h.get? P = some (PySem.W.tabObj #[]))
    {fII : Addr} {ocII dcII pmII ctII kvII cdII : Value} {odII anII : Option Addr} {slII : Array (Option Value)} {fBt : Addr} {ocBt dcBt pmBt ctBt kvBt cdBt : Value} {odBt anBt : Option Addr} {slBt : Array (Option Value)} {fOo : Addr} {ocOo dcOo pmOo ctOo kvOo cdOo : Value} {odOo anOo : Option Addr} {slOo : Array (Option Value)} {fPs : Addr} {ocPs dcPs pmPs ctPs kvPs cdPs : Value} {odPs anPs : Option Addr} {slPs : Array (Option Value)} {fAh : Addr} {ocAh dcAh pmAh ctAh kvAh cdAh : Value} {odAh anAh : Option Addr} {slAh : Array (Option Value)} {fAs : Addr} {ocAs dcAs pmAs ctAs kvAs cdAs : Value} {odAs anAs : Option Addr} {slAs : Array (Option Value)} {fIo : Addr} {ocIo dcIo pmIo ctIo kvIo cdIo : Value} {odIo anIo : Option Addr} {slIo : Array (Option Value)} {fNu : Addr} {ocNu dcNu pmNu ctNu kvNu cdNu : Value} {odNu anNu : Option Addr} {slNu : Array (Option Value)} {fPt : Addr} {ocPt dcPt pmPt ctPt kvPt cdPt : Value} {odPt anPt : Option Addr} {slPt : Array (Option Value)} {fPk : Addr} {ocPk dcPk pmPk ctPk kvPk cdPk : Value} {odPk anPk : Option Addr} {slPk : Array (Option Value)} {fKR cKR0 PKR : Addr} {ocKR dcKR pmKR ctKR kvKR : Value} {odKR anKR : Option Addr} {slKR : Array (Option Value)} {fOR cOR0 POR : Addr} {ocOR dcOR pmOR ctOR kvOR : Value} {odOR anOR : Option Addr} {slOR : Array (Option Value)} {fPR cPR0 PPR : Addr} {ocPR dcPR pmPR ctPR kvPR : Value} {odPR anPR : Option Addr} {slPR : Array (Option Value)} {fBR cBR0 PBR : Addr} {ocBR dcBR pmBR ctBR kvBR : Value} {odBR anBR : Option Addr} {slBR : Array (Option Value)} {fLw : Addr} {ocLw dcLw pmLw ctLw kvLw cdLw : Value} {odLw anLw : Option Addr} {slLw : Array (Option Value)} {fTH : Addr} {odTH : Option Addr} {itsTH : Array Value} {nTH : Nat} {slTH : Array (Option Value)} {fTK : Addr} {odTK : Option Addr} {itsTK : Array Value} {nTK : Nat} {slTK : Array (Option Value)} {fTC : Addr} {odTC : Option Addr} {itsTC : Array Value} {nTC : Nat} {slTC : Array (Option Value)} {fTP : Addr} {odTP : Option Addr} {itsTP : Array Value} {nTP : Nat} {slTP : Array (Option Value)} {CH : Addr} {CBK fBK NBK : Addr} {nmBK qqBK : Str} {bsBK bmBK sbBK : List Value} {snBK : List Str} {abBK : Bool} {coBK : Option Bool} {ddBK : Option Addr} {k0BK k1BK k2BK k3BK k5BK : Option Value} {ocBK dcBK pmBK ctBK kvBK cdBK : Value} {odBK anBK : Option Addr} {slBK : Array (Option Value)} {CBP fBP NBP : Addr} {nmBP qqBP : Str} {bsBP bmBP sbBP : List Value} {snBP : List Str} {abBP : Bool} {coBP : Option Bool} {ddBP : Option Addr} {k0BP k1BP k2BP k3BP k5BP : Option Value} {ocBP dcBP pmBP ctBP kvBP cdBP : Value} {odBP anBP : Option Addr} {slBP : Array (Option Value)} {CK fKI DK TD aE : Addr} {ocKI dcKI pmKI ctKI cdKI : Value} {odKI anKI : Option Addr} {slKI : Array (Option Value)} {oTD : Obj} {nTD : Nat} {odE : Option Addr} {nE : Nat} {slE : Array (Option Value)} {fKeq : Addr} {ocKeq dcKeq pmKeq ctKeq kvKeq cdKeq : Value} {odKeq anKeq : Option Addr} {slKeq : Array (Option Value)} {fKln : Addr} {ocKln dcKln pmKln ctKln kvKln cdKln : Value} {odKln anKln : Option Addr} {slKln : Array (Option Value)} {fKct : Addr} {ocKct dcKct pmKct ctKct kvKct cdKct : Value} {odKct anKct : Option Addr} {slKct : Array (Option Value)} {fKad : Addr} {ocKad dcKad pmKad ctKad kvKad cdKad : Value} {odKad anKad : Option Addr} {slKad : Array (Option Value)} {fKsb : Addr} {ocKsb dcKsb pmKsb ctKsb kvKsb cdKsb : Value} {odKsb anKsb : Option Addr} {slKsb : Array (Option Value)} {fFu DF pF : Addr} {mc : Value} {rest : List Value} {ocFu dcFu pmFu ctFu cdFu : Value} {odFu anFu : Option Addr} {slFu : Array (Option Value)} {CP fPI DP : Addr} {ocPI dcPI pmPI ctPI cdPI : Value} {odPI anPI : Option Addr} {slPI : Array (Option Value)} {fPeq : Addr} {ocPeq dcPeq pmPeq ctPeq kvPeq cdPeq : Value} {odPeq anPeq : Option Addr} {slPeq : Array (Option Value)} {fPbt : Addr} {ocPbt dcPbt pmPbt ctPbt kvPbt cdPbt : Value} {odPbt anPbt : Option Addr} {slPbt : Array (Option Value)} {fPtn : Addr} {ocPtn dcPtn pmPtn ctPtn kvPtn cdPtn : Value} {odPtn anPtn : Option Addr} {slPtn : Array (Option Value)} {tNB} {tNS} {tkm} {tfm} {tpc}
    (aII : PySem.W.nsIn K mainGlobals "is_integer" = some (some (.ref fII)))
    (lII : K.lookup fII = some ⟨ocII, odII, .func (PySem.W.fnOf "is_integer" "is_integer" (defArgs sIsInt) (defBody sIsInt) (defScope sIsInt) .none kvII dcII pmII anII cdII ctII), slII⟩)
    (cII : PySem.W.codeIn K cdII "is_integer" = true)
    (kII : PySem.W.keepIn K (.ref fII) = true)
    (aBt : PySem.W.nsIn K mainGlobals "is_between" = some (some (.ref fBt)))
    (lBt : K.lookup fBt = some ⟨ocBt, odBt, .func (PySem.W.fnOf "is_between" "is_between" (defArgs sBetween) (defBody sBetween) (defScope sBetween) .none kvBt dcBt pmBt anBt cdBt ctBt), slBt⟩)
    (cBt : PySem.W.codeIn K cdBt "is_between" = true)
    (kBt : PySem.W.keepIn K (.ref fBt) = true)
    (aOo : PySem.W.nsIn K mainGlobals "is_one_of" = some (some (.ref fOo)))
    (lOo : K.lookup fOo = some ⟨ocOo, odOo, .func (PySem.W.fnOf "is_one_of" "is_one_of" (defArgs sOneOf) (defBody sOneOf) (defScope sOneOf) .none kvOo dcOo pmOo anOo cdOo ctOo), slOo⟩)
    (cOo : PySem.W.codeIn K cdOo "is_one_of" = true)
    (kOo : PySem.W.keepIn K (.ref fOo) = true)
    (aPs : PySem.W.nsIn K mainGlobals "possible_harms" = some (some (.ref fPs)))
    (lPs : K.lookup fPs = some ⟨ocPs, odPs, .func (PySem.W.fnOf "possible_harms" "possible_harms" (defArgs sPossible) (defBody sPossible) (defScope sPossible) .none kvPs dcPs pmPs anPs cdPs ctPs), slPs⟩)
    (cPs : PySem.W.codeIn K cdPs "possible_harms" = true)
    (kPs : PySem.W.keepIn K (.ref fPs) = true)
    (aAh : PySem.W.nsIn K mainGlobals "are_harms" = some (some (.ref fAh)))
    (lAh : K.lookup fAh = some ⟨ocAh, odAh, .func (PySem.W.fnOf "are_harms" "are_harms" (defArgs sAreHarms) (defBody sAreHarms) (defScope sAreHarms) .none kvAh dcAh pmAh anAh cdAh ctAh), slAh⟩)
    (cAh : PySem.W.codeIn K cdAh "are_harms" = true)
    (kAh : PySem.W.keepIn K (.ref fAh) = true)
    (aAs : PySem.W.nsIn K mainGlobals "are_sums" = some (some (.ref fAs)))
    (lAs : K.lookup fAs = some ⟨ocAs, odAs, .func (PySem.W.fnOf "are_sums" "are_sums" (defArgs sAreSums) (defBody sAreSums) (defScope sAreSums) .none kvAs dcAs pmAs anAs cdAs ctAs), slAs⟩)
    (cAs : PySem.W.codeIn K cdAs "are_sums" = true)
    (kAs : PySem.W.keepIn K (.ref fAs) = true)
    (aIo : PySem.W.nsIn K mainGlobals "is_order" = some (some (.ref fIo)))
    (lIo : K.lookup fIo = some ⟨ocIo, odIo, .func (PySem.W.fnOf "is_order" "is_order" (defArgs sIsOrder) (defBody sIsOrder) (defScope sIsOrder) .none kvIo dcIo pmIo anIo cdIo ctIo), slIo⟩)
    (cIo : PySem.W.codeIn K cdIo "is_order" = true)
    (kIo : PySem.W.keepIn K (.ref fIo) = true)
    (aNu : PySem.W.nsIn K mainGlobals "_law_number" = some (some (.ref fNu)))
    (lNu : K.lookup fNu = some ⟨ocNu, odNu, .func (PySem.W.fnOf "_law_number" "_law_number" (defArgs sNumber) (defBody sNumber) (defScope sNumber) .none kvNu dcNu pmNu anNu cdNu ctNu), slNu⟩)
    (cNu : PySem.W.codeIn K cdNu "_law_number" = true)
    (kNu : PySem.W.keepIn K (.ref fNu) = true)
    (aPt : PySem.W.nsIn K mainGlobals "_law_part" = some (some (.ref fPt)))
    (lPt : K.lookup fPt = some ⟨ocPt, odPt, .func (PySem.W.fnOf "_law_part" "_law_part" (defArgs sPart) (defBody sPart) (defScope sPart) .none kvPt dcPt pmPt anPt cdPt ctPt), slPt⟩)
    (cPt : PySem.W.codeIn K cdPt "_law_part" = true)
    (kPt : PySem.W.keepIn K (.ref fPt) = true)
    (aPk : PySem.W.nsIn K mainGlobals "_law_pick" = some (some (.ref fPk)))
    (lPk : K.lookup fPk = some ⟨ocPk, odPk, .func (PySem.W.fnOf "_law_pick" "_law_pick" (defArgs sPick) (defBody sPick) (defScope sPick) .none kvPk dcPk pmPk anPk cdPk ctPk), slPk⟩)
    (cPk : PySem.W.codeIn K cdPk "_law_pick" = true)
    (kPk : PySem.W.keepIn K (.ref fPk) = true)
    (aKR : PySem.W.nsIn K mainGlobals "_law_keep_right" = some (some (.ref fKR)))
    (lKR : K.lookup fKR = some ⟨ocKR, odKR, .func (PySem.W.fnOf "_law_keep_right" "_law_keep_right" (defArgs sKeepR) (defBody sKeepR) (defScope sKeepR) .none kvKR dcKR pmKR anKR (.ref cKR0) ctKR), slKR⟩)
    (cKR : PySem.W.codeIn K (.ref cKR0) "_law_keep_right" = true)
    (kKR : PySem.W.keepIn K (.ref fKR) = true)
    (hKR : PySem.W.codeHdIn K cKR0 PKR = true)
    (nKR : K.lookup PKR = none)
    (mKR : PKR ∈ ts)
    (aOR : PySem.W.nsIn K mainGlobals "_law_operators_right" = some (some (.ref fOR)))
    (lOR : K.lookup fOR = some ⟨ocOR, odOR, .func (PySem.W.fnOf "_law_operators_right" "_law_operators_right" (defArgs sOpR) (defBody sOpR) (defScope sOpR) .none kvOR dcOR pmOR anOR (.ref cOR0) ctOR), slOR⟩)
    (cOR : PySem.W.codeIn K (.ref cOR0) "_law_operators_right" = true)
    (kOR : PySem.W.keepIn K (.ref fOR) = true)
    (hOR : PySem.W.codeHdIn K cOR0 POR = true)
    (nOR : K.lookup POR = none)
    (mOR : POR ∈ ts)
    (aPR : PySem.W.nsIn K mainGlobals "_law_plan_right" = some (some (.ref fPR)))
    (lPR : K.lookup fPR = some ⟨ocPR, odPR, .func (PySem.W.fnOf "_law_plan_right" "_law_plan_right" (defArgs sPlanR) (defBody sPlanR) (defScope sPlanR) .none kvPR dcPR pmPR anPR (.ref cPR0) ctPR), slPR⟩)
    (cPR : PySem.W.codeIn K (.ref cPR0) "_law_plan_right" = true)
    (kPR : PySem.W.keepIn K (.ref fPR) = true)
    (hPR : PySem.W.codeHdIn K cPR0 PPR = true)
    (nPR : K.lookup PPR = none)
    (mPR : PPR ∈ ts)
    (aBR : PySem.W.nsIn K mainGlobals "_law_but_right" = some (some (.ref fBR)))
    (lBR : K.lookup fBR = some ⟨ocBR, odBR, .func (PySem.W.fnOf "_law_but_right" "_law_but_right" (defArgs sButR) (defBody sButR) (defScope sButR) .none kvBR dcBR pmBR anBR (.ref cBR0) ctBR), slBR⟩)
    (cBR : PySem.W.codeIn K (.ref cBR0) "_law_but_right" = true)
    (kBR : PySem.W.keepIn K (.ref fBR) = true)
    (hBR : PySem.W.codeHdIn K cBR0 PBR = true)
    (nBR : K.lookup PBR = none)
    (mBR : PBR ∈ ts)
    (aLw : PySem.W.nsIn K mainGlobals "law" = some (some (.ref fLw)))
    (lLw : K.lookup fLw = some ⟨ocLw, odLw, .func (PySem.W.fnOf "law" "law" (defArgs sLaw) (defBody sLaw) (defScope sLaw) .none kvLw dcLw pmLw anLw cdLw ctLw), slLw⟩)
    (cLw : PySem.W.codeIn K cdLw "law" = true)
    (kLw : PySem.W.keepIn K (.ref fLw) = true)
    (aTH : PySem.W.nsIn K mainGlobals "HARMS" = some (some (.ref fTH)))
    (lTH : K.lookup fTH = some ⟨.type "tuple", odTH, .seq itsTH nTH, slTH⟩)
    (sTH : itsTH.size ≤ sizeLine)
    (vTH : Vals allH itsTH.toList)
    (aTK : PySem.W.nsIn K mainGlobals "KINDS" = some (some (.ref fTK)))
    (lTK : K.lookup fTK = some ⟨.type "tuple", odTK, .seq itsTK nTK, slTK⟩)
    (sTK : itsTK.size ≤ sizeLine)
    (vTK : Vals allK itsTK.toList)
    (aTC : PySem.W.nsIn K mainGlobals "CHOICES" = some (some (.ref fTC)))
    (lTC : K.lookup fTC = some ⟨.type "tuple", odTC, .seq itsTC nTC, slTC⟩)
    (sTC : itsTC.size ≤ sizeLine)
    (vTC : Vals allC itsTC.toList)
    (aTP : PySem.W.nsIn K mainGlobals "PARTS" = some (some (.ref fTP)))
    (lTP : K.lookup fTP = some ⟨.type "tuple", odTP, .seq itsTP nTP, slTP⟩)
    (sTP : itsTP.size ≤ sizeLine)
    (vTP : Vals allP itsTP.toList)
    (aNB : PySem.W.nsIn K mainGlobals "MOST_BLOCKS" = some (some (.int 2 tNB)))
    (aNS : PySem.W.nsIn K mainGlobals "MOST_SHELVES" = some (some (.int 3 tNS)))
    (b_isinstance : PySem.W.nsIn K mainGlobals "isinstance" = some none)
    (b_int : PySem.W.nsIn K mainGlobals "int" = some none)
    (b_bool : PySem.W.nsIn K mainGlobals "bool" = some none)
    (b_str : PySem.W.nsIn K mainGlobals "str" = some none)
    (b_tuple : PySem.W.nsIn K mainGlobals "tuple" = some none)
    (b_all : PySem.W.nsIn K mainGlobals "all" = some none)
    (b_sorted : PySem.W.nsIn K mainGlobals "sorted" = some none)
    (b_list : PySem.W.nsIn K mainGlobals "list" = some none)
    (b_range : PySem.W.nsIn K mainGlobals "range" = some none)
    (b_len : PySem.W.nsIn K mainGlobals "len" = some none)
    (b_sum : PySem.W.nsIn K mainGlobals "sum" = some none)
    (b_zip : PySem.W.nsIn K mainGlobals "zip" = some none)
    (b_enumerate : PySem.W.nsIn K mainGlobals "enumerate" = some none)
    (aCH : PySem.W.nsIn K mainGlobals "HarmError" = some (some (.ref CH)))
    (aBK : PySem.W.nsIn K mainGlobals "BadKeep" = some (some (.ref CBK)))
    (xBK : K.lookup CBK = some (excClassObj nmBK qqBK CBK NBK bsBK bmBK true snBK sbBK abBK coBK ddBK k0BK k1BK k2BK k3BK k5BK "ValueError.__new__"))
    (rBK : PySem.HandSPX.refsVE bmBK = true)
    (saBK : PySem.W.findIn K (.ref CBK) "__setattr__" = some (some (.builtin "object.__setattr__")))
    (eBK : PySem.W.subIn K (.ref CBK) (.type "BaseException") = some true)
    (tBK : PySem.W.typeIn K (.ref CBK) = some (.type "type"))
    (kcBK : PySem.W.keepIn K (.ref CBK) = true)
    (iBK : PySem.W.findIn K (.ref CBK) "__init__" = some (some (.ref fBK)))
    (lBK : K.lookup fBK = some ⟨ocBK, odBK, .func (PySem.W.fnOf "__init__" "BadKeep.__init__" (defArgs sBkInit) (defBody sBkInit) (defScope sBkInit) .none kvBK dcBK pmBK anBK cdBK ctBK), slBK⟩)
    (cBK : PySem.W.codeIn K cdBK "BadKeep.__init__" = true)
    (kBK : PySem.W.keepIn K (.ref fBK) = true)
    (tyBK : PySem.W.typeIn K (.ref fBK) = some (.type "function"))
    (npBK : PySem.W.findIn K (.ref CBK) "part" = some none)
    (hgBK : PySem.W.findIn K (.ref CBK) "__getattribute__" = some (some (.builtin "BaseException.__getattribute__")))
    (hkBK : PySem.W.findIn K (.ref CBK) "__getattr__" = some none)
    (hdBK : PySem.W.hasDictIn K CBK = true)
    (haBK : PySem.W.findIn K (.ref CBK) "__class__" = some (some (.builtin "object.__class__")))
    (hmBK : PySem.W.mroIn K CBK (.type "object") = some true)
    (exBK : PySem.W.exmOne K (.ref CBK) (.ref CH) = some true)
    (aBP : PySem.W.nsIn K mainGlobals "BadPlan" = some (some (.ref CBP)))
    (xBP : K.lookup CBP = some (excClassObj nmBP qqBP CBP NBP bsBP bmBP true snBP sbBP abBP coBP ddBP k0BP k1BP k2BP k3BP k5BP "ValueError.__new__"))
    (rBP : PySem.HandSPX.refsVE bmBP = true)
    (saBP : PySem.W.findIn K (.ref CBP) "__setattr__" = some (some (.builtin "object.__setattr__")))
    (eBP : PySem.W.subIn K (.ref CBP) (.type "BaseException") = some true)
    (tBP : PySem.W.typeIn K (.ref CBP) = some (.type "type"))
    (kcBP : PySem.W.keepIn K (.ref CBP) = true)
    (iBP : PySem.W.findIn K (.ref CBP) "__init__" = some (some (.ref fBP)))
    (lBP : K.lookup fBP = some ⟨ocBP, odBP, .func (PySem.W.fnOf "__init__" "BadPlan.__init__" (defArgs sBpInit) (defBody sBpInit) (defScope sBpInit) .none kvBP dcBP pmBP anBP cdBP ctBP), slBP⟩)
    (cBP : PySem.W.codeIn K cdBP "BadPlan.__init__" = true)
    (kBP : PySem.W.keepIn K (.ref fBP) = true)
    (tyBP : PySem.W.typeIn K (.ref fBP) = some (.type "function"))
    (npBP : PySem.W.findIn K (.ref CBP) "part" = some none)
    (hgBP : PySem.W.findIn K (.ref CBP) "__getattribute__" = some (some (.builtin "BaseException.__getattribute__")))
    (hkBP : PySem.W.findIn K (.ref CBP) "__getattr__" = some none)
    (hdBP : PySem.W.hasDictIn K CBP = true)
    (haBP : PySem.W.findIn K (.ref CBP) "__class__" = some (some (.builtin "object.__class__")))
    (hmBP : PySem.W.mroIn K CBP (.type "object") = some true)
    (exBP : PySem.W.exmOne K (.ref CBP) (.ref CH) = some true)
    (spc : PySem.W.specialIn K (.builtin "object.__class__") "__get__" = some (some (.builtin "getset_descriptor.__get__")))
    (tkc : PySem.W.takesIn K (.builtin "object.__class__") = some true)
    (kitkk : PySem.W.kitOne K (.ref CBK) (.ref CBK) = some true)
    (kitkp : PySem.W.kitOne K (.ref CBK) (.ref CBP) = some false)
    (kitpk : PySem.W.kitOne K (.ref CBP) (.ref CBK) = some false)
    (kitpp : PySem.W.kitOne K (.ref CBP) (.ref CBP) = some true)
    (aCK : PySem.W.nsIn K mainGlobals "Keep" = some (some (.ref CK)))
    (pgK : PySem.W.plainGet K CK Str.empty = true)
    (hdcK : PySem.W.hasDictIn K CK = true)
    (poK : PySem.W.plainOver K CK = true)
    (sacK : PySem.W.findIn K (.ref CK) "__setattr__" = some (some (.builtin "object.__setattr__")))
    (n1K : PySem.W.findIn K (.ref CK) "shelves" = some none)
    (n2K : PySem.W.findIn K (.ref CK) "blocks" = some none)
    (n3K : PySem.W.findIn K (.ref CK) "harms" = some none)
    (n4K : PySem.W.findIn K (.ref CK) "most" = some none)
    (mkK : PySem.W.makesIn K CK = true)
    (inK : PySem.W.findIn K (.ref CK) "__init__" = some (some (.ref fKI)))
    (fnK : PySem.W.isFn K (.ref fKI) = true)
    (kclK : PySem.W.keepIn K (.ref CK) = true)
    (hacK : PySem.W.findIn K (.ref CK) "__class__" = some (some (.builtin "object.__class__")))
    (hmcK : PySem.W.mroIn K CK (.type "object") = some true)
    (kitcK : PySem.W.kitOne K (.ref CK) (.ref CK) = some true)
    (neK : PySem.W.findIn K (.ref CK) "__ne__" = some (some (.builtin "object.__ne__")))
    (lKI : K.lookup fKI = some ⟨ocKI, odKI, .func (PySem.W.fnOf "__init__" "Keep.__init__" (defArgs sKInit) (defBody sKInit) (defScope sKInit) (.ref TD) (.ref DK) dcKI pmKI anKI cdKI ctKI), slKI⟩)
    (cKI : PySem.W.codeIn K cdKI "Keep.__init__" = true)
    (kKI : PySem.W.keepIn K (.ref fKI) = true)
    (lTD : K.lookup TD = some oTD)
    (dTD : oTD.data = .seq #[.ref aE] nTD)
    (lE : K.lookup aE = some ⟨.type "tuple", odE, .seq #[] nE, slE⟩)
    (wKImost : PySem.W.nsIn K DK "most" = some (some (.int 1 tkm)))
    (hKeq : PySem.W.findIn K (.ref CK) "__eq__" = some (some (.ref fKeq)))
    (fnKeq : PySem.W.isFn K (.ref fKeq) = true)
    (lKeq : K.lookup fKeq = some ⟨ocKeq, odKeq, .func (PySem.W.fnOf "__eq__" "Keep.__eq__" (defArgs sKEq) (defBody sKEq) (defScope sKEq) .none kvKeq dcKeq pmKeq anKeq cdKeq ctKeq), slKeq⟩)
    (cKeq : PySem.W.codeIn K cdKeq "Keep.__eq__" = true)
    (kKeq : PySem.W.keepIn K (.ref fKeq) = true)
    (hKln : PySem.W.findIn K (.ref CK) "__len__" = some (some (.ref fKln)))
    (fnKln : PySem.W.isFn K (.ref fKln) = true)
    (lKln : K.lookup fKln = some ⟨ocKln, odKln, .func (PySem.W.fnOf "__len__" "Keep.__len__" (defArgs sKLen) (defBody sKLen) (defScope sKLen) .none kvKln dcKln pmKln anKln cdKln ctKln), slKln⟩)
    (cKln : PySem.W.codeIn K cdKln "Keep.__len__" = true)
    (kKln : PySem.W.keepIn K (.ref fKln) = true)
    (hKct : PySem.W.findIn K (.ref CK) "__contains__" = some (some (.ref fKct)))
    (fnKct : PySem.W.isFn K (.ref fKct) = true)
    (lKct : K.lookup fKct = some ⟨ocKct, odKct, .func (PySem.W.fnOf "__contains__" "Keep.__contains__" (defArgs sKIn) (defBody sKIn) (defScope sKIn) .none kvKct dcKct pmKct anKct cdKct ctKct), slKct⟩)
    (cKct : PySem.W.codeIn K cdKct "Keep.__contains__" = true)
    (kKct : PySem.W.keepIn K (.ref fKct) = true)
    (hKad : PySem.W.findIn K (.ref CK) "__add__" = some (some (.ref fKad)))
    (fnKad : PySem.W.isFn K (.ref fKad) = true)
    (lKad : K.lookup fKad = some ⟨ocKad, odKad, .func (PySem.W.fnOf "__add__" "Keep.__add__" (defArgs sKAdd) (defBody sKAdd) (defScope sKAdd) .none kvKad dcKad pmKad anKad cdKad ctKad), slKad⟩)
    (cKad : PySem.W.codeIn K cdKad "Keep.__add__" = true)
    (kKad : PySem.W.keepIn K (.ref fKad) = true)
    (hKsb : PySem.W.findIn K (.ref CK) "__sub__" = some (some (.ref fKsb)))
    (fnKsb : PySem.W.isFn K (.ref fKsb) = true)
    (lKsb : K.lookup fKsb = some ⟨ocKsb, odKsb, .func (PySem.W.fnOf "__sub__" "Keep.__sub__" (defArgs sKSub) (defBody sKSub) (defScope sKSub) .none kvKsb dcKsb pmKsb anKsb cdKsb ctKsb), slKsb⟩)
    (cKsb : PySem.W.codeIn K cdKsb "Keep.__sub__" = true)
    (kKsb : PySem.W.keepIn K (.ref fKsb) = true)
    (hcK : PySem.W.selfFirst K CK = true)
    (hiK : PySem.W.subIn K (.type "int") (.ref CK) = some false)
    (raK : PySem.W.findIn K (.ref CK) "__radd__" = some none)
    (rsK : PySem.W.findIn K (.ref CK) "__rsub__" = some none)
    (rdK : PySem.W.readsIn K CK mc = true)
    (gaK : PySem.W.specialIn K (.ref CK) "__getattribute__" = some (some (.builtin "type.__getattribute__")))
    (cmA : PySem.W.findCls K (.ref CK) mc "full" = some (.get (.builtin "classmethod.__get__") (.ref pF) .none (.ref CK)))
    (cmR : PySem.W.recIn K pF "classmethod" = some (.ref fFu :: rest))
    (cmF : PySem.W.fnIn K fFu = true)
    (lFu : K.lookup fFu = some ⟨ocFu, odFu, .func (PySem.W.fnOf "full" "Keep.full" (defArgs sKFull) (defBody sKFull) (defScope sKFull) .none (.ref DF) dcFu pmFu anFu cdFu ctFu), slFu⟩)
    (cFu : PySem.W.codeIn K cdFu "Keep.full" = true)
    (kFu : PySem.W.keepIn K (.ref fFu) = true)
    (wFumost : PySem.W.nsIn K DF "most" = some (some (.int 1 tfm)))
    (aCP : PySem.W.nsIn K mainGlobals "Plan" = some (some (.ref CP)))
    (pgP : PySem.W.plainGet K CP Str.empty = true)
    (hdcP : PySem.W.hasDictIn K CP = true)
    (poP : PySem.W.plainOver K CP = true)
    (sacP : PySem.W.findIn K (.ref CP) "__setattr__" = some (some (.builtin "object.__setattr__")))
    (n1P : PySem.W.findIn K (.ref CP) "sums" = some none)
    (n2P : PySem.W.findIn K (.ref CP) "order" = some none)
    (n3P : PySem.W.findIn K (.ref CP) "choice" = some none)
    (n4P : PySem.W.findIn K (.ref CP) "mends" = some none)
    (n5P : PySem.W.findIn K (.ref CP) "limit" = some none)
    (mkP : PySem.W.makesIn K CP = true)
    (inP : PySem.W.findIn K (.ref CP) "__init__" = some (some (.ref fPI)))
    (fnP : PySem.W.isFn K (.ref fPI) = true)
    (kclP : PySem.W.keepIn K (.ref CP) = true)
    (hacP : PySem.W.findIn K (.ref CP) "__class__" = some (some (.builtin "object.__class__")))
    (hmcP : PySem.W.mroIn K CP (.type "object") = some true)
    (kitcP : PySem.W.kitOne K (.ref CP) (.ref CP) = some true)
    (neP : PySem.W.findIn K (.ref CP) "__ne__" = some (some (.builtin "object.__ne__")))
    (lPI : K.lookup fPI = some ⟨ocPI, odPI, .func (PySem.W.fnOf "__init__" "Plan.__init__" (defArgs sPInit) (defBody sPInit) (defScope sPInit) .none (.ref DP) dcPI pmPI anPI cdPI ctPI), slPI⟩)
    (cPI : PySem.W.codeIn K cdPI "Plan.__init__" = true)
    (kPI : PySem.W.keepIn K (.ref fPI) = true)
    (wPIchoice : PySem.W.nsIn K DP "choice" = some (some (.str "first" tpc)))
    (wPImends : PySem.W.nsIn K DP "mends" = some (some (.bool true)))
    (wPIlimit : PySem.W.nsIn K DP "limit" = some (some .none))
    (hPeq : PySem.W.findIn K (.ref CP) "__eq__" = some (some (.ref fPeq)))
    (fnPeq : PySem.W.isFn K (.ref fPeq) = true)
    (lPeq : K.lookup fPeq = some ⟨ocPeq, odPeq, .func (PySem.W.fnOf "__eq__" "Plan.__eq__" (defArgs sPEq) (defBody sPEq) (defScope sPEq) .none kvPeq dcPeq pmPeq anPeq cdPeq ctPeq), slPeq⟩)
    (cPeq : PySem.W.codeIn K cdPeq "Plan.__eq__" = true)
    (kPeq : PySem.W.keepIn K (.ref fPeq) = true)
    (hPbt : PySem.W.findIn K (.ref CP) "but" = some (some (.ref fPbt)))
    (fnPbt : PySem.W.isFn K (.ref fPbt) = true)
    (lPbt : K.lookup fPbt = some ⟨ocPbt, odPbt, .func (PySem.W.fnOf "but" "Plan.but" (defArgs sPBut) (defBody sPBut) (defScope sPBut) .none kvPbt dcPbt pmPbt anPbt cdPbt ctPbt), slPbt⟩)
    (cPbt : PySem.W.codeIn K cdPbt "Plan.but" = true)
    (kPbt : PySem.W.keepIn K (.ref fPbt) = true)
    (hPtn : PySem.W.findIn K (.ref CP) "turned" = some (some (.ref fPtn)))
    (fnPtn : PySem.W.isFn K (.ref fPtn) = true)
    (lPtn : K.lookup fPtn = some ⟨ocPtn, odPtn, .func (PySem.W.fnOf "turned" "Plan.turned" (defArgs sPTurned) (defBody sPTurned) (defScope sPTurned) .none kvPtn dcPtn pmPtn anPtn cdPtn ctPtn), slPtn⟩)
    (cPtn : PySem.W.codeIn K cdPtn "Plan.turned" = true)
    (kPtn : PySem.W.keepIn K (.ref fPtn) = true)
    (pne : [PKR, POR, PPR, PBR].Nodup) :
    LawAtS l w K CX0 13 63 "script" mg fa h := by
  have e := hfa.symm.trans (PySem.W.mg_of X G aLw)
  cases e
  have xcBK : ExcC K CBK := ⟨hgBK, hkBK, eBK, hdBK, haBK, spc, tkc, hmBK⟩
  have xcBP : ExcC K CBP := ⟨hgBP, hkBP, eBP, hdBP, haBP, spc, tkc, hmBP⟩
  let B : Blt mg := ⟨PySem.W.mg_none_of X G b_isinstance, PySem.W.mg_none_of X G b_int, PySem.W.mg_none_of X G b_bool, PySem.W.mg_none_of X G b_str, PySem.W.mg_none_of X G b_tuple, PySem.W.mg_none_of X G b_all, PySem.W.mg_none_of X G b_sorted, PySem.W.mg_none_of X G b_list, PySem.W.mg_none_of X G b_range, PySem.W.mg_none_of X G b_len, PySem.W.mg_none_of X G b_sum, PySem.W.mg_none_of X G b_zip, PySem.W.mg_none_of X G b_enumerate⟩
  let Tp : Parts K mg := ⟨⟨fII, _, (fun_mk lII cII kII), PySem.W.mg_of X G aII⟩, ⟨fBt, _, (fun_mk lBt cBt kBt), PySem.W.mg_of X G aBt⟩, ⟨fOo, _, (fun_mk lOo cOo kOo), PySem.W.mg_of X G aOo⟩, ⟨fPs, _, (fun_mk lPs cPs kPs), PySem.W.mg_of X G aPs⟩, ⟨fAh, _, (fun_mk lAh cAh kAh), PySem.W.mg_of X G aAh⟩, ⟨fAs, _, (fun_mk lAs cAs kAs), PySem.W.mg_of X G aAs⟩, ⟨fIo, _, (fun_mk lIo cIo kIo), PySem.W.mg_of X G aIo⟩, ⟨fTH, PySem.W.mg_of X G aTH, fun _ => .inr ⟨_, _, _, lTH, rfl, rfl, sTH, vTH⟩⟩, ⟨fTK, PySem.W.mg_of X G aTK, fun _ => .inr ⟨_, _, _, lTK, rfl, rfl, sTK, vTK⟩⟩, ⟨fTC, PySem.W.mg_of X G aTC, fun _ => .inr ⟨_, _, _, lTC, rfl, rfl, sTC, vTC⟩⟩, ⟨fTP, PySem.W.mg_of X G aTP, fun _ => .inr ⟨_, _, _, lTP, rfl, rfl, sTP, vTP⟩⟩, ⟨⟨_, PySem.W.mg_of X G aNB⟩⟩, ⟨⟨_, PySem.W.mg_of X G aNS⟩⟩, B, ⟨CBK, fBK, _, PySem.W.mg_of X G aBK, (fun_mk lBK cBK kBK), ⟨⟨_, _, _, _, _, _, _, _, _, _, _, _, _, _, _, xBK, rBK⟩, saBK, eBK, tBK, kcBK⟩, iBK, tyBK, npBK, xcBK⟩, ⟨CBP, fBP, _, PySem.W.mg_of X G aBP, (fun_mk lBP cBP kBP), ⟨⟨_, _, _, _, _, _, _, _, _, _, _, _, _, _, _, xBP, rBP⟩, saBP, eBP, tBP, kcBP⟩, iBP, tyBP, npBP, xcBP⟩⟩
  let KC : KCls K mg := ⟨CK, PySem.W.mg_of X G aCK, ⟨pgK, hdcK, poK, sacK⟩, n1K, n2K, n3K, n4K⟩
  have FKi : FKI K aE fKI _ := ⟨⟨_, _, _, _, _, _, _, _, _, _, rfl, lKI, cKI, .inr ⟨by simp, TD, oTD, [.ref aE], nTD, rfl, lTD, dTD, .cons rfl .nil⟩, .inr ⟨DK, rfl, fun q hq => by
    cases List.mem_singleton.mp hq
    exact ⟨_, wKImost, _, rfl⟩⟩⟩, kKI⟩
  let KM : KMk K mg KC.C := ⟨fKI, _, aE, FKi, ⟨mkK, inK, fnK, kclK⟩, fun _ => .inr ⟨_, _, _, lE, rfl, rfl, Nat.zero_le _, .nil⟩⟩
  have KIk : KIsi K CK := ⟨hacK, spc, tkc, hmcK, kitcK⟩
  have FFu : FKF K fFu _ := ⟨⟨_, _, _, _, _, _, _, _, _, _, rfl, lFu, cFu, .inl ⟨rfl, rfl⟩, .inr ⟨DF, rfl, fun q hq => by
    cases List.mem_singleton.mp hq
    exact ⟨_, wFumost, _, rfl⟩⟩⟩, kFu⟩
  let A : KAll K mg := { T := Tp, KC := KC, KM := KM, KI := KIk, eq := ⟨fKeq, _, (fun_mk lKeq cKeq kKeq), ⟨hKeq, fnKeq⟩, kKeq⟩, len := ⟨fKln, _, (fun_mk lKln cKln kKln), ⟨hKln, fnKln⟩, kKln⟩, cont := ⟨fKct, _, (fun_mk lKct cKct kKct), ⟨hKct, fnKct⟩, kKct⟩, add := ⟨fKad, _, (fun_mk lKad cKad kKad), ⟨hKad, fnKad⟩, kKad⟩, sub := ⟨fKsb, _, (fun_mk lKsb cKsb kKsb), ⟨hKsb, fnKsb⟩, kKsb⟩, hn := neK, hc := hcK, hi := hiK, ra := raK, rs := rsK, fF := fFu, fdF := _, FF := FFu, mc := mc, pF := pF, cr := ⟨rdK, gaK⟩, cm := ⟨cmA, ⟨rest, cmR⟩, cmF⟩ }
  let D : PartD K mg := { g := fPt, cdv := cdPt, hm := PySem.W.mg_of X G aPt, hk := kPt, lk := ⟨_, _, _, _, _, _, _, _, _, lPt, (fun_mk lPt cPt kPt).binds (ps := ["ask"]) fun _ _ _ _ _ _ us hl => match us, hl with | [_], _ => rfl⟩, hcg := cPt, CH := CH, gH := PySem.W.mg_of X G aCH }
  have Td : Told K D.CH A.T.BK.C A.T.BP.C := ⟨xcBK, ⟨hgBK, hkBK, eBK, hdBK⟩, npBK, exBK, kitkk, kitkp, xcBP, ⟨hgBP, hkBP, eBP, hdBP⟩, npBP, exBP, kitpk, kitpp⟩
  let L : LawD K mg := ⟨A, D, Td, ⟨fNu, _, (fun_mk lNu cNu kNu), PySem.W.mg_of X G aNu⟩, ⟨fPk, _, (fun_mk lPk cPk kPk), PySem.W.mg_of X G aPk⟩⟩
  let PC : PCls K mg := ⟨CP, PySem.W.mg_of X G aCP, ⟨pgP, hdcP, poP, sacP⟩, n1P, n2P, n3P, n4P, n5P⟩
  have FPi : FPI K fPI _ := ⟨⟨_, _, _, _, _, _, _, _, _, _, rfl, lPI, cPI, .inl ⟨rfl, rfl⟩, .inr ⟨DP, rfl, fun q hq => by
    rcases mem3 hq with rfl | rfl | rfl
    · exact ⟨_, wPIchoice, _, rfl⟩
    · exact ⟨_, wPImends, rfl⟩
    · exact ⟨_, wPIlimit, rfl⟩⟩⟩, kPI⟩
  let PM : PMkr K mg PC.C := ⟨fPI, _, FPi, ⟨mkP, inP, fnP, kclP⟩⟩
  have KIp : KIsi K CP := ⟨hacP, spc, tkc, hmcP, kitcP⟩
  let PA : PAll K mg L.A.T := { PC := PC, PM := PM, KI := KIp, eq := ⟨fPeq, _, (fun_mk lPeq cPeq kPeq), ⟨hPeq, fnPeq⟩, kPeq⟩, hn := neP, fB := fPbt, dB := _, FB := (fun_mk lPbt cPbt kPbt), MB := ⟨hPbt, fnPbt, kPbt⟩, fT := fPtn, dT := _, FT := (fun_mk lPtn cPtn kPtn), MT := ⟨hPtn, fnPtn, kPtn⟩ }
  have FKR : FunC K "_law_keep_right" "_law_keep_right" sKeepR fKR _ cKR0 := ⟨⟨_, _, _, _, _, _, _, _, rfl, lKR, cKR⟩, kKR⟩
  have FOR : FunC K "_law_operators_right" "_law_operators_right" sOpR fOR _ cOR0 := ⟨⟨_, _, _, _, _, _, _, _, rfl, lOR, cOR⟩, kOR⟩
  have FPR : FunC K "_law_plan_right" "_law_plan_right" sPlanR fPR _ cPR0 := ⟨⟨_, _, _, _, _, _, _, _, rfl, lPR, cPR⟩, kPR⟩
  have FBR : FunC K "_law_but_right" "_law_but_right" sButR fBR _ cBR0 := ⟨⟨_, _, _, _, _, _, _, _, rfl, lBR, cBR⟩, kBR⟩
  have ne : PKR ≠ POR ∧ PKR ≠ PPR ∧ PKR ≠ PBR ∧ POR ≠ PPR ∧ POR ≠ PBR ∧ PPR ≠ PBR := by
    simp only [List.nodup_cons, List.mem_cons, List.not_mem_nil, or_false, not_or, not_false_eq_true, List.nodup_nil, and_true] at pne
    exact ⟨pne.1.1, pne.1.2.1, pne.1.2.2, pne.2.1.1, pne.2.1.2, pne.2.2⟩
  obtain ⟨z1, z2, z3, z4, z5, z6⟩ := ne
  have inT : ∀ (x : Str) (P0 : Addr), (P0, lamQ x) ∈ [(PKR, lamQ "_law_keep_right"), (POR, lamQ "_law_operators_right"), (PPR, lamQ "_law_plan_right"), (PBR, lamQ "_law_but_right")] → (∀ p ∈ [(PKR, lamQ "_law_keep_right"), (POR, lamQ "_law_operators_right"), (PPR, lamQ "_law_plan_right"), (PBR, lamQ "_law_but_right")], p.1 = P0 → p.2 = lamQ x) → InTabs [(PKR, lamQ "_law_keep_right"), (POR, lamQ "_law_operators_right"), (PPR, lamQ "_law_plan_right"), (PBR, lamQ "_law_but_right")] x P0 := fun x P0 h1 h2 => ⟨h1, h2⟩
  have iK : InTabs [(PKR, lamQ "_law_keep_right"), (POR, lamQ "_law_operators_right"), (PPR, lamQ "_law_plan_right"), (PBR, lamQ "_law_but_right")] "_law_keep_right" PKR := inT _ _ (by simp) (by
    intro p hp e
    rcases mem4 hp with rfl | rfl | rfl | rfl
    · rfl
    · exact absurd e.symm z1
    · exact absurd e.symm z2
    · exact absurd e.symm z3)
  have iO : InTabs [(PKR, lamQ "_law_keep_right"), (POR, lamQ "_law_operators_right"), (PPR, lamQ "_law_plan_right"), (PBR, lamQ "_law_but_right")] "_law_operators_right" POR := inT _ _ (by simp) (by
    intro p hp e
    rcases mem4 hp with rfl | rfl | rfl | rfl
    · exact absurd e z1
    · rfl
    · exact absurd e.symm z4
    · exact absurd e.symm z5)
  have iP : InTabs [(PKR, lamQ "_law_keep_right"), (POR, lamQ "_law_operators_right"), (PPR, lamQ "_law_plan_right"), (PBR, lamQ "_law_but_right")] "_law_plan_right" PPR := inT _ _ (by simp) (by
    intro p hp e
    rcases mem4 hp with rfl | rfl | rfl | rfl
    · exact absurd e z2
    · exact absurd e z4
    · rfl
    · exact absurd e.symm z6)
  have iB : InTabs [(PKR, lamQ "_law_keep_right"), (POR, lamQ "_law_operators_right"), (PPR, lamQ "_law_plan_right"), (PBR, lamQ "_law_but_right")] "_law_but_right" PBR := inT _ _ (by simp) (by
    intro p hp e
    rcases mem4 hp with rfl | rfl | rfl | rfl
    · exact absurd e z3
    · exact absurd e z5
    · exact absurd e z6
    · rfl)
  refine ⟨PySem.W.fnOf "law" "law" (defArgs sLaw) (defBody sLaw) (defScope sLaw) .none kvLw dcLw pmLw anLw cdLw ctLw, [(cKR0, PKR), (cOR0, POR), (cPR0, PPR), (cBR0, PBR)], spLaw K [(PKR, lamQ "_law_keep_right"), (POR, lamQ "_law_operators_right"), (PPR, lamQ "_law_plan_right"), (PBR, lamQ "_law_but_right")], ?_, ?_, ?_, fun s u => ?_, fun H a ns hl hz hT hs => ?_, fun base KX GX hTB => ?_⟩
  · intro p hp
    rcases mem4 hp with rfl | rfl | rfl | rfl
    · exact Y _ mKR
    · exact Y _ mOR
    · exact Y _ mPR
    · exact Y _ mBR
  · intro p hp
    rcases mem4 hp with rfl | rfl | rfl | rfl
    · exact nKR
    · exact nOR
    · exact nPR
    · exact nBR
  · intro p hp
    rcases mem4 hp with rfl | rfl | rfl | rfl
    · exact PySem.W.codeHd_of_K X hKR
    · exact PySem.W.codeHd_of_K X hOR
    · exact PySem.W.codeHd_of_K X hPR
    · exact PySem.W.codeHd_of_K X hBR
  · exact .of_eq rfl
  · refine ⟨a, ns, rfl, hs, hl, fun p hp => ?_, fun _ => rfl⟩
    rcases mem4 hp with rfl | rfl | rfl | rfl
    · exact TabS.nil (hT _ (by simp : (cKR0, PKR) ∈ _))
    · exact TabS.nil (hT _ (by simp : (cOR0, POR) ∈ _))
    · exact TabS.nil (hT _ (by simp : (cPR0, PPR) ∈ _))
    · exact TabS.nil (hT _ (by simp : (cBR0, PBR) ∈ _))
  · exact ok_law (fun_mk lLw cLw kLw) L PA FKR (PySem.W.mg_of X G aKR) (hTB _ (by simp : (cKR0, PKR) ∈ _)) iK FOR (PySem.W.mg_of X G aOR) (hTB _ (by simp : (cOR0, POR) ∈ _)) iO
      FPR (PySem.W.mg_of X G aPR) (hTB _ (by simp : (cPR0, PPR) ∈ _)) iP FBR (PySem.W.mg_of X G aBR) (hTB _ (by simp : (cBR0, PBR) ∈ _)) iB
end KW

namespace KW
open PySem PySem.Spec PyProof.Rows L2 LamX
theorem fin {l : PySem.W.OpenLaw} {q : Program} {loose : List Str} {XP : (Str → Option Value) → Heap → Prop} {YP : World → Heap → Prop} {d : DefRec} {K : Params → PySem.W.Frag}
    (hn : l.most = some 63) (hdf : d.params.defaults = []) (hY : ∀ (w : World) (h : Heap), YP w h → (K w.params).In h)
    (F : ∀ (w : World) (mg : Str → Option Value) (fa : Addr) (h : Heap), YP w h → (K w.params).In h → h.Ns mainGlobals mg → mg d.name = some (.ref fa) → LawAtS l w (K w.params) CX0 13 63 "script" mg fa h) :
    PySem.W.WalkO q loose XP YP l.row.toRowW d [] (fun f vs => PySem.call f vs) :=
  walk_ofTs (n := 63) (k := 13) (x := "script") (CX := fun _ => CX0) hn (by decide) hdf ⟨rfl, by decide, by decide⟩ hY F fun _ _ _ _ _ z => z
end KW
open PySem PySem.W PyProof.Rows
set_option maxRecDepth 100000 in
set_option maxHeartbeats 0 in
theorem PySem.Challenge.cw_quietharm_k01_whole_keeps_holds : PySem.Challenge.rw_quietharm_k01_whole_keeps.Holds := by
  w_on; o_law; k_head; (case hw => w_witness2)
  k_fill
  refine' KW.fin (l := PySem.Challenge.rw_quietharm_k01_whole_keeps) ?hn ?hdf (fun w h Y => km_in_of Y) ?F
  case hn => rfl
  case hdf => rfl
  case F =>
    intro w mg fa h Y KX G hmg
    refine' KW.all_mk (PKR := 242) (POR := 247) (PPR := 252) (PBR := 257) (mc := .type "type") KX G hmg (km_tabs_of Y) ?aII ?lII ?cII ?kII ?aBt ?lBt ?cBt ?kBt ?aOo ?lOo ?cOo ?kOo ?aPs ?lPs ?cPs ?kPs ?aAh ?lAh ?cAh ?kAh ?aAs ?lAs ?cAs ?kAs ?aIo ?lIo ?cIo ?kIo ?aNu ?lNu ?cNu ?kNu ?aPt ?lPt ?cPt ?kPt ?aPk ?lPk ?cPk ?kPk ?aKR ?lKR ?cKR ?kKR ?hKR ?nKR ?mKR ?aOR ?lOR ?cOR ?kOR ?hOR ?nOR ?mOR ?aPR ?lPR ?cPR ?kPR ?hPR ?nPR ?mPR ?aBR ?lBR ?cBR ?kBR ?hBR ?nBR ?mBR ?aLw ?lLw ?cLw ?kLw ?aTH ?lTH ?sTH ?vTH ?aTK ?lTK ?sTK ?vTK ?aTC ?lTC ?sTC ?vTC ?aTP ?lTP ?sTP ?vTP ?aNB ?aNS ?b_isinstance ?b_int ?b_bool ?b_str ?b_tuple ?b_all ?b_sorted ?b_list ?b_range ?b_len ?b_sum ?b_zip ?b_enumerate ?aCH ?aBK ?xBK ?rBK ?saBK ?eBK ?tBK ?kcBK ?iBK ?lBK ?cBK ?kBK ?tyBK ?npBK ?hgBK ?hkBK ?hdBK ?haBK ?hmBK ?exBK ?aBP ?xBP ?rBP ?saBP ?eBP ?tBP ?kcBP ?iBP ?lBP ?cBP ?kBP ?tyBP ?npBP ?hgBP ?hkBP ?hdBP ?haBP ?hmBP ?exBP ?spc ?tkc ?kitkk ?kitkp ?kitpk ?kitpp ?aCK ?pgK ?hdcK ?poK ?sacK ?n1K ?n2K ?n3K ?n4K ?mkK ?inK ?fnK ?kclK ?hacK ?hmcK ?kitcK ?neK ?lKI ?cKI ?kKI ?lTD ?dTD ?lE ?wKImost ?hKeq ?fnKeq ?lKeq ?cKeq ?kKeq ?hKln ?fnKln ?lKln ?cKln ?kKln ?hKct ?fnKct ?lKct ?cKct ?kKct ?hKad ?fnKad ?lKad ?cKad ?kKad ?hKsb ?fnKsb ?lKsb ?cKsb ?kKsb ?hcK ?hiK ?raK ?rsK ?rdK ?gaK ?cmA ?cmR ?cmF ?lFu ?cFu ?kFu ?wFumost ?aCP ?pgP ?hdcP ?poP ?sacP ?n1P ?n2P ?n3P ?n4P ?n5P ?mkP ?inP ?fnP ?kclP ?hacP ?hmcP ?kitcP ?neP ?lPI ?cPI ?kPI ?wPIchoice ?wPImends ?wPIlimit ?hPeq ?fnPeq ?lPeq ?cPeq ?kPeq ?hPbt ?fnPbt ?lPbt ?cPbt ?kPbt ?hPtn ?fnPtn ?lPtn ?cPtn ?kPtn ?pne
    (case aII => k_is)
    (case lII => k_is)
    (case cII => k_is)
    (case kII => k_is)
    (case aBt => k_is)
    (case lBt => k_is)
    (case cBt => k_is)
    (case kBt => k_is)
    (case aOo => k_is)
    (case lOo => k_is)
    (case cOo => k_is)
    (case kOo => k_is)
    (case aPs => k_is)
    (case lPs => k_is)
    (case cPs => k_is)
    (case kPs => k_is)
    (case aAh => k_is)
    (case lAh => k_is)
    (case cAh => k_is)
    (case kAh => k_is)
    (case aAs => k_is)
    (case lAs => k_is)
    (case cAs => k_is)
    (case kAs => k_is)
    (case aIo => k_is)
    (case lIo => k_is)
    (case cIo => k_is)
    (case kIo => k_is)
    (case aNu => k_is)
    (case lNu => k_is)
    (case cNu => k_is)
    (case kNu => k_is)
    (case aPt => k_is)
    (case lPt => k_is)
    (case cPt => k_is)
    (case kPt => k_is)
    (case aPk => k_is)
    (case lPk => k_is)
    (case cPk => k_is)
    (case kPk => k_is)
    (case aKR => k_is)
    (case lKR => k_is)
    (case cKR => k_is)
    (case kKR => k_is)
    (case hKR => kernel_rfl)
    (case nKR => kernel_rfl)
    (case mKR => decide)
    (case aOR => k_is)
    (case lOR => k_is)
    (case cOR => k_is)
    (case kOR => k_is)
    (case hOR => kernel_rfl)
    (case nOR => kernel_rfl)
    (case mOR => decide)
    (case aPR => k_is)
    (case lPR => k_is)
    (case cPR => k_is)
    (case kPR => k_is)
    (case hPR => kernel_rfl)
    (case nPR => kernel_rfl)
    (case mPR => decide)
    (case aBR => k_is)
    (case lBR => k_is)
    (case cBR => k_is)
    (case kBR => k_is)
    (case hBR => kernel_rfl)
    (case nBR => kernel_rfl)
    (case mBR => decide)
    (case aLw => k_is)
    (case lLw => k_is)
    (case cLw => k_is)
    (case kLw => k_is)
    (case aTH => k_is)
    (case lTH => k_is)
    (case sTH => decide)
    (case vTH => (unfold KW.allH; exact (.cons ⟨_, rfl⟩ (.cons ⟨_, rfl⟩ (.cons ⟨_, rfl⟩ (.cons ⟨_, rfl⟩ (.cons ⟨_, rfl⟩ .nil)))))))
    (case aTK => k_is)
    (case lTK => k_is)
    (case sTK => decide)
    (case vTK => (unfold KW.allK; exact (.cons ⟨_, rfl⟩ (.cons ⟨_, rfl⟩ (.cons ⟨_, rfl⟩ (.cons ⟨_, rfl⟩ .nil))))))
    (case aTC => k_is)
    (case lTC => k_is)
    (case sTC => decide)
    (case vTC => (unfold KW.allC; exact (.cons ⟨_, rfl⟩ (.cons ⟨_, rfl⟩ (.cons ⟨_, rfl⟩ .nil)))))
    (case aTP => k_is)
    (case lTP => k_is)
    (case sTP => decide)
    (case vTP => (unfold KW.allP; exact (.cons ⟨_, rfl⟩ (.cons ⟨_, rfl⟩ (.cons ⟨_, rfl⟩ (.cons ⟨_, rfl⟩ (.cons ⟨_, rfl⟩ .nil)))))))
    (case aNB => k_is)
    (case aNS => k_is)
    (case b_isinstance => k_is)
    (case b_int => k_is)
    (case b_bool => k_is)
    (case b_str => k_is)
    (case b_tuple => k_is)
    (case b_all => k_is)
    (case b_sorted => k_is)
    (case b_list => k_is)
    (case b_range => k_is)
    (case b_len => k_is)
    (case b_sum => k_is)
    (case b_zip => k_is)
    (case b_enumerate => k_is)
    (case aCH => k_is)
    (case aBK => k_is)
    (case xBK => k_is)
    (case rBK => decide +kernel)
    (case saBK => k_is)
    (case eBK => k_is)
    (case tBK => k_is)
    (case kcBK => k_is)
    (case iBK => k_is)
    (case lBK => k_is)
    (case cBK => k_is)
    (case kBK => k_is)
    (case tyBK => k_is)
    (case npBK => k_is)
    (case hgBK => k_is)
    (case hkBK => k_is)
    (case hdBK => k_is)
    (case haBK => k_is)
    (case hmBK => k_is)
    (case exBK => kernel_rfl)
    (case aBP => k_is)
    (case xBP => k_is)
    (case rBP => decide +kernel)
    (case saBP => k_is)
    (case eBP => k_is)
    (case tBP => k_is)
    (case kcBP => k_is)
    (case iBP => k_is)
    (case lBP => k_is)
    (case cBP => k_is)
    (case kBP => k_is)
    (case tyBP => k_is)
    (case npBP => k_is)
    (case hgBP => k_is)
    (case hkBP => k_is)
    (case hdBP => k_is)
    (case haBP => k_is)
    (case hmBP => k_is)
    (case exBP => kernel_rfl)
    (case spc => k_is)
    (case tkc => k_is)
    (case kitkk => kernel_rfl)
    (case kitkp => kernel_rfl)
    (case kitpk => kernel_rfl)
    (case kitpp => kernel_rfl)
    (case aCK => k_is)
    (case pgK => k_is)
    (case hdcK => k_is)
    (case poK => k_is)
    (case sacK => k_is)
    (case n1K => k_is)
    (case n2K => k_is)
    (case n3K => k_is)
    (case n4K => k_is)
    (case mkK => k_is)
    (case inK => k_is)
    (case fnK => k_is)
    (case kclK => k_is)
    (case hacK => k_is)
    (case hmcK => k_is)
    (case kitcK => kernel_rfl)
    (case neK => k_is)
    (case lKI => k_is)
    (case cKI => k_is)
    (case kKI => k_is)
    (case lTD => k_is)
    (case dTD => exact rfl)
    (case lE => k_is)
    (case wKImost => k_is)
    (case hKeq => k_is)
    (case fnKeq => k_is)
    (case lKeq => k_is)
    (case cKeq => k_is)
    (case kKeq => k_is)
    (case hKln => k_is)
    (case fnKln => k_is)
    (case lKln => k_is)
    (case cKln => k_is)
    (case kKln => k_is)
    (case hKct => k_is)
    (case fnKct => k_is)
    (case lKct => k_is)
    (case cKct => k_is)
    (case kKct => k_is)
    (case hKad => k_is)
    (case fnKad => k_is)
    (case lKad => k_is)
    (case cKad => k_is)
    (case kKad => k_is)
    (case hKsb => k_is)
    (case fnKsb => k_is)
    (case lKsb => k_is)
    (case cKsb => k_is)
    (case kKsb => k_is)
    (case hcK => k_is)
    (case hiK => k_is)
    (case raK => k_is)
    (case rsK => k_is)
    (case rdK => k_is)
    (case gaK => k_is)
    (case cmA => k_is)
    (case cmR => k_is)
    (case cmF => k_is)
    (case lFu => k_is)
    (case cFu => k_is)
    (case kFu => k_is)
    (case wFumost => k_is)
    (case aCP => k_is)
    (case pgP => k_is)
    (case hdcP => k_is)
    (case poP => k_is)
    (case sacP => k_is)
    (case n1P => k_is)
    (case n2P => k_is)
    (case n3P => k_is)
    (case n4P => k_is)
    (case n5P => k_is)
    (case mkP => k_is)
    (case inP => k_is)
    (case fnP => k_is)
    (case kclP => k_is)
    (case hacP => k_is)
    (case hmcP => k_is)
    (case kitcP => kernel_rfl)
    (case neP => k_is)
    (case lPI => k_is)
    (case cPI => k_is)
    (case kPI => k_is)
    (case wPIchoice => k_is)
    (case wPImends => k_is)
    (case wPIlimit => k_is)
    (case hPeq => k_is)
    (case fnPeq => k_is)
    (case lPeq => k_is)
    (case cPeq => k_is)
    (case kPeq => k_is)
    (case hPbt => k_is)
    (case fnPbt => k_is)
    (case lPbt => k_is)
    (case cPbt => k_is)
    (case kPbt => k_is)
    (case hPtn => k_is)
    (case fnPtn => k_is)
    (case lPtn => k_is)
    (case cPtn => k_is)
    (case kPtn => k_is)
    (case pne => decide)
