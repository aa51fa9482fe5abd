import PyProof.Rows.All
import Wide.All
import OpenK.AllK
import Wide.FinOn
import PyProof.EqAt
import PyProof.EqKinds
import PyProof.TupleCall
import PyProof.InstNe
import KE.KLam
import HandS.ForMost
import HandS.Exc
import HandS.ExcOwn
import HandS.TryOnly
import HandS.WordsExc
import HandS.Defaults
import HandS.MakeKw
import HandS.MakeKwOnly
import HandS.ExcInit
import HandS.ExcField
import HandS.ExcIs
import HandS.IsInst
import HandS.OwnEq
import HandS.Lambda
import HandS.EndTab
import HandS.Conv
import HandS.Zip
import HandS.ClsMeth
import HandS.CallLocal
import KE.KExcIs
import PyProof.Rows.SortShellAny
import KE.KSortedM
import PyProof.NeKinds
import PyProof.MeetsIn
import KE.KEqDict
import HandS.ListEq
import HandS.DictEq
import HandS.List
import HandS.Dict
import HandS.More
import PyProof.ListMulRoad
import PyProof.FactsAll.tuple_2
import PyProof.Rows.ListMul
import PyProof.ListMulAny
import HandS.Base
import HandS.Call
import HandS.TupMul
import HandS.DictComp
import HandS.Walk
import HandS.Finally
import KE.KNestM
import PySem.Challenge.RW_quietharm_k14_whole_answers
set_option Elab.async false
set_option linter.all false
set_option maxRecDepth 100000
set_option maxHeartbeats 2000000
namespace OwnOp
open PySem PySem.Spec PyProof.Rows L2
/-! ## operators of one's own classes (plain instances): ==, !=, in, len, + and - -/
/-- a special method of the class at C -/
structure Spm (K : PySem.W.Frag) (C : Addr) (n : Str) (f : Addr) : Prop where
  hs : PySem.W.findIn K (.ref C) n = some (some (.ref f))
  hf : PySem.W.isFn K (.ref f) = true
section
variable {X : Cx} {CX : CXT} {k : Nat} {f C : Addr} {fd : FuncData} {ps : List Str} {sp : Sp} {E : XK}
/-- the callee's answer is a bool -/
theorem back_bool {pins : List (Addr × Obj)} {σ : L2.St} {Q : VK} {g : Bool → Bool} {u : Value} {s' : Shared} (h : EP X pins σ (fun v H' => ∃ b, v = .bl b ∧ Q (.bl (g b)) H') u s') :
    ∃ b, u = .bool b ∧ EP X pins σ Q (.bool (g b)) s' := by
  obtain ⟨v, H', I', r, b, rfl, q⟩ := h
  obtain rfl : u = .bool b := r
  exact ⟨b, rfl, .bl (g b), H', I', rfl, q⟩
def rOwn (C : Addr) (sp : Sp) (E : XK) (g : Bool → Bool) : R2 := fun x y H Q => ∃ a b dx fs dy gs, x = .ref a ∧ y = .ref b ∧ H a = some (.ins C dx fs) ∧ H b = some (.ins C dy gs) ∧ sp [x, y] H (fun v H' => ∃ b, v = .bl b ∧ Q (.bl (g b)) H') E
theorem op_eq_own (F : FnOk X.prog X.w X.K X.mg X.base CX k f fd ps sp) (hr : Room k X.A) (m : Spm X.K C "__eq__" f) (hb : Binds X.K fd ps []) (hx : Passes CX X E) : OpR X (compareOp .Eq) (rOwn C sp E id) := by
  intro pins s σ H x y v u Q I rx ry hq
  obtain ⟨a, b, dx, fs, dy, gs, rfl, rfl, ha, hb', q⟩ := hq
  cases rx
  cases ry
  obtain ⟨mA, J, _⟩ := ins_get I.hok ha
  obtain ⟨mB, J', _⟩ := ins_get I.hok hb'
  obtain ⟨od, J, _⟩ := J.look
  obtain ⟨od', J', _⟩ := J'.look
  obtain ⟨mm, hF⟩ := I.fr
  show wpAny (model X.prog X.w) X.A (richCompare .Eq (.ref a) (.ref b)) (EP X pins σ Q) X.xe s
  refine PySem.W.cmp_K (op := .Eq) (tb := .ref C) (Nat.lt_of_succ_lt (hu_of hr)) hF I.ok.mod.kin J J'.type (by simp [PySem.W.notFirst]) m.hs m.hf ?_
  refine thn (run_fn (us := [.ref a, .ref b]) (vs := [.ref a, .ref b]) F hr hb .nil hx I (.cons rfl (.cons rfl .nil)) q) fun u' s' e => ?_
  obtain ⟨b', rfl, e'⟩ := back_bool e
  exact e'
/-- object.__ne__, the class having an own == -/
theorem ne_call {A : Around} {EE : Value → Shared → Prop} {s : Shared} {K : PySem.W.Frag} {a : Addr} {y : Value} {ox : Obj} {od : Option Obj} {R : Value → Shared → Prop} (hu : A.units + 1 < cLine) (XK : K.In s.heap) (J : PySem.W.InstAt s.heap a ox C od)
    (hm : PySem.W.mroIn K C (.type "object") = some true) (hn : PySem.W.findIn K (.ref C) "__ne__" = some (some (.builtin "object.__ne__"))) (m : Spm K C "__eq__" f)
    (h : wpAny (model X.prog X.w) A.in1 (call (.ref f) [.ref a, y]) (fun u s' => ∃ b, u = .bool b ∧ R (.bool (!b)) s') EE s) :
    wpAny (model X.prog X.w) A (tryCompare (.ref a) "__ne__" y) (fun r s' => ∃ v, r = some v ∧ R v s') EE s := by
  have main : wpAny (model X.prog X.w) A (call (.builtin "object.__ne__") [.ref a, y]) (fun v s' => ∃ b, v = .bool b ∧ R (.bool b) s') EE s := by
    refine wpAny_call (codeAny_call_builtin F.cmp_object.ne.plain F.cmpEntry_ne (PySem.W.check_slot F.cmpKind_ne F.cmpSplit_ne (J.type.andThen (PySem.W.looks_mroIn XK hm)) (F.cmpArgs_ne _ _) ?_))
    unfold Builtin.«object.__ne__»
    repeat (first
      | with_reducible refine wpAny_cRoomFor (by first | exact hu | (show A.units + 1 < cLine; exact hu) | (have := hu; omega)) ?_
      | (refine wpAny_bind (m := callSpecialIfBound? (.ref a) (Str.ofString "__eq__") [y])
          (PySem.W.ifBound_K XK J m.hs m.hf (wpAny_mono h (fun r s' hr => by
            obtain ⟨b, rfl, hq⟩ := hr
            repeat (first | exact ⟨_, rfl, hq⟩ | exact wpAny_pure ⟨_, rfl, hq⟩ | exact wpAny_truthy_bool ⟨_, rfl, hq⟩ | (refine wpAny_bind (m := truthy (.bool _)) (wpAny_truthy_bool ?_)) | wp_step)) fun _ _ e => e)))
      | wp_step)
  unfold tryCompare
  have fin : wpAny (model X.prog X.w) A (call (.builtin "object.__ne__") ([.ref a] ++ [y]) >>= fun v => pure (some v)) (fun r s' => ∃ b, r = some (.bool b) ∧ R (.bool b) s') EE s :=
    wpAny_bind (wpAny_mono main (fun v s' h' => by obtain ⟨b, rfl, q⟩ := h'; exact wpAny_pure ⟨b, rfl, q⟩) fun _ _ h' => h')
  refine wpAny_bind (wpAny_mono (Q := fun r s' => ∃ b, r = some (.bool b) ∧ R (.bool b) s') ?_ (fun r s' h' => by obtain ⟨b, rfl, q⟩ := h'; exact wpAny_pure ⟨_, rfl, q⟩) fun _ _ h' => h')
  simp only [callSpecialIfBound?, bindSpecialIfBound?]
  refine wpAny_holding (wpAny_bind (wpAny_bind (wpAny_bind (J.type.here ((PySem.W.looks_findIn XK hn).here ?_)))))
  refine wpAny_bind (wpAny_askSetting (wpAny_ite ?_))
  split
  · exact wpAny_bind (wpAny_of_eq (F.cmp_object.ne.bind _) (wpAny_pure (by exact fin)))
  · exact wpAny_tryCatch (wpAny_bind (wpAny_of_eq (F.cmp_object.ne.bind _) (wpAny_pure (by exact fin))))
/-- the callee runs, a little deeper -/
theorem run_at {A : Around} {pins : List (Addr × Obj)} {σ : L2.St} {H : Hp} {s : Shared} {Q : VK} {us : List Value} {vs : List V} (F : FnOk X.prog X.w X.K X.mg X.base CX k f fd ps sp) (hr : Room k A) (hA : A.frames = X.A.frames) (hb : Binds X.K fd ps []) (hx : Passes CX X E)
    (I : Inv X pins σ H s) (r : Vals vs us) (h : sp vs H Q E) : wpAny (model X.prog X.w) A (call (.ref f) us) (EP X pins σ Q) X.xe s := by
  have hl : us.length = ps.length := by rw [← r.length]; exact F.len _ _ _ _ h
  have e0 : Env0 X.prog X.w X.K X.mg X.base A X.stack s H := by
    have e := I.env0
    exact ⟨by rw [hA]; exact e.frames, e.mod, e.bs, e.bsz, e.funs, e.frf, e.hok, e.bare⟩
  have b := hb s us I.kIn (by rw [List.append_nil]; exact hl)
  rw [List.append_nil] at b
  refine wpAny_call (codeAny_mono (F.run A X.stack s H ⟨us, []⟩ us vs Q E hr e0 b r h) fun r s' hq => ?_)
  cases r with
  | error e => exact hx pins σ H s e s' I hq
  | ok fl =>
    cases fl with
    | ret u => exact I.after hq
    | next => exact False.elim hq
    | brk => exact False.elim hq
    | cont => exact False.elim hq
theorem op_ne_own (F : FnOk X.prog X.w X.K X.mg X.base CX k f fd ps sp) (hr : Room (k + 1) X.A) (m : Spm X.K C "__eq__" f) (hb : Binds X.K fd ps []) (hx : Passes CX X E)
    (hm : PySem.W.mroIn X.K C (.type "object") = some true) (hn : PySem.W.findIn X.K (.ref C) "__ne__" = some (some (.builtin "object.__ne__"))) : OpR X (compareOp .NotEq) (rOwn C sp E not) := by
  intro pins s σ H x y v u Q I rx ry hq
  obtain ⟨a, b, dx, fs, dy, gs, rfl, rfl, ha, hb', q⟩ := hq
  cases rx
  cases ry
  obtain ⟨mA, J, _⟩ := ins_get I.hok ha
  obtain ⟨mB, J', _⟩ := ins_get I.hok hb'
  obtain ⟨od, J, _⟩ := J.look
  obtain ⟨od', J', _⟩ := J'.look
  have one : wpAny (model X.prog X.w) X.A (tryCompare (.ref a) "__ne__" (.ref b)) (fun r s' => ∃ v, r = some v ∧ EP X pins σ Q v s') X.xe s := by
    refine ne_call (by have := hu_of hr; omega) I.kIn J hm hn m (thn (run_at (us := [.ref a, .ref b]) (vs := [.ref a, .ref b]) F hr.in1 rfl hb hx I (.cons rfl (.cons rfl .nil)) q) fun u' s' e => ?_)
    obtain ⟨b', rfl, e'⟩ := back_bool e
    exact ⟨b', rfl, e'⟩
  show wpAny (model X.prog X.w) X.A (richCompare .NotEq (.ref a) (.ref b)) (EP X pins σ Q) X.xe s
  unfold richCompare
  simp only [oneThing_ref]
  refine wpAny_holding (wpAny_bind (wpAny_cRoomFor (Nat.lt_of_succ_lt (hu_of hr)) ?_))
  refine wpAny_bind (J.type.here (wpAny_bind (J'.type.here ?_)))
  rw [cmpInfo_NotEq]
  dsimp only
  rw [show (Value.ref C != Value.ref C) = false from by simp]
  simp only [Bool.false_eq_true, if_false]
  refine wpAny_bind (wpAny_pure ?_)
  simp only [Bool.false_eq_true, if_false]
  refine wpAny_bind (thn one fun r s' z => ?_)
  obtain ⟨v, rfl, hq⟩ := z
  exact wpAny_pure hq
/-- y in x -/
def rOwnIn (C : Addr) (sp : Sp) (E : XK) : R2 := fun y x H Q => ∃ a dx fs, x = .ref a ∧ H a = some (.ins C dx fs) ∧ sp [x, y] H (fun v H' => ∃ b, v = .bl b ∧ Q (.bl b) H') E
theorem op_in_own (F : FnOk X.prog X.w X.K X.mg X.base CX k f fd ps sp) (hr : Room k X.A) (m : Spm X.K C "__contains__" f) (hb : Binds X.K fd ps []) (hx : Passes CX X E) : OpR X (compareOp .In) (rOwnIn C sp E) := by
  intro pins s σ H y x v u Q I ry rx hq
  obtain ⟨a, dx, fs, rfl, ha, q⟩ := hq
  cases rx
  obtain ⟨mA, J, _⟩ := ins_get I.hok ha
  obtain ⟨od, J, _⟩ := J.look
  obtain ⟨mm, hF⟩ := I.fr
  refine PySem.W.in_K hF I.ok.mod.kin J m.hs m.hf ?_
  refine thn (run_fn (us := [.ref a, v]) (vs := [.ref a, y]) F hr hb .nil hx I (.cons rfl (.cons ry .nil)) q) fun u' s' e => ?_
  obtain ⟨b', rfl, e'⟩ := back_bool (g := id) e
  exact wpAny_truthy_bool e'
/-- len(x) -/
def rOwnLen (C : Addr) (sp : Sp) (E : XK) : List V → Hp → VK → Prop := fun xs H Q => ∃ a dx fs, xs = [V.ref a] ∧ H a = some (.ins C dx fs) ∧ sp xs H (fun v H' => ∃ n : Int, v = .int n ∧ 0 ≤ n ∧ n < 2 ^ 62 ∧ Q (.int n) H') E
theorem call_len_own (F : FnOk X.prog X.w X.K X.mg X.base CX k f fd ps sp) (hr : Room (k + 1) X.A) (m : Spm X.K C "__len__" f) (hb : Binds X.K fd ps []) (hx : Passes CX X E) : CallR X (.builtin "len") (rOwnLen C sp E) := by
  intro pins s σ H xs us Q I r hq
  obtain ⟨a, dx, fs, rfl, ha, q⟩ := hq
  cases r with
  | cons r1 r2 =>
    cases r2
    cases r1
    obtain ⟨mA, J, _⟩ := ins_get I.hok ha
    obtain ⟨od, J, _⟩ := J.look
    obtain ⟨mm, hF⟩ := I.fr
    refine PySem.W.len_K hF I.ok.mod.kin J m.hs m.hf ?_
    refine thn (run_at (us := [.ref a]) (vs := [.ref a]) F hr.in1 rfl hb hx I (.cons rfl .nil) q) fun u' s' e => ?_
    obtain ⟨v, H', I', r, n, rfl, h0, h1, q'⟩ := e
    obtain ⟨t, rfl⟩ := r
    exact ⟨⟨h0, by omega⟩, .int n, H', I'.tok _, ⟨_, rfl⟩, q'⟩
end
end OwnOp

set_option Elab.async false
set_option linter.all false
set_option maxRecDepth 100000
set_option maxHeartbeats 2000000
namespace OwnOp
open PySem PySem.Spec PyProof.Rows L2
theorem fills_none {T nm : String} (hf : typeLookup (.type T) (dunder nm) = pure none) (hr : typeLookup (.type T) (dunderR nm) = pure none) : fillsNumberSlot (.type T) nm = pure false := by
  unfold fillsNumberSlot
  simp only [hf, hr]
  rfl
theorem noFill_str_sub : fillsNumberSlot (.type "str") "sub" = pure false := fills_none (by rw [typeLookup_type, builtinLookup_eq_fast]; kernel_rfl) (by rw [typeLookup_type, builtinLookup_eq_fast]; kernel_rfl)
theorem noFill_none_add : fillsNumberSlot (.type "NoneType") "add" = pure false := fills_none (by rw [typeLookup_type, builtinLookup_eq_fast]; kernel_rfl) (by rw [typeLookup_type, builtinLookup_eq_fast]; kernel_rfl)
theorem noFill_none_sub : fillsNumberSlot (.type "NoneType") "sub" = pure false := fills_none (by rw [typeLookup_type, builtinLookup_eq_fast]; kernel_rfl) (by rw [typeLookup_type, builtinLookup_eq_fast]; kernel_rfl)
theorem int_radd : typeLookup (.type "int") (dunderR "add") = pure (some (.builtin "int.__radd__")) := by rw [typeLookup_type, builtinLookup_eq_fast]; kernel_rfl
theorem int_rsub : typeLookup (.type "int") (dunderR "sub") = pure (some (.builtin "int.__rsub__")) := by rw [typeLookup_type, builtinLookup_eq_fast]; kernel_rfl
section
variable {X : Cx} {A : Around} {EE : Value → Shared → Prop} {s : Shared} {K : PySem.W.Frag} {a C f : Addr} {ox : Obj} {od : Option Obj} {b : Value} {T : String} {op : Operator} {Q : Value → Shared → Prop}
theorem binop_left (XK : K.In s.heap) (J : PySem.W.InstAt s.heap a ox C od) (hb : PySem.W.Looks (model X.prog X.w) s.heap (typeOf b) (.type T)) (hc : PySem.W.selfFirst K C = true)
    (m : Spm K C (PySem.dunder op.info.2) f) (hT : fillsNumberSlot (.type T) op.info.2 = pure false)
    (h : wpAny (model X.prog X.w) A (call (.ref f) [.ref a, b]) (PySem.W.CmpBack Q) EE s) : wpAny (model X.prog X.w) A (binaryOp op (.ref a) b) Q EE s := by
  obtain ⟨cd, hcd, hm⟩ := PySem.W.any_some hc
  obtain ⟨rest, hm⟩ : ∃ rest, cd.mro = .ref C :: rest := by
    cases q : cd.mro with
    | nil => rw [q] at hm; cases hm
    | cons a r => rw [q] at hm; exact ⟨r, by rw [List.head?_cons] at hm; cases (beq_iff_eq.mp hm); rfl⟩
  unfold binaryOp
  refine wpAny_holding (wpAny_bind ?_)
  unfold binaryOp1
  refine wpAny_bind (J.type.here (wpAny_bind (hb.here (wpAny_bind ((PySem.W.fills_K XK hcd hm m.hs).here ?_)))))
  rw [show (Value.ref C == Value.type T) = false from rfl]
  simp only [Bool.false_eq_true, if_false]
  refine wpAny_bind (wpAny_of_eq hT ?_)
  simp only [Bool.and_false, Bool.false_eq_true, if_false, Bool.false_and]
  refine wpAny_bind (wpAny_pure ?_)
  simp only [Bool.false_eq_true, if_false]
  refine wpAny_bind (m := tryMethod (.ref a) _ b) ?_
  unfold tryMethod
  refine wpAny_bind (PySem.W.special_fn XK J m.hs (beq_iff_eq.mp m.hf) (wpAny_mono h (fun v s' hv => ?_) fun _ _ e => e))
  cases v <;> first | exact hv.elim | exact wpAny_pure (wpAny_pure (wpAny_pure hv))
theorem slotPy {M : Model} {h : Heap} {n : String} (XK : K.In h) (h1 : PySem.W.findIn K (.ref C) (PySem.dunder n) = some (some (.ref f))) (h2 : PySem.W.findIn K (.ref C) (PySem.dunderR n) = some none) : PySem.W.Looks M h (numberSlotInPython (.ref C) n) true := by
  intro A Q E s k q
  unfold numberSlotInPython
  refine wpAny_bind ((PySem.W.looks_findIn XK h1) A _ E s k ?_)
  refine wpAny_bind (wpAny_pure ?_)
  refine wpAny_bind ((PySem.W.looks_findIn XK h2) A _ E s k ?_)
  refine wpAny_bind (wpAny_pure ?_)
  exact wpAny_pure q
theorem binop1_left2 {nm rb : String} (XK : K.In s.heap) (J : PySem.W.InstAt s.heap a ox C od) (hb : PySem.W.Looks (model X.prog X.w) s.heap (typeOf b) (.type T)) (hc : PySem.W.selfFirst K C = true)
    (m : Spm K C (PySem.dunder nm) f) (hT : fillsNumberSlot (.type T) nm = pure true) (hsub : PySem.W.subIn K (.type T) (.ref C) = some false) (hno : PySem.W.findIn K (.ref C) (PySem.dunderR nm) = some none)
    (hR : typeLookup (.type T) (dunderR nm) = pure (some (.builtin rb)))
    (h : wpAny (model X.prog X.w) A (call (.ref f) [.ref a, b]) (PySem.W.CmpBack Q) EE s) : wpAny (model X.prog X.w) A (binaryOp1 nm (.ref a) b) (fun r s' => ∃ v, r = some v ∧ Q v s') EE s := by
  obtain ⟨cd, hcd, hm⟩ := PySem.W.any_some hc
  obtain ⟨rest, hm⟩ : ∃ rest, cd.mro = .ref C :: rest := by
    cases q : cd.mro with
    | nil => rw [q] at hm; cases hm
    | cons a r => rw [q] at hm; exact ⟨r, by rw [List.head?_cons] at hm; cases (beq_iff_eq.mp hm); rfl⟩
  unfold binaryOp1
  refine wpAny_bind (J.type.here (wpAny_bind (hb.here (wpAny_bind ((PySem.W.fills_K XK hcd hm m.hs).here ?_)))))
  rw [show (Value.ref C == Value.type T) = false from rfl]
  simp only [Bool.false_eq_true, if_false]
  refine wpAny_bind (wpAny_of_eq hT ?_)
  simp only [Bool.and_self, if_true]
  refine wpAny_bind ((PySem.W.looks_subIn XK hsub).here ?_)
  simp only [Bool.false_eq_true, if_false, Bool.not_false, Bool.and_self, if_true]
  refine wpAny_bind ((slotPy XK m.hs hno).here ?_)
  simp only [if_true]
  refine wpAny_bind (m := numberSlotInPython (.type T) nm) (wpAny_of_eq (a := false) (by rfl) ?_)
  simp only [Bool.not_false, if_true]
  refine wpAny_bind (wpAny_of_eq hR ?_)
  refine wpAny_bind (m := tryMethod (.ref a) _ b) ?_
  unfold tryMethod
  refine wpAny_bind (PySem.W.special_fn XK J m.hs (beq_iff_eq.mp m.hf) (wpAny_mono h (fun v s' hv => ?_) fun _ _ e => e))
  cases v <;> first | exact hv.elim | exact wpAny_pure (wpAny_pure ⟨_, rfl, hv⟩)
end
section
variable {X : Cx} {CX : CXT} {k : Nat} {f C : Addr} {fd : FuncData} {ps : List Str} {sp : Sp} {E : XK}
/-- x + w, x - w (w a text, None or an int): the answer is an object -/
def rOwnOp (C : Addr) (sp : Sp) (E : XK) : R2 := fun x y H Q => ∃ a dx fs, x = .ref a ∧ H a = some (.ins C dx fs) ∧ ((∃ z, y = .str z) ∨ y = .non ∨ ∃ i, y = .int i) ∧ sp [x, y] H (fun v H' => ∃ p, v = .ref p ∧ Q v H') E
/-- what the operator's names are -/
structure OpN (op : Operator) (nm rb : String) : Prop where
  info : ∃ sym, op.info = (sym, nm)
  s0 : fillsNumberSlot (.type "str") nm = pure false
  n0 : fillsNumberSlot (.type "NoneType") nm = pure false
  i1 : fillsNumberSlot (.type "int") nm = pure true
  rI : typeLookup (.type "int") (dunderR nm) = pure (some (.builtin rb))
theorem opn_add : OpN .Add "add" "int.__radd__" := ⟨⟨_, rfl⟩, PySem.noFill_str_add, noFill_none_add, F.fills_int_add, int_radd⟩
theorem opn_sub : OpN .Sub "sub" "int.__rsub__" := ⟨⟨_, rfl⟩, noFill_str_sub, noFill_none_sub, F.fills_int_sub, int_rsub⟩
theorem back_ref {pins : List (Addr × Obj)} {σ : L2.St} {Q : VK} {u : Value} {s' : Shared} (h : EP X pins σ (fun v H' => ∃ p, v = .ref p ∧ Q v H') u s') : PySem.W.CmpBack (EP X pins σ Q) u s' := by
  obtain ⟨v, H', I', r, p, rfl, q⟩ := h
  obtain rfl : u = .ref p := r
  exact ⟨.ref p, H', I', rfl, q⟩
theorem op_bin_own {op : Operator} {nm rb : String} (O : OpN op nm rb) (F : FnOk X.prog X.w X.K X.mg X.base CX k f fd ps sp) (hr : Room k X.A) (m : Spm X.K C (PySem.dunder nm) f) (hb : Binds X.K fd ps []) (hx : Passes CX X E) (hc : PySem.W.selfFirst X.K C = true)
    (hsub : PySem.W.subIn X.K (.type "int") (.ref C) = some false) (hno : PySem.W.findIn X.K (.ref C) (PySem.dunderR nm) = some none) : OpR X (binaryOp op) (rOwnOp C sp E) := by
  intro pins s σ H x y v u Q I rx ry hq
  obtain ⟨a, dx, fs, rfl, ha, hy, q⟩ := hq
  cases rx
  obtain ⟨mA, J, _⟩ := ins_get I.hok ha
  obtain ⟨od, J, _⟩ := J.look
  have run := thn (run_fn (us := [.ref a, u]) (vs := [.ref a, y]) F hr hb .nil hx I (.cons rfl (.cons ry .nil)) q) fun u' s' e => back_ref e
  obtain ⟨sym, hi⟩ := O.info
  have e2 : op.info.2 = nm := by rw [hi]
  rcases hy with ⟨z, rfl⟩ | rfl | ⟨i, rfl⟩
  · obtain ⟨t, rfl⟩ := ry
    exact binop_left (T := "str") I.kIn J (fun A Q E s _ q => wpAny_typeOf (show s.TypeIs (.str z t) "str" from rfl) q) hc (by rw [e2]; exact m) (by rw [e2]; exact O.s0) run
  · cases ry
    exact binop_left (T := "NoneType") I.kIn J (fun A Q E s _ q => wpAny_typeOf (show s.TypeIs .none "NoneType" from rfl) q) hc (by rw [e2]; exact m) (by rw [e2]; exact O.n0) run
  · obtain ⟨t, rfl⟩ := ry
    unfold binaryOp
    refine wpAny_holding ?_
    rw [hi]
    refine wpAny_bind (thn (binop1_left2 (T := "int") I.kIn J (fun A Q E s _ q => wpAny_typeOf (show s.TypeIs (.int i t) "int" from rfl) q) hc m O.i1 hsub hno O.rI run) fun r s' z => ?_)
    obtain ⟨v, rfl, hv⟩ := z
    exact wpAny_pure hv
end
end OwnOp

set_option Elab.async false
set_option linter.all false
set_option maxRecDepth 100000
set_option maxHeartbeats 2000000
namespace OwnOp
open PySem PySem.Spec PyProof.Rows L2 ClX
/-! ## cls(e, .., k = v, ..) of a local that holds a class, C.m(e, .., k = v, ..) of a classmethod -/
/-- x(e, .., k = v, ..), x in slot i the class at C -/
def tMakeL (i : Nat) (C : Addr) (n m : Nat) (sp : Sp) (gV : List V → List V → List V) (E : XK) (t tk : TA) : TE := fun σ H Q => σ[i]? = some (some (.ref C)) ∧ tMakeK C n m sp gV E t tk σ H Q
/-- C.m(e, .., k = v, ..), C's classmethod -/
def tCMethN (C : Addr) (n m : Nat) (sp : Sp) (gV : List V → List V → List V) (E : XK) (ta : TE) (t tk : TA) : TE := fun σ H Q => ta σ H fun x H1 => x = .ref C ∧ t σ H1 fun vs H2 => tk σ H2 fun zs H3 => vs.length = n ∧ zs.length = m ∧ sp (gV (.ref C :: vs) zs) H3 Q E
section
variable {X : Cx} {CX : CXT} {k n i : Nat} {f g C p : Addr} {fd : FuncData} {ps ks : List Str} {sp : Sp} {E : XK} {x m : Str} {mc : Value} {pp apos pos : Pos} {o e : Expr} {es : List Expr} {kws : List Keyword} {ta : TE} {t tk : TA} {gg : List Value → List Value → List Value} {gV : List V → List V → List V}
theorem pe_makeL (hN : X.N[i]? = some x) (hv : Vis X.env.scope x) (M : Mk X.K C f) (F : FnOk X.prog X.w X.K X.mg X.base CX k f fd ps sp) (hr : Room (k + 1) X.A) (hb : KBn X.K fd ps (n + 1) ks gg gV) (hx : Passes CX X E) (ha : PA X (e :: es) t) (hkw : PK X kws tk)
    (hall : (backToKw pos (keywordEach kws X.env)).all (·.1.isSome) = true := by rfl) (hks : (backToKw pos (keywordEach kws X.env)).filterMap (·.1) = ks := by rfl) (hd : (x == ("__debug__" : Str)) = false := by decide) (hcd : (x == ("__classdict__" : Str)) = false := by decide)
    (he : starEach (e :: es) X.env = (false, eval e X.env) :: starEach es X.env := by rfl) (hpl : ((backTo pos (starEach (e :: es) X.env)).any (·.1) || (backToKw pos (keywordEach kws X.env)).any (·.1.isNone)) = false := by rfl) :
    PE X (.Call (.Name x pp) (e :: es) kws pos) (tMakeL i C n ks.length sp gV E t tk) := by
  refine ⟨fun pins s σ H Q I h => ?_⟩
  obtain ⟨h0, h⟩ := h
  refine wpAny_Call_Name_kw ?_
  refine thn ((pe_var (pos := pp) hN hv hd hcd).run pins s σ H (fun v H' => v = .ref C ∧ H' = H) I ⟨.ref C, h0, rfl, rfl⟩) fun u s0 ⟨v, H', I0, rv, ev, eH⟩ => ?_
  subst ev
  subst eH
  obtain rfl : u = Value.ref C := rv
  refine PySem.W.callWith_KW (h₀ := X.base) I0.ok.mod.kin M.kp hall (thn (ha.run pos pins s0 σ _ _ I0 h) fun us s1 ⟨vs, H1, I1, r, q⟩ => ?_) hpl he
  refine thn (hkw.run pos pins s1 σ H1 _ I1 q) fun ws s2 ⟨zs, H2, I2, rz, l1, l2, q2⟩ => ⟨I2.kIn, ?_⟩
  rw [hks]
  exact run_makeK M F hr hb hx I2 r rz l1 l2 q2
theorem pe_cmethN {pl : Sem Bool} (he : PE X o ta) (r : CRead X.K C mc) (c : CMet X.K C mc m p g) (F : FnOk X.prog X.w X.K X.mg X.base CX k g fd ps sp) (hr : Room k X.A) (hb : KBn X.K fd ps (n + 1) ks gg gV) (hx : Passes CX X E) (ha : PA X (e :: es) t) (hkw : PK X kws tk)
    (hall : (backToKw pos (keywordEach kws X.env)).all (·.1.isSome) = true := by rfl) (hks : (backToKw pos (keywordEach kws X.env)).filterMap (·.1) = ks := by rfl)
    (hst : starEach (e :: es) X.env = (false, eval e X.env) :: starEach es X.env := by rfl) (hpl : ((backTo pos (starEach (e :: es) X.env)).any (·.1) || (backToKw pos (keywordEach kws X.env)).any (·.1.isNone)) = false := by rfl)
    (ht : eval (.Call (.Attribute o m apos) (e :: es) kws pos) X.env = (do
      let ov ← eval o X.env
      standAt apos.atName
      let (f, first) ← holding [ov] (getMethod ov m pl)
      callWith pos f first (backTo pos (starEach (e :: es) X.env)) (backToKw pos (keywordEach kws X.env))) := by rfl) :
    PE X (.Call (.Attribute o m apos) (e :: es) kws pos) (tCMethN C n ks.length sp gV E ta t tk) := by
  refine ⟨fun pins s σ H Q I h => ?_⟩
  refine PySem.W.methodCall_KW (pl := pl) (thn (he.run pins s σ H _ I h) fun u s1 ⟨x, H1, I1, rx, ex, q⟩ => ?_) ht
  subst ex
  obtain rfl : u = Value.ref C := rx
  refine getmethcm_ok I1 r c fun s2 I2 => ?_
  have hq := pin_at I2
  refine PySem.W.callWith_of hpl (PySem.W.keeps_M (self := .ref C) c.fi) (PyProof.Rows.evalArgs_kw2 hall (thn (ha.run pos _ s2 σ H1 _ I2 q) fun us s3 ⟨vs, H2, I3, rv, q2⟩ => ?_) hst)
  refine thn (hkw.run pos _ s3 σ H2 _ I3 q2) fun ws s4 ⟨zs, H3, I4, rz, l1, l2, q3⟩ => ⟨⟨pin_at I4, I4.kIn⟩, ?_⟩
  rw [hks]
  have n1 : (Value.ref C :: us).length = n + 1 := by rw [List.length_cons, ← rv.length, l1]
  have r1 : Vals (V.ref C :: vs) (Value.ref C :: us) := .cons rfl rv
  have z : wpAny (model X.prog X.w) X.A (call (.ref _) us (ks.zip ws)) (EP X _ σ Q) X.xe s4 :=
    wpAny_call (PySem.W.method_call (pin_at I4) (codeAny_mono (F.run X.A X.stack s4 H3 ⟨Value.ref C :: us, ks.zip ws⟩ (gg (Value.ref C :: us) ws) (gV (V.ref C :: vs) zs) Q E hr I4.env0 (hb.to s4 _ _ I4.kIn n1 (rz.length.symm.trans l2)) (hb.rel r1 rz) q3) fun r s' hq => by
      cases r with
      | error e => exact hx _ σ H3 s4 e s' I4 hq
      | ok fl =>
        cases fl with
        | ret u => exact I4.after hq
        | next => exact False.elim hq
        | brk => exact False.elim hq
        | cont => exact False.elim hq))
  exact thn z fun _ _ y => unpinE y
end
end OwnOp

set_option Elab.async false
set_option linter.all false
set_option maxRecDepth 100000
namespace KW
open PySem L2
/-! ## the text by places -/
def topS (i : Nat) : Stmt := PySem.Challenge.pw_quietharm_k14_whole_answers.main.body.getD i (.Pass ⟨0, 0, 0, 0⟩)
abbrev sIsInt : Stmt := topS 2
abbrev sBetween : Stmt := topS 3
abbrev sOneOf : Stmt := topS 4
abbrev sBkInit : Stmt := inClass (topS 8) 0
abbrev sBpInit : Stmt := inClass (topS 9) 0
abbrev sPossible : Stmt := topS 19
abbrev sAreHarms : Stmt := topS 20
abbrev sAreSums : Stmt := topS 21
abbrev sIsOrder : Stmt := topS 22
abbrev sKInit : Stmt := inClass (topS 23) 0
abbrev sKEq : Stmt := inClass (topS 23) 2
abbrev sPInit : Stmt := inClass (topS 24) 0
abbrev sPEq : Stmt := inClass (topS 24) 1
abbrev sSaInit : Stmt := inClass (topS 88) 0
abbrev sSaEq : Stmt := inClass (topS 88) 1
abbrev sHaInit : Stmt := inClass (topS 89) 0
abbrev sHaEq : Stmt := inClass (topS 89) 1
abbrev sSiInit : Stmt := inClass (topS 97) 0
abbrev sSiEq : Stmt := inClass (topS 97) 1
abbrev sNumber : Stmt := topS 104
abbrev sParts : Stmt := topS 105
abbrev sAnswer : Stmt := topS 106
abbrev sSeen : Stmt := topS 107
abbrev sLaw : Stmt := topS 108
end KW

set_option Elab.async false
set_option linter.all false
set_option maxRecDepth 100000
set_option maxHeartbeats 2000000
namespace OwnOp
open PySem PySem.Spec PyProof.Rows L2 LamX
/-! ## a caught error with its own dict: isinstance, a field; the def that asks a lambda and tells the error's part -/
theorem iteB {c : Bool} {A B : Prop} (hc : c = true) (h : A) : if c = true then A else B := by
  rw [if_pos hc]
  exact h
theorem iteBF {c : Bool} {A B : Prop} (hc : c = false) (h : B) : if c = true then A else B := by
  rw [hc, if_neg Bool.false_ne_true]
  exact h
/-- isinstance(e, c), e the exception in hand: one of the classes that Ds tells, its own dict at dd -/
def rIsE2 (K : PySem.W.Frag) (cls : Value) (d : Option Addr) (a : Addr) : List V → Hp → VK → Prop := fun xs H Q =>
  ∃ (D dd : Addr) (fs : List (Str × V)) (c : V) (cv : Value) (b : Bool), cls = .ref D ∧ ExcC K D ∧ d = some dd ∧ H dd = some (.xd fs) ∧ xs = [.ref a, c] ∧ (∀ u, RelV c u → u = cv) ∧ PySem.W.kitOne K (.ref D) cv = some b ∧ Q (.bl b) H
theorem call_isE2 {X : Cx} {a : Addr} {oe : Obj} {cls : Value} {d : Option Addr} {pn : List (Addr × Obj)} (hz : Zc cls d oe) (hf : ∃ vs, oe.data = .fields vs) : CallR (X.suite a ((a, oe) :: pn)) (.builtin "isinstance") (rIsE2 X.K cls d a) := by
  intro pins s σ H xs us Q I r h
  obtain ⟨D, dd, fs, c, cv, b, rfl, C, rfl, hd, rfl, hcv, e, q⟩ := h
  cases r with
  | cons rx rr =>
    cases rr with
    | cons rt rr =>
      cases rr
      cases rx
      have ec := hcv _ rt
      subst ec
      obtain ⟨hget, _⟩ := I.pin (a, oe) (List.mem_append.mpr (.inl List.mem_cons_self))
      obtain ⟨vs, hv⟩ := hf
      have hx : ObjOk X.prog X.w H s.heap dd (.xd fs) := I.hok dd _ hd
      obtain ⟨mA, hns, hr⟩ := hx
      obtain ⟨od, ho, hl⟩ := lookIn_ns hns
      have J : PySem.W.InstAt s.heap a oe D (some od) := ⟨hget, hz.1, by unfold PySem.W.notCls; rw [hv] <;> rfl, by rw [hz.2]; exact ho⟩
      have hcl : (PySem.W.clsIn X.K D).isSome = true := by
        obtain ⟨cd, hc, _⟩ := PySem.W.any_some C.hd
        rw [hc]; rfl
      exact PySem.W.kia_one (PySem.W.kitx_exc hcl C.hg C.hk C.hs C.ha C.hn C.ht C.hm) I.kIn J e (fun z => nomatch z) fun tk => ⟨.bl b, H, I.kept (t' := tk) fun _ _ z => z, rfl, q⟩
/-- e.f of the exception in hand, its class among several -/
def tXf2 (K : PySem.W.Frag) (a : Addr) (cls : Value) (d : Option Addr) (n : Str) (te : TE) : TE := fun σ H Q => ∃ C, XfC K C ∧ PySem.W.findIn K (.ref C) n = some none ∧ tXf a cls d C n te σ H Q
theorem pe_xf2 {X : Cx} {a : Addr} {oe : Obj} {cls : Value} {d : Option Addr} {pn : List (Addr × Obj)} {e : Expr} {te : TE} {pos : Pos} {n : Str} (hz : Zc cls d oe) (hf : ∃ vs, oe.data = .fields vs) (he : PE (X.suite a ((a, oe) :: pn)) e te)
    (hb : attributeBase e n X.env (eval e X.env) = eval e X.env := by rfl) : PE (X.suite a ((a, oe) :: pn)) (.Attribute e n pos) (tXf2 X.K a cls d n te) := by
  refine ⟨fun pins s σ H Q I h => ?_⟩
  obtain ⟨C, T, hno, h⟩ := h
  exact (pe_xf T hno hz hf he hb).run pins s σ H Q I h
end OwnOp

set_option Elab.async false
set_option linter.all false
set_option maxRecDepth 100000
set_option maxHeartbeats 2000000
namespace KW
open PySem PySem.Spec PyProof.Rows L2 LamX OwnOp
/-! ## values: flat ones, and tuples and lists of flat ones -/
/-- flat, and a text of the usual signs -/
def okV : V → Bool
  | .non => true
  | .bl _ => true
  | .int _ => true
  | .str z => PySem.PyData.strOk z
  | _ => false
theorem okV.flat {v : V} (h : okV v = true) : flatV v = true := by
  cases v <;> first | rfl | cases h
theorem okV.all {xs : List V} (h : xs.all okV = true) : xs.all flatV = true := List.all_eq_true.mpr fun x hx => okV.flat (List.all_eq_true.mp h x hx)
inductive Dat where
  | fl (v : V) | tup (xs : List V) | lst (xs : List V)
/-- v is what d says, in the heap H -/
inductive Is (K : PySem.W.Frag) (H : Hp) : V → Dat → Prop where
  | fl {v : V} (h : okV v = true) : Is K H v (.fl v)
  | tup {p : Addr} {xs : List V} (h : SqT K H p xs) (hf : xs.all okV = true) : Is K H (.ref p) (.tup xs)
  | lst {p : Addr} {xs : List V} (h : SqL K H p xs) (hf : xs.all okV = true) : Is K H (.ref p) (.lst xs)
theorem Same.sqT {K : PySem.W.Frag} {H H' : Hp} {a : Addr} {xs : List V} (e : Same H H') (h : SqT K H a xs) : SqT K H' a xs := by
  rcases h with (h | ⟨o, h⟩) | h
  · exact .inl (.inl (e _ _ h))
  · exact .inl (.inr ⟨o, e _ _ h⟩)
  · exact .inr h
theorem Same.is {K : PySem.W.Frag} {H H' : Hp} {v : V} {d : Dat} (e : Same H H') (h : Is K H v d) : Is K H' v d := by
  cases h with
  | fl h => exact .fl h
  | tup h hf => exact .tup (Same.sqT e h) hf
  | lst h hf => exact .lst (e.seq h) hf
theorem same_upd {H : Hp} {p : Addr} {o : HO} (h : H p = none) : Same H (upd H p o) := fun b u e => by
  rw [upd_ne (ne_of_none e h)]
  exact e
/-- the type's name -/
def tyD : Dat → String
  | .fl .non => "NoneType"
  | .fl (.bl _) => "bool"
  | .fl (.int _) => "int"
  | .fl (.str _) => "str"
  | .fl _ => "object"
  | .tup _ => "tuple"
  | .lst _ => "list"
theorem Is.ty {K : PySem.W.Frag} {H : Hp} {v : V} {d : Dat} (h : Is K H v d) : TyX K H v (.type (tyD d)) := by
  cases h with
  | fl h =>
    cases v with
    | non => exact .base .non
    | bl b => exact .base (.bl b)
    | int i => exact .base (.int i)
    | str x => exact .base (.str x)
    | _ => exact absurd (show false = true from h) Bool.false_ne_true
  | tup h hf =>
    rcases h with (h | ⟨o, h⟩) | ⟨o, its, n, hk, hc, _⟩
    · exact .base (.tup h)
    · exact .fTuple h
    · exact .kTuple hk hc
  | lst h hf =>
    rcases h with (h | ⟨o, h⟩) | ⟨o, its, n, hk, hc, _⟩
    · exact .base (.lst h)
    · exact .base (.frz h)
    · exact .kList hk hc
def isInt : Dat → Bool
  | .fl (.int _) => true
  | _ => false
def isIntB : Dat → Bool
  | .fl (.int _) => true
  | .fl (.bl _) => true
  | _ => false
def isBool : Dat → Bool
  | .fl (.bl _) => true
  | _ => false
def isStr : Dat → Bool
  | .fl (.str _) => true
  | _ => false
def isTup : Dat → Bool
  | .tup _ => true
  | _ => false
section
variable {K : PySem.W.Frag} {H : Hp} {v : V} {d : Dat}
theorem Is.kInt (h : Is K H v d) : PySem.W.kitOne K (.type (tyD d)) (.type "int") = some (isIntB d) := by
  cases h with
  | fl h =>
    cases v with
    | non => exact kit_ty (show kitB "NoneType" "int" = some false by decide +kernel)
    | bl b => exact kit_ty (show kitB "bool" "int" = some true by decide +kernel)
    | int i => exact kit_ty (show kitB "int" "int" = some true by decide +kernel)
    | str x => exact kit_ty (show kitB "str" "int" = some false by decide +kernel)
    | _ => exact absurd (show false = true from h) Bool.false_ne_true
  | tup h hf => exact kit_ty (show kitB "tuple" "int" = some false by decide +kernel)
  | lst h hf => exact kit_ty (show kitB "list" "int" = some false by decide +kernel)
theorem Is.kBool (h : Is K H v d) : PySem.W.kitOne K (.type (tyD d)) (.type "bool") = some (isBool d) := by
  cases h with
  | fl h =>
    cases v with
    | non => exact kit_ty (show kitB "NoneType" "bool" = some false by decide +kernel)
    | bl b => exact kit_ty (show kitB "bool" "bool" = some true by decide +kernel)
    | int i => exact kit_ty (show kitB "int" "bool" = some false by decide +kernel)
    | str x => exact kit_ty (show kitB "str" "bool" = some false by decide +kernel)
    | _ => exact absurd (show false = true from h) Bool.false_ne_true
  | tup h hf => exact kit_ty (show kitB "tuple" "bool" = some false by decide +kernel)
  | lst h hf => exact kit_ty (show kitB "list" "bool" = some false by decide +kernel)
theorem Is.kStr (h : Is K H v d) : PySem.W.kitOne K (.type (tyD d)) (.type "str") = some (isStr d) := by
  cases h with
  | fl h =>
    cases v with
    | non => exact kit_ty (show kitB "NoneType" "str" = some false by decide +kernel)
    | bl b => exact kit_ty (show kitB "bool" "str" = some false by decide +kernel)
    | int i => exact kit_ty (show kitB "int" "str" = some false by decide +kernel)
    | str x => exact kit_ty (show kitB "str" "str" = some true by decide +kernel)
    | _ => exact absurd (show false = true from h) Bool.false_ne_true
  | tup h hf => exact kit_ty (show kitB "tuple" "str" = some false by decide +kernel)
  | lst h hf => exact kit_ty (show kitB "list" "str" = some false by decide +kernel)
theorem Is.kTup (h : Is K H v d) : PySem.W.kitOne K (.type (tyD d)) (.type "tuple") = some (isTup d) := by
  cases h with
  | fl h =>
    cases v with
    | non => exact kit_ty (show kitB "NoneType" "tuple" = some false by decide +kernel)
    | bl b => exact kit_ty (show kitB "bool" "tuple" = some false by decide +kernel)
    | int i => exact kit_ty (show kitB "int" "tuple" = some false by decide +kernel)
    | str x => exact kit_ty (show kitB "str" "tuple" = some false by decide +kernel)
    | _ => exact absurd (show false = true from h) Bool.false_ne_true
  | tup h hf => exact kit_ty (show kitB "tuple" "tuple" = some true by decide +kernel)
  | lst h hf => exact kit_ty (show kitB "list" "tuple" = some false by decide +kernel)
end
/-! ## the defs of checks.py -/
structure DefAt (K : PySem.W.Frag) (mg : Str → Option Value) (x qual : Str) (st : Stmt) where
  f : Addr
  fd : FuncData
  F : Fun K x qual st f fd
  g : mg x = some (.ref f)
def betw : Dat → Int → Int → Bool
  | .fl (.int i), lo, hi => decide (lo ≤ i ∧ i ≤ hi)
  | _, _, _ => false
def oneOf (v : V) (ws : List V) : Bool := match v with
  | .str _ => inV v ws
  | _ => false
def spIsInt (K : PySem.W.Frag) : Sp := fun vs H Q _ => ∃ v d, vs = [v] ∧ Is K H v d ∧ Q (.bl (isInt d)) H
def spBetween (K : PySem.W.Frag) : Sp := fun vs H Q _ => ∃ v d lo hi, vs = [v, .int lo, .int hi] ∧ Is K H v d ∧ Q (.bl (betw d lo hi)) H
def spOneOf (K : PySem.W.Frag) : Sp := fun vs H Q _ => ∃ v d p ws, vs = [v, .ref p] ∧ Is K H v d ∧ SqT K H p ws ∧ ws.all flatV = true ∧ Q (.bl (oneOf v ws)) H
/-- the built-in names that stand -/
structure Blt (mg : Str → Option Value) : Prop where
  isi : mg "isinstance" = none
  int : mg "int" = none
  bool : mg "bool" = none
  str : mg "str" = none
  tuple : mg "tuple" = none
  all : mg "all" = none
  sorted : mg "sorted" = none
  list : mg "list" = none
  range : mg "range" = none
  len : mg "len" = none
  sum : mg "sum" = none
  zip : mg "zip" = none
  enum : mg "enumerate" = none
section
variable {P : Program} {w : World} {K : PySem.W.Frag} {mg : Str → Option Value} {base : Heap} {f : Addr} {fd : FuncData}
theorem scIsInt : FnScope ["value"] ["value"] (defScope sIsInt) := ⟨rfl, rfl, rfl, by decide +kernel, rfl, by decide +kernel, by decide +kernel⟩
theorem ok_isInt (F : Fun K "is_integer" "is_integer" sIsInt f fd) (B : Blt mg) : FnOk P w K mg base CX0 1 f fd ["value"] (spIsInt K) := by
  refine F.ok scIsInt (fun vs H Q E h => ?_) (fun cdv A outer s H vs Q E hr h => ?_)
  · obtain ⟨v, d, rfl, _⟩ := h
    rfl
  · obtain ⟨v, d, rfl, hv, k⟩ := h
    refine ⟨_, pss_one (ps_ret (pe_and (pe_callB call_isi (by rfl) B.isi PyProof.Rows.boot_isinstance (pa_cons (pv 0) (pa_cons (pe_bltn (v := .ty "int") (by rfl) B.int PyProof.Rows.boot_int rfl) pa_nil)))
      (pe_one (pe_not (pe_callB call_isi (by rfl) B.isi PyProof.Rows.boot_isinstance (pa_cons (pv 0) (pa_cons (pe_bltn (v := .ty "bool") (by rfl) B.bool PyProof.Rows.boot_bool rfl) pa_nil))))))), ?_⟩
    refine ⟨_, rfl, v, _, _, _, _, rfl, .ty "int", hv.ty, hv.kInt, _, rfl, ?_⟩
    cases e : isIntB d with
    | false =>
      refine iteF ?_
      have e2 : isInt d = false := by
        cases d with
        | fl v => cases v <;> first | rfl | cases e
        | _ => rfl
      rw [← e2]
      exact k
    | true =>
      refine iteT ?_
      refine ⟨_, rfl, v, _, _, _, _, rfl, .ty "bool", hv.ty, hv.kBool, _, rfl, ?_⟩
      have e2 : (!isBool d) = isInt d := by
        cases d with
        | fl v => cases v <;> first | rfl | cases e
        | _ => cases e
      rw [e2]
      exact k
theorem scBetween : FnScope ["value", "least", "greatest"] ["value", "least", "greatest"] (defScope sBetween) := ⟨rfl, rfl, rfl, by decide +kernel, rfl, by decide +kernel, by decide +kernel⟩
theorem ok_between (F : Fun K "is_between" "is_between" sBetween f fd) (I : DefAt K mg "is_integer" "is_integer" sIsInt) (B : Blt mg) : FnOk P w K mg base CX0 2 f fd ["value", "least", "greatest"] (spBetween K) := by
  refine F.ok scBetween (fun vs H Q E h => ?_) (fun cdv A outer s H vs Q E hr h => ?_)
  · obtain ⟨v, d, lo, hi, rfl, _⟩ := h
    rfl
  · obtain ⟨v, d, lo, hi, rfl, hv, k⟩ := h
    have b := I.F.binds (ps := ["value"]) fun _ _ _ _ _ _ us hl => match us, hl with | [_], _ => rfl
    refine ⟨_, pss_one (ps_ret (pe_and (pe_call (ok_isInt I.F B) hr rfl I.g I.F.kp b .nil pass0 (pa_cons (pv 0) pa_nil)) (pe_one (pe_chain op_le op_le (pv 1) (pv 0) (pv 2))))), ?_⟩
    refine ⟨_, rfl, v, d, rfl, hv, _, rfl, ?_⟩
    cases e : isInt d with
    | false =>
      refine iteF ?_
      have e2 : betw d lo hi = false := by
        cases d with
        | fl v => cases v <;> first | rfl | cases e
        | _ => rfl
      rw [← e2]
      exact k
    | true =>
      refine iteT ?_
      cases hv with
      | fl h =>
        cases v with
        | int i =>
          refine ⟨_, rfl, _, rfl, _, _, rfl, rfl, _, rfl, ?_⟩
          refine ite2 (fun c => ?_) (fun c => ?_)
          · refine ⟨_, rfl, _, _, rfl, rfl, ?_⟩
            have c1 : lo ≤ i := of_decide_eq_true c
            have e3 : decide (i ≤ hi) = betw (.fl (.int i)) lo hi := by
              show decide (i ≤ hi) = decide (lo ≤ i ∧ i ≤ hi)
              exact decide_eq_decide.mpr ⟨fun z => ⟨c1, z⟩, fun z => z.2⟩
            show Q (.bl (decide (i ≤ hi))) H
            rw [e3]
            exact k
          · have e3 : false = betw (.fl (.int i)) lo hi := (decide_eq_false fun z => c (decide_eq_true z.1)).symm
            rw [e3]
            exact k
        | _ => cases e
      | tup => cases e
      | lst => cases e
theorem scOneOf : FnScope ["value", "words"] ["value", "words"] (defScope sOneOf) := ⟨rfl, rfl, rfl, by decide +kernel, rfl, by decide +kernel, by decide +kernel⟩
theorem ok_oneOf (F : Fun K "is_one_of" "is_one_of" sOneOf f fd) (B : Blt mg) : FnOk P w K mg base CX0 1 f fd ["value", "words"] (spOneOf K) := by
  refine F.ok scOneOf (fun vs H Q E h => ?_) (fun cdv A outer s H vs Q E hr h => ?_)
  · obtain ⟨v, d, p, ws, rfl, _⟩ := h
    rfl
  · obtain ⟨v, d, p, ws, rfl, hv, hw, hf, k⟩ := h
    refine ⟨_, pss_one (ps_ret (pe_and (pe_callB call_isi (by rfl) B.isi PyProof.Rows.boot_isinstance (pa_cons (pv 0) (pa_cons (pe_bltn (v := .ty "str") (by rfl) B.str PyProof.Rows.boot_str rfl) pa_nil)))
      (pe_one (pe_cmpR op_in_seq (pv 0) (pv 1) (by rfl))))), ?_⟩
    refine ⟨_, rfl, v, _, _, _, _, rfl, .ty "str", hv.ty, hv.kStr, _, rfl, ?_⟩
    cases e : isStr d with
    | false =>
      refine iteF ?_
      have e2 : oneOf v ws = false := by
        cases hv with
        | fl h => cases v <;> first | rfl | cases e
        | _ => rfl
      rw [← e2]
      exact k
    | true =>
      refine iteT ?_
      cases hv with
      | fl h =>
        cases v with
        | str z =>
          exact ⟨_, rfl, _, rfl, p, ws, rfl, .inr hw, rfl, hf, k⟩
        | _ => cases e
      | tup => cases e
      | lst => cases e
end
end KW

set_option Elab.async false
set_option linter.all false
set_option maxRecDepth 100000
set_option maxHeartbeats 2000000
namespace KW
open PySem PySem.Spec PyProof.Rows L2 LamX OwnOp
/-! ## comprehensions that filter and map -/
theorem take_more {α : Type} : ∀ {l : List α} {i : Nat} {x : α}, l[i]? = some x → l.take (i + 1) = l.take i ++ [x]
  | [], i, x, h => by simp at h
  | a :: l, 0, x, h => by
    have e : a = x := Option.some.inj h
    subst e
    rfl
  | a :: l, i + 1, x, h => by
    have ih := take_more (l := l) (i := i) (x := x) h
    show a :: l.take (i + 1) = a :: l.take i ++ [x]
    rw [ih]
    rfl
def sel (c : V → Bool) (gf : V → V) (xs : List V) : List V := (xs.filter c).map gf
theorem sel_more {c : V → Bool} {gf : V → V} {xs : List V} {i : Nat} {x : V} (h : xs[i]? = some x) : sel c gf (xs.take (i + 1)) = sel c gf (xs.take i) ++ (if c x = true then [gf x] else []) := by
  unfold sel
  rw [take_more h, List.filter_append, List.map_append]
  cases e : c x <;> simp [List.filter, e]
theorem sel_len (c : V → Bool) (gf : V → V) (xs : List V) : (sel c gf xs).length ≤ xs.length := by
  unfold sel
  rw [List.length_map]
  exact List.length_filter_le _ _
theorem same_keep {H1 H : Hp} {D : Addr} {o : HO} (s : Same H1 H) (hD : H1 D = none) : Same H1 (upd H D o) := fun b u e => by
  rw [upd_ne (ne_of_none e hD)]
  exact s b u e
section
variable {K : PySem.W.Frag} {a : Addr} {xs : List V} {tt : TT} {te : TE} {vs : List Nat} {σ : L2.St} {H1 : Hp} {D : Addr} {Qd : Hp → Prop} {n : Nat}
theorem lc_selT (c : V → Bool) (gf : V → V) (hl : SqT K H1 a xs) (hD : H1 D = none) (hn : xs.length ≤ 1000) (hw : ∀ x, wipe ((wipe σ vs).set n (some x)) vs = wipe σ vs)
    (ht : ∀ x ∈ xs, ∀ H, Same H1 H → ∀ R : Bool → Hp → Prop, (∀ H', Same H H' → R (c x) H') → tt ((wipe σ vs).set n (some x)) H R)
    (he : ∀ x ∈ xs, c x = true → ∀ H, Same H1 H → ∀ R : VK, (∀ H', Same H H' → R (gf x) H') → te ((wipe σ vs).set n (some x)) H R)
    (hd : ∀ H, Same H1 H → H D = some (.lst (sel c gf xs)) → Qd H) :
    ∃ W : Nat → Nat → Hp → Prop, (∃ m, W 0 m (upd H1 D (.lst []))) ∧ ∀ i m H, W i m H →
      ((Itt K a).stop i H ∧ Qd H) ∨ ((Itt K a).go i H ∧ ∃ Nx : Hp → Prop, (∀ H', Nx H' → ∃ m', m' < m ∧ W (i + 1) m' H') ∧ ∀ x H', (Itt K a).yld i H x H' → gName n x (wipe σ vs) H' fun σ2 H2 => wipe σ2 vs = wipe σ vs ∧ tt σ2 H2 fun b H3 =>
        if b = true then te σ2 H3 fun y H4 => ∃ acc, H4 D = some (.lst acc) ∧ acc.length < sizeLine ∧ Nx (upd H4 D (.lst (acc ++ [y]))) else Nx H3) := by
  refine lc_tup (xs := xs) (fun i H => Same H1 H ∧ H D = some (.lst (sel c gf (xs.take i)))) ⟨same_upd hD, by rw [upd_same]; rfl⟩ (fun i H _ p => Same.sqT p.1 hl) ?_ ?_
  · rintro i x H hx ⟨s1, hd1⟩
    have hm : x ∈ xs := List.mem_of_getElem? hx
    refine ⟨hw x, ht x hm H s1 _ fun H2 s2 => ?_⟩
    cases e : c x with
    | false =>
      refine iteF ⟨s1.trans s2, ?_⟩
      rw [sel_more hx, e]
      simpa using s2 _ _ hd1
    | true =>
      refine iteT (he x hm e H2 (s1.trans s2) _ fun H3 s3 => ⟨_, s3 _ _ (s2 _ _ hd1), ?_, ?_, ?_⟩)
      · refine small1000 (Nat.le_trans (sel_len _ _ _) ?_)
        rw [List.length_take]
        omega
      · exact same_keep ((s1.trans s2).trans s3) hD
      · rw [upd_same, sel_more hx, e]
        rfl
  · rintro H ⟨s1, hd1⟩
    rw [List.take_length] at hd1
    exact hd H s1 hd1
theorem lc_selL (c : V → Bool) (gf : V → V) (hl : SqL K H1 a xs) (hD : H1 D = none) (hn : xs.length ≤ 1000) (hw : ∀ x, wipe ((wipe σ vs).set n (some x)) vs = wipe σ vs)
    (ht : ∀ x ∈ xs, ∀ H, Same H1 H → ∀ R : Bool → Hp → Prop, (∀ H', Same H H' → R (c x) H') → tt ((wipe σ vs).set n (some x)) H R)
    (he : ∀ x ∈ xs, c x = true → ∀ H, Same H1 H → ∀ R : VK, (∀ H', Same H H' → R (gf x) H') → te ((wipe σ vs).set n (some x)) H R)
    (hd : ∀ H, Same H1 H → H D = some (.lst (sel c gf xs)) → Qd H) :
    ∃ W : Nat → Nat → Hp → Prop, (∃ m, W 0 m (upd H1 D (.lst []))) ∧ ∀ i m H, W i m H →
      ((Itl K a).stop i H ∧ Qd H) ∨ ((Itl K a).go i H ∧ ∃ Nx : Hp → Prop, (∀ H', Nx H' → ∃ m', m' < m ∧ W (i + 1) m' H') ∧ ∀ x H', (Itl K a).yld i H x H' → gName n x (wipe σ vs) H' fun σ2 H2 => wipe σ2 vs = wipe σ vs ∧ tt σ2 H2 fun b H3 =>
        if b = true then te σ2 H3 fun y H4 => ∃ acc, H4 D = some (.lst acc) ∧ acc.length < sizeLine ∧ Nx (upd H4 D (.lst (acc ++ [y]))) else Nx H3) := by
  refine lc_list (xs := xs) (fun i H => Same H1 H ∧ H D = some (.lst (sel c gf (xs.take i)))) ⟨same_upd hD, by rw [upd_same]; rfl⟩ (fun i H _ p => p.1.seq hl) ?_ ?_
  · rintro i x H hx ⟨s1, hd1⟩
    have hm : x ∈ xs := List.mem_of_getElem? hx
    refine ⟨hw x, ht x hm H s1 _ fun H2 s2 => ?_⟩
    cases e : c x with
    | false =>
      refine iteF ⟨s1.trans s2, ?_⟩
      rw [sel_more hx, e]
      simpa using s2 _ _ hd1
    | true =>
      refine iteT (he x hm e H2 (s1.trans s2) _ fun H3 s3 => ⟨_, s3 _ _ (s2 _ _ hd1), ?_, ?_, ?_⟩)
      · refine small1000 (Nat.le_trans (sel_len _ _ _) ?_)
        rw [List.length_take]
        omega
      · exact same_keep ((s1.trans s2).trans s3) hD
      · rw [upd_same, sel_more hx, e]
        rfl
  · rintro H ⟨s1, hd1⟩
    rw [List.take_length] at hd1
    exact hd H s1 hd1
end
end KW

set_option Elab.async false
set_option linter.all false
set_option maxRecDepth 100000
set_option maxHeartbeats 2000000
namespace KW
open PySem PySem.Spec PyProof.Rows L2 LamX OwnOp
/-! ## the defs of keeps.py that look at parts -/
/-- a tuple of the module's own -/
structure TupAt (K : PySem.W.Frag) (mg : Str → Option Value) (x : Str) (xs : List V) where
  a : Addr
  g : mg x = some (.ref a)
  at_ : ∀ H, SqT K H a xs
/-- a number of the module's own -/
structure NumAt (mg : Str → Option Value) (x : Str) (i : Int) : Prop where
  g : ∃ t, mg x = some (.int i t)
theorem NumAt.pe {X : Cx} {x : Str} {i : Int} {pos : Pos} (N : NumAt X.mg x i) (hg : Gl X x) (hd : (x == ("__debug__" : Str)) = false := by decide) : PE X (.Name x pos) (tC (.int i)) := by
  obtain ⟨t, g⟩ := N.g
  exact pe_glob hg g ⟨t, rfl⟩ hd
def wAstray : V := .str "astray"
def allH : List V := [.str "astray", .str "late", .str "lost", .str "torn", .str "worn"]
def allK : List V := [.str "bare", .str "whole", .str "named", .str "noted"]
def allC : List V := [.str "first", .str "newest", .str "most"]
def allP : List V := [.str "sums", .str "order", .str "choice", .str "mends", .str "limit"]
def harmOk (d : Dat) (w : V) : Bool := !decide (w = wAstray) || betw d 2 2
def harmsFor (d : Dat) : List V := allH.filter (harmOk d)
theorem sel_id {c : V → Bool} {xs : List V} : sel c (fun v => v) xs = xs.filter c := by
  unfold sel
  simp
def strV : V → Bool
  | .str _ => true
  | _ => false
theorem str_of_mem {ws : List V} (h : ws.all strV = true) {x : V} (hx : x ∈ ws) : ∃ z, x = .str z := by
  have e := List.all_eq_true.mp h x hx
  cases x <;> first | exact ⟨_, rfl⟩ | cases e
def spPossible (K : PySem.W.Frag) : Sp := fun vs H Q _ => ∃ v d, vs = [v] ∧ Is K H v d ∧ ∀ H' p, Same H H' → H p = none → H' p = some (.tup (harmsFor d)) → Q (.ref p) H'
section
variable {P : Program} {w : World} {K : PySem.W.Frag} {mg : Str → Option Value} {base : Heap} {f : Addr} {fd : FuncData}
theorem scPossible : FnScope ["blocks", "word"] ["blocks"] (defScope sPossible) := ⟨rfl, rfl, rfl, by decide +kernel, rfl, by decide +kernel, by decide +kernel⟩
theorem ok_possible (F : Fun K "possible_harms" "possible_harms" sPossible f fd) (Bt : DefAt K mg "is_between" "is_between" sBetween) (I : DefAt K mg "is_integer" "is_integer" sIsInt) (B : Blt mg)
    (TH : TupAt K mg "HARMS" allH) (NB : NumAt mg "MOST_BLOCKS" 2) : FnOk P w K mg base CX0 3 f fd ["blocks"] (spPossible K) := by
  refine F.ok scPossible (fun vs H Q E h => ?_) (fun cdv A outer s H vs Q E hr h => ?_)
  · obtain ⟨v, d, rfl, _⟩ := h
    rfl
  · obtain ⟨v, d, rfl, hv, k⟩ := h
    have b := Bt.F.binds (ps := ["value", "least", "greatest"]) fun _ _ _ _ _ _ us hl => match us, hl with | [_, _, _], _ => rfl
    refine ⟨_, pss_one (ps_ret (pe_callTy call_tuple_of (by rfl) B.tuple PyProof.Rows.boot_tuple (pa_cons (pe_lc (own := [("word", 1)]) (g := gName 1) (by rfl) scPossible.nd (pi_tup (pe_glob (v := .ref TH.a) (by rfl) TH.g rfl))
      (blkOk_by (own := [("word", 1)]) (N := ["blocks", "word"]) (sc := defScope sPossible) (by decide +kernel)) (fun _ _ _ _ _ => pg_name (i := 1) scPossible.nd rfl (Or.inl rfl))
      (fun _ _ _ _ _ => pts_one (PW.pt (pw_or (pt_cmpR op_ne (pv 1) pe_str (nomark _)) (pw_or1 (pt_val (pe_call (ok_between Bt.F I B) hr rfl Bt.g Bt.F.kp b .nil pass0 (pa_cons (pv 0) (pa_cons pe_int (pa_cons (NB.pe rfl) pa_nil)))))))))
      (fun _ _ _ _ _ => pv 1)) pa_nil))), ?_⟩
    refine ⟨TH.a, rfl, ⟨_, TH.at_ _⟩, fun D hD => ?_⟩
    refine lc_selT (c := harmOk d) (gf := fun v => v) (TH.at_ _) hD (by decide) (fun x => rfl) (fun x hx H2 s2 R hR => ?_) (fun x hx hc H2 s2 R hR => ?_) (fun H2 s2 hd2 => ?_)
    · obtain ⟨z, rfl⟩ := str_of_mem (ws := allH) rfl hx
      refine ⟨_, rfl, rfl, _, rfl, ?_⟩
      show if (!decide (V.str z = wAstray)) = true then _ else _
      cases e : (!decide (V.str z = wAstray)) with
      | true =>
        refine iteT ?_
        have e2 : harmOk d (.str z) = true := by
          unfold harmOk
          rw [e, Bool.true_or]
        rw [← e2]
        exact hR _ (Same.refl _)
      | false =>
        refine iteF ?_
        refine ⟨_, rfl, v, d, 2, 2, rfl, KW.Same.is s2 hv, _, rfl, ?_⟩
        have e2 : harmOk d (.str z) = betw d 2 2 := by
          unfold harmOk
          rw [e, Bool.false_or]
        rw [← e2]
        exact hR _ (Same.refl _)
    · exact ⟨_, rfl, hR _ (Same.refl _)⟩
    · refine ⟨D, _, rfl, .inl ⟨SqL.of hd2, fun p hp => ?_⟩⟩
      rw [sel_id]
      exact k _ p (s2.trans (same_upd hp)) (s2.free hp) upd_same
end
end KW

set_option Elab.async false
set_option linter.all false
set_option maxRecDepth 100000
set_option maxHeartbeats 2000000
namespace OwnOp
open PySem PySem.Spec PyProof.Rows L2
/-! ## sorted of a tuple of ints, of texts -/
section
variable {prog : Program} {w : World} {A : Around} {E : Value → Shared → Prop} {s : Shared}
/-- the list that takes what is walked -/
def tookHeap (h : Heap) (vs : List Value) : Heap := (h.push (seqObj "list" #[] 0)).update h.objs.size (Obj.mapSeq (· ++ vs.toArray))
theorem took_tup {l : Addr} {vs : List Value} {Q : List Value → Shared → Prop} (hl : IsTup s.heap l vs.toArray) (h : Q vs { s with heap := tookHeap s.heap vs }) (hsz : vs.length ≤ sizeLine) : wpAny (model prog w) A (collect (.ref l)) Q E s := by
  obtain ⟨o, ho, hc, n, hd⟩ := hl
  have old : (s.heap.push (seqObj "list" #[] 0)).get? l = some o := Heap.get?_push_of_some _ ho
  have own : (s.heap.push (seqObj "list" #[] 0)).get? s.heap.objs.size = some (seqObj "list" #[] 0) := Heap.get?_push_size _ rfl
  unfold collect
  refine wpAny_bind (wpAny_runValue (codeAny_builtin entry_proto_collect' ?_))
  show wpAny _ _ (newList [] >>= fun m => again (.builtin "list.__iadd__" ⟨[m, .ref l], []⟩)) _ _ s
  refine wpAny_bind (wpAny_newList (wpAny_pure ⟨Code.quiet_builtin _ (by decide +kernel), codeAny_builtin entry_list_iadd' ?_⟩))
  show wpAny _ _ (Builtin.List.listExtendWith (.ref s.heap.objs.size) (.ref l) (.ref s.heap.objs.size)) _ _ { s with heap := s.heap.push (seqObj "list" #[] 0) }
  unfold Builtin.List.listExtendWith
  refine wpAny_bind (wpAny_typeOf (T := "tuple") ⟨o, old, hc⟩ ?_)
  rw [if_pos (by rw [show (Value.type "tuple" == Value.type "tuple") = true from rfl, Bool.or_true])]
  refine wpAny_bind (listItems_at old hd (wpAny_bind (listItems_at (xs := #[]) (n := 0) own rfl ?_)))
  rw [if_neg (by simp)]
  refine wpAny_bind (listUpdate_at (xs := #[]) (n := 0) own rfl ?_ (Nat.zero_le _) (by show (#[] ++ vs.toArray).size ≤ sizeLine + 1; simp only [Array.size_append, List.size_toArray, List.length_nil]; omega))
  refine wpAny_pure ?_
  show wpAny (model prog w) A (load s.heap.objs.size >>= fun o => match o.data with | .seq xs _ => pure xs.toList | _ => unsupported "internal:collect") Q E { s with heap := tookHeap s.heap vs }
  refine wpAny_bind (wpAny_load (get?_update_seq own _) ?_)
  show wpAny _ _ (pure ((#[] : Array Value) ++ vs.toArray).toList) Q E _
  rw [show ((#[] : Array Value) ++ vs.toArray).toList = vs by simp]
  exact wpAny_pure h
theorem sorted_tupK {κ : KeyKind} (hO : κ.OneLt) {l : Addr} {vs : List Value} {Q : Value → Shared → Prop} (hl : IsTup s.heap l vs.toArray) (h0 : KeysOf κ (pairsOf vs)) (hkk : ∀ v₁ v₂ rest, vs = v₁ :: v₂ :: rest → keyKind' (v₁ :: v₂ :: rest).toArray = pure oneType') (h64 : vs.length < 64)
    (h : ∀ st' : SortSt, (arrOf st').Perm (pairsOf vs) → SortedToK κ (arrOf st') (pairsOf vs).size → Q (.ref (s.heap.objs.size + 1)) { s with heap := sortedAll s.heap vs ((arrOf st').map (·.2)) }) : wpAny (model prog w) A (call (.builtin "sorted") [.ref l]) Q E s := by
  have e1 : (tookHeap s.heap vs).objs.size = s.heap.objs.size + 1 := by
    unfold tookHeap
    rw [Heap.size_update, size_push']
  have e2 : ((tookHeap s.heap vs).push (seqObj "list" vs.toArray 0)).get? (s.heap.objs.size + 1) = some (seqObj "list" vs.toArray 0) := by
    rw [← e1]; exact Heap.get?_push_size _ rfl
  refine Calls.call_function_entry kind_sorted plain_sorted entry_sorted (args_sorted1 _) ?_
  unfold Builtin.«sorted»
  refine wpAny_bind (m := checkCount "sorted" 1 1 _) (wpAny_pure (wpAny_bind (took_tup hl (wpAny_bind (wpAny_newList ?_)) (Nat.le_of_lt (small1000 (by omega))))))
  show wpAny _ _ _ _ _ { s with heap := (tookHeap s.heap vs).push (seqObj "list" vs.toArray 0) }
  rw [e1]
  exact wpAny_bind (wpAny_holding (wpAny_call_entry slot_list_sort ⟨_, e2, rfl⟩ entry_list_sort (list_sort_treeK hO e2 h0 hkk h64 fun st' a1 a2 => ⟨_, rfl, wpAny_pure ⟨_, rfl, h st' a1 a2⟩⟩) (args_list_sort _)))
end
section
variable {X : Cx}
def rSortedTI (K : PySem.W.Frag) : List V → Hp → VK → Prop := fun vs H Q => ∃ (a : Addr) (ns : List Int), vs = [V.ref a] ∧ SqT K H a (ns.map V.int) ∧ ns.length < 64 ∧ ∀ (ns' : List Int) (p : Addr), ns'.Perm ns → ns'.Pairwise (· ≤ ·) → H p = none → Q (.ref p) (upd H p (.lst (ns'.map V.int)))
theorem cr_sortedTI : CallR X (.builtin "sorted") (rSortedTI X.K) := by
  intro pins s σ H vs us Q I r h
  obtain ⟨a, ns, rfl, hs, h64, q⟩ := h
  obtain ⟨its, rv, hl, _⟩ := I.tuple hs
  rw [Vals.ref1 r]
  have hi := rv.ints
  refine sorted_tupK intKind_oneLt hl hi.keysOfInt (fun v₁ v₂ rest e => keyKind_ints (by rw [← e]; exact hi)) (by rw [hi.length]; exact h64) fun st' hp hs' => ?_
  obtain ⟨ns', h1, h2, h3⟩ := sorted_out hi hp (sortedTo_of_int hs')
  obtain ⟨ep, he'⟩ := PyProof.Rows.sortedAll_at s.heap its ((arrOf st').map (·.2))
  have hlen : (ns'.map V.int).length ≤ sizeLine := by rw [List.length_map, h2.length_eq]; exact small64 h64
  exact ⟨.ref _, upd H (s.heap.objs.size + 1) (.lst (ns'.map V.int)), I.laid (t' := s.toks) (fun _ _ => PyProof.Rows.sortedAll_old) (Nat.le_succ _) ⟨hlen, _, ep, vals_of_ints h1, he'⟩, rfl, q ns' _ h2 h3 (I.hok.fresh (Nat.le_succ _))⟩
def rSortedTS (K : PySem.W.Frag) : List V → Hp → VK → Prop := fun vs H Q => ∃ (a : Addr) (xs : List Str), vs = [V.ref a] ∧ SqT K H a (xs.map V.str) ∧ xs.length < 64 ∧ ∀ (ys : List Str) (p : Addr), ys.Perm xs → sortedS ys = true → H p = none → Q (.ref p) (upd H p (.lst (ys.map V.str)))
theorem cr_sortedTS : CallR X (.builtin "sorted") (rSortedTS X.K) := by
  intro pins s σ H vs us Q I r h
  obtain ⟨a, xs, rfl, hs, h64, q⟩ := h
  obtain ⟨its, rv, hl, _⟩ := I.tuple hs
  rw [Vals.ref1 r]
  have hlen0 := rv.length
  rw [List.length_map] at hlen0
  have hS := rv.strs
  refine sorted_tupK strKind_oneLt hl hS.keysOf (fun v₁ v₂ rest e => keyKind_strs (by rw [← e]; exact hS)) (by rw [← hlen0]; exact h64) fun st' hp hs' => ?_
  obtain ⟨ys, h1, h2, h3⟩ := sorted_out_str hS hp hs'
  obtain ⟨ep, he'⟩ := PyProof.Rows.sortedAll_at s.heap its ((arrOf st').map (·.2))
  have hlen : (ys.map V.str).length ≤ sizeLine := by rw [List.length_map, h2.length_eq]; exact small64 h64
  exact ⟨.ref _, upd H (s.heap.objs.size + 1) (.lst (ys.map V.str)), I.laid (t' := s.toks) (fun _ _ => PyProof.Rows.sortedAll_old) (Nat.le_succ _) ⟨hlen, _, ep, vals_of_strs h1, he'⟩, rfl, q ys _ h2 h3 (I.hok.fresh (Nat.le_succ _))⟩
end
end OwnOp

set_option Elab.async false
set_option linter.all false
set_option maxRecDepth 100000
set_option maxHeartbeats 2000000
namespace KW
open PySem PySem.Spec PyProof.Rows L2 LamX OwnOp
/-! ## == of flat tuples and lists -/
def toPy : V → PyData
  | .bl b => .bool b
  | .int i => .int i
  | .str z => .str z
  | _ => .none
def eqL : List V → List V → Bool
  | [], [] => true
  | x :: xs, y :: ys => eqV x y && eqL xs ys
  | [], _ :: _ => false
  | _ :: _, [] => false
section
variable {K : PySem.W.Frag} {H : Hp}
theorem dp_ok {v : V} (h : okV v = true) : Dp K H v (toPy v) := by
  cases v <;> first | exact .non | exact .bl _ | exact .int _ | exact .str _ | cases h
theorem dpAll_ok : ∀ {xs : List V}, xs.all okV = true → DpAll K H xs (xs.map toPy)
  | [], _ => .nil
  | x :: xs, h => by
    rw [List.all_cons, Bool.and_eq_true] at h
    exact .cons (dp_ok h.1) (dpAll_ok h.2)
theorem lay_ok {v : V} (h : okV v = true) : (toPy v).canLay0 = true := by
  cases v <;> first | rfl | exact h | cases h
theorem depth_ok (v : V) : (toPy v).depth = 0 := by cases v <;> rfl
theorem layAll_ok : ∀ {xs : List V}, xs.all okV = true → PyData.canLayAll0 (xs.map toPy) = true
  | [], _ => rfl
  | x :: xs, h => by
    rw [List.all_cons, Bool.and_eq_true] at h
    show ((toPy x).canLay0 && PyData.canLayAll0 (xs.map toPy)) = true
    rw [lay_ok h.1, layAll_ok h.2]
    rfl
theorem depthAll_ok : ∀ xs : List V, PyData.depthAll (xs.map toPy) = 0
  | [] => rfl
  | x :: xs => by
    show max (toPy x).depth (PyData.depthAll (xs.map toPy)) = 0
    rw [depth_ok, depthAll_ok xs]
    rfl
theorem shaped_ok {v : V} (h : okV v = true) : SeqAt.shaped (toPy v) = true := by
  show ((toPy v).canLay0 && decide ((toPy v).depth ≤ 64)) = true
  rw [lay_ok h, depth_ok]
  rfl
theorem shaped_tup {xs : List V} (h : xs.all okV = true) : SeqAt.shaped (.tuple (xs.map toPy)) = true := by
  show (PyData.canLayAll0 (xs.map toPy) && decide (PyData.depthAll (xs.map toPy) + 1 ≤ 64)) = true
  rw [layAll_ok h, depthAll_ok]
  rfl
theorem shaped_lst {xs : List V} (h : xs.all okV = true) : SeqAt.shaped (.list (xs.map toPy)) = true := by
  show (PyData.canLayAll0 (xs.map toPy) && decide (PyData.depthAll (xs.map toPy) + 1 ≤ 64)) = true
  rw [layAll_ok h, depthAll_ok]
  rfl
theorem eqv_ok {x y : V} (hx : okV x = true) (hy : okV y = true) : PyData.eqv (toPy x) (toPy y) = eqV x y := by
  cases x <;> first | (cases hx; done) | (cases y <;> first | (cases hy; done) | (simp [toPy, PyData.eqv, eqV]; done) | rfl)
theorem eqvAll_ok : ∀ {xs ys : List V}, xs.all okV = true → ys.all okV = true → PyData.eqvAll (xs.map toPy) (ys.map toPy) = eqL xs ys
  | [], [], _, _ => by simp [PyData.eqvAll, eqL]
  | x :: xs, y :: ys, hx, hy => by
    rw [List.all_cons, Bool.and_eq_true] at hx hy
    show PyData.eqvAll (toPy x :: xs.map toPy) (toPy y :: ys.map toPy) = (eqV x y && eqL xs ys)
    rw [← eqv_ok hx.1 hy.1, ← eqvAll_ok hx.2 hy.2]
    simp [PyData.eqvAll]
  | [], _ :: _, _, _ => by simp [PyData.eqvAll, eqL]
  | _ :: _, [], _, _ => by simp [PyData.eqvAll, eqL]
theorem eqv_tup {xs ys : List V} (hx : xs.all okV = true) (hy : ys.all okV = true) : PyData.eqv (.tuple (xs.map toPy)) (.tuple (ys.map toPy)) = eqL xs ys := by
  rw [← eqvAll_ok hx hy]
  simp [PyData.eqv]
theorem eqv_lst {xs ys : List V} (hx : xs.all okV = true) (hy : ys.all okV = true) : PyData.eqv (.list (xs.map toPy)) (.list (ys.map toPy)) = eqL xs ys := by
  rw [← eqvAll_ok hx hy]
  simp [PyData.eqv]
/-- of one kind -/
def kin : V → V → Bool
  | .non, .non => true
  | .bl _, .bl _ => true
  | .int _, .int _ => true
  | .str _, .str _ => true
  | _, _ => false
theorem eqV_kin {x y : V} (h : kin x y = true) : eqV x y = decide (x = y) := by
  cases x <;> cases y <;> first | (cases h; done) | rfl | skip
  · rename_i a b
    show (a == b) = _
    by_cases e : a = b
    · subst e; simp
    · rw [decide_eq_false fun z => e (V.bl.inj z)]; simpa using e
  · rename_i a b
    show (a == b) = _
    by_cases e : a = b
    · subst e; simp
    · rw [decide_eq_false fun z => e (V.int.inj z)]; simpa using e
  · rename_i a b
    show (a == b) = _
    by_cases e : a = b
    · subst e; simp
    · rw [decide_eq_false fun z => e (V.str.inj z)]; simpa using e
theorem eqL_str : ∀ {xs ys : List V}, xs.all strV = true → ys.all strV = true → eqL xs ys = decide (xs = ys)
  | [], [], _, _ => rfl
  | x :: xs, y :: ys, hx, hy => by
    rw [List.all_cons, Bool.and_eq_true] at hx hy
    show (eqV x y && eqL xs ys) = _
    rw [eqL_str hx.2 hy.2, eqV_kin (by cases x <;> cases y <;> first | rfl | (cases hx.1; done) | (cases hy.1; done))]
    by_cases a : x = y <;> by_cases b : xs = ys <;> simp [a, b]
  | [], _ :: _, _, _ => rfl
  | _ :: _, [], _, _ => rfl
def intV : V → Bool
  | .int _ => true
  | _ => false
theorem eqL_int : ∀ {xs ys : List V}, xs.all intV = true → ys.all intV = true → eqL xs ys = decide (xs = ys)
  | [], [], _, _ => rfl
  | x :: xs, y :: ys, hx, hy => by
    rw [List.all_cons, Bool.and_eq_true] at hx hy
    show (eqV x y && eqL xs ys) = _
    rw [eqL_int hx.2 hy.2, eqV_kin (by cases x <;> cases y <;> first | rfl | (cases hx.1; done) | (cases hy.1; done))]
    by_cases a : x = y <;> by_cases b : xs = ys <;> simp [a, b]
  | [], _ :: _, _, _ => rfl
  | _ :: _, [], _, _ => rfl
end
end KW

set_option Elab.async false
set_option linter.all false
set_option maxRecDepth 100000
set_option maxHeartbeats 2000000
namespace KW
open PySem PySem.Spec PyProof.Rows L2 LamX OwnOp
theorem strOkAll : allH.all okV = true := by decide +kernel
theorem harms_sub (d : Dat) : ∀ x ∈ harmsFor d, x ∈ allH := fun x hx => (List.mem_filter.mp hx).1
theorem harms_str (d : Dat) : (harmsFor d).all strV = true := List.all_eq_true.mpr fun x hx => List.all_eq_true.mp (show allH.all strV = true from rfl) x (harms_sub d x hx)
theorem harms_ok (d : Dat) : (harmsFor d).all okV = true := List.all_eq_true.mpr fun x hx => List.all_eq_true.mp strOkAll x (harms_sub d x hx)
theorem harms_len (d : Dat) : (harmsFor d).length ≤ 5 := List.length_filter_le _ _
/-- all items are words of ws: then they are texts -/
theorem oneOf_str {x : V} {ws : List V} (h : oneOf x ws = true) : strV x = true := by
  cases x <;> first | rfl | cases h
def areHarms (d db : Dat) : Bool := match d with
  | .tup xs => xs.all (fun x => oneOf x (harmsFor db)) && decide (xs = (harmsFor db).filter fun x => inV x xs)
  | _ => false
/-- not too long -/
def short : Dat → Prop
  | .tup xs => xs.length ≤ 1000
  | .lst xs => xs.length ≤ 1000
  | _ => True
def spAreHarms (K : PySem.W.Frag) : Sp := fun vs H Q _ => ∃ v d b db, vs = [v, b] ∧ Is K H v d ∧ Is K H b db ∧ short d ∧ ∀ H', Same H H' → Q (.bl (areHarms d db)) H'
def mapB (c : V → Bool) (x : V) : V := .bl (c x)
theorem sel_all (c : V → Bool) (xs : List V) : sel (fun _ => true) (mapB c) xs = (xs.map c).map V.bl := by
  unfold sel mapB
  rw [List.filter_eq_self.mpr (fun _ _ => rfl), List.map_map]
  rfl
section
variable {P : Program} {w : World} {K : PySem.W.Frag} {mg : Str → Option Value} {base : Heap} {f : Addr} {fd : FuncData}
theorem scAreHarms : FnScope ["value", "blocks", "words", "word"] ["value", "blocks"] (defScope sAreHarms) := ⟨rfl, rfl, rfl, by decide +kernel, rfl, by decide +kernel, by decide +kernel⟩
theorem ok_areHarms (F : Fun K "are_harms" "are_harms" sAreHarms f fd) (Ps : DefAt K mg "possible_harms" "possible_harms" sPossible) (Oo : DefAt K mg "is_one_of" "is_one_of" sOneOf) (Bt : DefAt K mg "is_between" "is_between" sBetween) (I : DefAt K mg "is_integer" "is_integer" sIsInt) (B : Blt mg)
    (TH : TupAt K mg "HARMS" allH) (NB : NumAt mg "MOST_BLOCKS" 2) : FnOk P w K mg base CX0 4 f fd ["value", "blocks"] (spAreHarms K) := by
  refine F.ok scAreHarms (fun vs H Q E h => ?_) (fun cdv A outer s H vs Q E hr h => ?_)
  · obtain ⟨v, d, b, db, rfl, _⟩ := h
    rfl
  · obtain ⟨v, d, b, db, rfl, hv, hb, hsh, k⟩ := h
    have bP := Ps.F.binds (ps := ["blocks"]) fun _ _ _ _ _ _ us hl => match us, hl with | [_], _ => rfl
    have bO := Oo.F.binds (ps := ["value", "words"]) fun _ _ _ _ _ _ us hl => match us, hl with | [_, _], _ => rfl
    have hr1 : Room 1 _ := hr.mono (by decide)
    refine ⟨_, pss_cons (ps_set (i := 2) scAreHarms.nd rfl (Or.inr rfl) (pe_call (ok_possible Ps.F Bt I B TH NB) hr rfl Ps.g Ps.F.kp bP .nil pass0 (pa_cons (pv 1) pa_nil)))
      (pss_cons (ps_if (PW.pt (pw_or (pt_not (pt_val (pe_callB call_isi (by rfl) B.isi PyProof.Rows.boot_isinstance (pa_cons (pv 0) (pa_cons (pe_bltn (v := .ty "tuple") (by rfl) B.tuple PyProof.Rows.boot_tuple rfl) pa_nil)))))
        (pw_or1 (pt_not (pt_val (pe_callB (cr_all rfl) (by rfl) B.all PyProof.Rows.boot_all (pa_cons (pe_lc (own := [("word", 3)]) (g := gName 3) (by rfl) scAreHarms.nd (pi_tup (pv 0))
          (blkOk_by (own := [("word", 3)]) (N := ["value", "blocks", "words", "word"]) (sc := defScope sAreHarms) (by decide +kernel)) (fun _ _ _ _ _ => pg_name (i := 3) scAreHarms.nd rfl (Or.inl rfl)) (fun _ _ _ _ _ => pts_nil)
          (fun _ _ _ _ _ => pe_call (ok_oneOf Oo.F B) hr1 rfl Oo.g Oo.F.kp bO .nil pass0 (pa_cons (pv 3) (pa_cons (pv 2) pa_nil)))) pa_nil)))))))
        (pss_one (ps_ret pe_bl)) pss_nil)
      (pss_one (ps_ret (pe_cmpR (op_eqD hr.units) (pv 0) (pe_callTy call_tuple_of (by rfl) B.tuple PyProof.Rows.boot_tuple (pa_cons (pe_lc (own := [("word", 3)]) (g := gName 3) (tt := tTest (tOp (rIn K false) (tVar 3) (tVar 0))) (by rfl) scAreHarms.nd (pi_tup (pv 2))
          (blkOk_by (own := [("word", 3)]) (N := ["value", "blocks", "words", "word"]) (sc := defScope sAreHarms) (by decide +kernel)) (fun _ _ _ _ _ => pg_name (i := 3) scAreHarms.nd rfl (Or.inl rfl))
          (fun _ _ _ _ _ => pts_one (pt_cmpR op_in_seq (pv 3) (pv 0) (by rfl))) (fun _ _ _ _ _ => pv 3)) pa_nil)) (nomark _))))), ?_⟩
    -- words = possible_harms(blocks)
    refine ⟨_, rfl, b, db, rfl, hb, fun H1 W s1 hW hw => ?_⟩
    have hW1 : SqT K H1 W (harmsFor db) := SqT.of hw
    -- is it a tuple
    refine ⟨_, rfl, v, _, _, _, _, rfl, .ty "tuple", (KW.Same.is s1 hv).ty, (KW.Same.is s1 hv).kTup, _, rfl, ?_⟩
    cases e : isTup d with
    | false =>
      refine iteT ?_
      refine iteT ?_
      have e2 : areHarms d db = false := by
        cases d <;> first | rfl | cases e
      rw [← e2]
      exact k _ s1
    | true =>
      refine iteF ?_
      cases hv with
      | fl => cases e
      | lst => cases e
      | tup ht hf =>
        rename_i p xs
        refine ⟨_, rfl, p, rfl, ⟨_, KW.Same.sqT s1 ht⟩, fun D hD => ?_⟩
        refine lc_selT (c := fun _ => true) (gf := mapB fun x => oneOf x (harmsFor db)) (KW.Same.sqT s1 ht) hD hsh (fun x => rfl) (fun x hx H2 s2 R hR => hR _ (Same.refl _)) (fun x hx hc H2 s2 R hR => ?_) (fun H2 s2 hd2 => ?_)
        · exact ⟨_, rfl, _, rfl, x, .fl x, W, _, rfl, .fl (List.all_eq_true.mp hf x hx), KW.Same.sqT s2 hW1, okV.all (harms_ok db), hR _ (Same.refl _)⟩
        · rw [sel_all] at hd2
          refine ⟨D, _, rfl, SqL.of hd2, _, rfl, ?_⟩
          have eA : ((xs.map fun x => oneOf x (harmsFor db)).all id) = xs.all (fun x => oneOf x (harmsFor db)) := by
            rw [List.all_map]
            rfl
          cases e2 : xs.all (fun x => oneOf x (harmsFor db)) with
          | false =>
            refine iteB (by rw [eA, e2]; rfl) ?_
            have e3 : areHarms (.tup xs) db = false := by
              show (xs.all (fun x => oneOf x (harmsFor db)) && _) = false
              rw [e2, Bool.false_and]
            rw [← e3]
            exact k _ (s1.trans s2)
          | true =>
            refine iteBF (by rw [eA, e2]; rfl) ?_
            have hstr : xs.all strV = true := List.all_eq_true.mpr fun x hx => oneOf_str (List.all_eq_true.mp e2 x hx)
            refine ⟨_, rfl, _, rfl, W, rfl, ⟨_, KW.Same.sqT s2 hW1⟩, fun D2 hD2 => ?_⟩
            refine lc_selT (c := fun x => inV x xs) (gf := fun x => x) (KW.Same.sqT s2 hW1) hD2 (Nat.le_trans (harms_len db) (by decide)) (fun x => rfl) (fun x hx H3 s3 R hR => ?_) (fun x hx hc H3 s3 R hR => ⟨_, rfl, hR _ (Same.refl _)⟩) (fun H3 s3 hd3 => ?_)
            · exact ⟨_, rfl, _, rfl, p, xs, rfl, .inr (KW.Same.sqT s3 (KW.Same.sqT s2 (KW.Same.sqT s1 ht))), okV.flat (List.all_eq_true.mp (harms_ok db) x hx), okV.all hf, _, rfl, hR _ (Same.refl _)⟩
            · rw [sel_id] at hd3
              refine ⟨D2, _, rfl, .inl ⟨SqL.of hd3, fun l hl => ?_⟩⟩
              have hok : ((harmsFor db).filter fun x => inV x xs).all okV = true := List.all_eq_true.mpr fun x hx => List.all_eq_true.mp (harms_ok db) x (List.mem_filter.mp hx).1
              have hst2 : ((harmsFor db).filter fun x => inV x xs).all strV = true := List.all_eq_true.mpr fun x hx => List.all_eq_true.mp (harms_str db) x (List.mem_filter.mp hx).1
              have s4 := same_upd (o := HO.tup ((harmsFor db).filter fun x => inV x xs)) hl
              refine ⟨_, _, .tup (KW.Same.sqT s4 (KW.Same.sqT s3 (KW.Same.sqT s2 (KW.Same.sqT s1 ht)))) (dpAll_ok hf), .tup (SqT.of upd_same) (dpAll_ok hok), shaped_tup hf, shaped_tup hok, ?_⟩
              rw [eqv_tup hf hok, eqL_str hstr hst2]
              have e3 : areHarms (.tup xs) db = decide (xs = (harmsFor db).filter fun x => inV x xs) := by
                show (xs.all (fun x => oneOf x (harmsFor db)) && _) = _
                rw [e2, Bool.true_and]
              rw [← e3]
              exact k _ (s1.trans (s2.trans (s3.trans s4)))
end
end KW

set_option Elab.async false
set_option linter.all false
set_option maxRecDepth 100000
set_option maxHeartbeats 2000000
namespace OwnOp
open PySem PySem.Spec PyProof.Rows L2
/-- len(range(..)) -/
def tLenRg (te : L2.St → Hp → (Int → Int → Hp → Prop) → Prop) : TE := fun σ H Q => te σ H fun a b H1 => RgOk a b ∧ Q (.int ((b - a).toNat : Nat)) H1
theorem pe_lenRg {X : Cx} {e : Expr} {te : L2.St → Hp → (Int → Int → Hp → Prop) → Prop} {p pos : Pos} (hg : Gl X "len") (hm : X.mg "len" = none) (he : PRg X e te) (na : starEach [e] X.env = (false, eval e X.env) :: starEach [] X.env := by rfl) : PE X (.Call (.Name "len" p) [e] [] pos) (tLenRg te) := by
  refine ⟨fun pins s σ H Q I h => ?_⟩
  refine Call_ (ld_blt I hg hm PySem.boot_len (PyProof.Rows.callWith_builtin1 (args_cons (thn (he pins s σ H _ I h) fun x s1 ⟨r, a, b, t, u, v, H1, ex, hr, I1, ok, q⟩ => args_nil ?_) na) na))
  subst ex
  obtain ⟨b1, b2, b3, b4, b5⟩ := ok
  exact call_len_range hr (rangeSize_nat a b) (by omega) ⟨.int _, H1, I1.tok _, ⟨_, rfl⟩, q⟩
end OwnOp
namespace KW
open PySem PySem.Spec PyProof.Rows L2 LamX OwnOp
def areSums (d : Dat) : Bool := match d with
  | .tup xs => decide (1 ≤ xs.length ∧ xs.length ≤ 2) && xs.all (fun x => oneOf x allK)
  | _ => false
def rgI (n : Nat) : List Int := (List.range n).map fun (i : Nat) => (i : Int)
/-- an int's number -/
def unI : V → Int
  | .int i => i
  | _ => 0
def isOrder (d : Dat) : Bool := match d with
  | .tup xs => decide (1 ≤ xs.length ∧ xs.length ≤ 3) && (xs.all intV && decide ((xs.map unI).Perm (rgI xs.length)))
  | _ => false
theorem map_unI : ∀ {xs : List V}, xs.all intV = true → (xs.map unI).map V.int = xs
  | [], _ => rfl
  | x :: xs, h => by
    rw [List.all_cons, Bool.and_eq_true] at h
    cases x with
    | int i =>
      show V.int i :: (xs.map unI).map V.int = _
      rw [map_unI h.2]
    | _ => cases h.1
theorem rgV_eq (n : Nat) : rgV 0 (n : Int) = (rgI n).map V.int := by
  unfold rgV rgI
  rw [List.map_map, show ((n : Int) - 0).toNat = n by omega]
  refine List.map_congr_left fun i _ => ?_
  show V.int (0 + (i : Int)) = V.int (i : Int)
  rw [Int.zero_add]
theorem rgI_sorted (n : Nat) : (rgI n).Pairwise (· ≤ ·) := by
  unfold rgI
  rw [List.pairwise_map]
  exact (List.pairwise_lt_range (n := n)).imp fun h => by omega
theorem intV_map (ns : List Int) : (ns.map V.int).all intV = true := List.all_eq_true.mpr fun x hx => by
  obtain ⟨i, _, rfl⟩ := List.mem_map.mp hx
  rfl
theorem okV_map (ns : List Int) : (ns.map V.int).all okV = true := List.all_eq_true.mpr fun x hx => by
  obtain ⟨i, _, rfl⟩ := List.mem_map.mp hx
  rfl
theorem map_int_inj {a b : List Int} (h : a.map V.int = b.map V.int) : a = b := (List.map_inj_right fun _ _ z => V.int.inj z).mp h
/-- what sorting tells -/
theorem sorted_is {ns' ns : List Int} {n : Nat} (hp : ns'.Perm ns) (hs : ns'.Pairwise (· ≤ ·)) : decide (ns'.map V.int = rgV 0 (n : Int)) = decide (ns.Perm (rgI n)) := by
  rw [rgV_eq]
  refine decide_eq_decide.mpr ⟨fun z => ?_, fun z => ?_⟩
  · rw [map_int_inj z] at hp
    exact hp.symm
  · rw [PySem.W.ksm_same (hp.trans z) hs (rgI_sorted n)]
def spD (K : PySem.W.Frag) (g : Dat → Bool) : Sp := fun vs H Q _ => ∃ v d, vs = [v] ∧ Is K H v d ∧ short d ∧ ∀ H', Same H H' → Q (.bl (g d)) H'
theorem strOkK : allK.all okV = true := by decide +kernel
section
variable {P : Program} {w : World} {K : PySem.W.Frag} {mg : Str → Option Value} {base : Heap} {f : Addr} {fd : FuncData}
theorem scAreSums : FnScope ["value", "kind"] ["value"] (defScope sAreSums) := ⟨rfl, rfl, rfl, by decide +kernel, rfl, by decide +kernel, by decide +kernel⟩
theorem ok_areSums (F : Fun K "are_sums" "are_sums" sAreSums f fd) (Oo : DefAt K mg "is_one_of" "is_one_of" sOneOf) (B : Blt mg) (TK : TupAt K mg "KINDS" allK) (NB : NumAt mg "MOST_BLOCKS" 2) : FnOk P w K mg base CX0 2 f fd ["value"] (spD K areSums) := by
  refine F.ok scAreSums (fun vs H Q E h => ?_) (fun cdv A outer s H vs Q E hr h => ?_)
  · obtain ⟨v, d, rfl, _⟩ := h
    rfl
  · obtain ⟨v, d, rfl, hv, hsh, k⟩ := h
    have bO := Oo.F.binds (ps := ["value", "words"]) fun _ _ _ _ _ _ us hl => match us, hl with | [_, _], _ => rfl
    refine ⟨_, pss_cons (ps_if (PW.pt (pw_or (pt_not (pt_val (pe_callB call_isi (by rfl) B.isi PyProof.Rows.boot_isinstance (pa_cons (pv 0) (pa_cons (pe_bltn (v := .ty "tuple") (by rfl) B.tuple PyProof.Rows.boot_tuple rfl) pa_nil)))))
        (pw_or1 (pt_not (pt_chain op_le op_le pe_int (pe_callB call_len_seq (by rfl) B.len PySem.boot_len (pa_cons (pv 0) pa_nil)) (NB.pe rfl))))))
        (pss_one (ps_ret pe_bl)) pss_nil)
      (pss_one (ps_ret (pe_callB (cr_all rfl) (by rfl) B.all PyProof.Rows.boot_all (pa_cons (pe_lc (own := [("kind", 1)]) (g := gName 1) (by rfl) scAreSums.nd (pi_tup (pv 0))
          (blkOk_by (own := [("kind", 1)]) (N := ["value", "kind"]) (sc := defScope sAreSums) (by decide +kernel)) (fun _ _ _ _ _ => pg_name (i := 1) scAreSums.nd rfl (Or.inl rfl)) (fun _ _ _ _ _ => pts_nil)
          (fun _ _ _ _ _ => pe_call (ok_oneOf Oo.F B) hr rfl Oo.g Oo.F.kp bO .nil pass0 (pa_cons (pv 1) (pa_cons (pe_glob (v := .ref TK.a) (by rfl) TK.g rfl) pa_nil)))) pa_nil)))), ?_⟩
    refine ⟨_, rfl, v, _, _, _, _, rfl, .ty "tuple", hv.ty, hv.kTup, _, rfl, ?_⟩
    cases e : isTup d with
    | false =>
      refine iteT ?_
      refine iteT ?_
      have e2 : areSums d = false := by cases d <;> first | rfl | cases e
      rw [← e2]
      exact k _ (Same.refl _)
    | true =>
      refine iteF ?_
      cases hv with
      | fl => cases e
      | lst => cases e
      | tup ht hf =>
        rename_i p xs
        have no : ¬ (1 ≤ xs.length ∧ xs.length ≤ 2) → areSums (.tup xs) = false := fun z => by
          show (decide _ && _) = false
          rw [decide_eq_false z, Bool.false_and]
        refine ⟨_, rfl, p, xs, rfl, .inr ht, _, _, rfl, rfl, _, rfl, ?_⟩
        refine ite2 (fun c1 => ?_) (fun c1 => ?_)
        · have c1' : (1 : Int) ≤ (xs.length : Int) := of_decide_eq_true c1
          refine ⟨_, _, rfl, rfl, _, rfl, ?_⟩
          by_cases c2 : (xs.length : Int) ≤ 2
          · refine iteBF (by rw [decide_eq_true c2]; rfl) ?_
            refine ⟨_, rfl, p, rfl, ⟨_, ht⟩, fun D hD => ?_⟩
            refine lc_selT (c := fun _ => true) (gf := mapB fun x => oneOf x allK) ht hD hsh (fun x => rfl) (fun x hx H2 s2 R hR => hR _ (Same.refl _)) (fun x hx hc H2 s2 R hR => ?_) (fun H2 s2 hd2 => ?_)
            · exact ⟨_, rfl, x, .fl x, TK.a, _, rfl, .fl (List.all_eq_true.mp hf x hx), TK.at_ _, okV.all strOkK, hR _ (Same.refl _)⟩
            · rw [sel_all] at hd2
              refine ⟨D, _, rfl, SqL.of hd2, ?_⟩
              have e2 : areSums (.tup xs) = ((xs.map fun x => oneOf x allK).all id) := by
                show (decide _ && _) = _
                rw [decide_eq_true (by omega), Bool.true_and, List.all_map]
                rfl
              rw [← e2]
              exact k _ s2
          · refine iteB (by rw [decide_eq_false c2]; rfl) ?_
            rw [← no (by omega)]
            exact k _ (Same.refl _)
        · have c1' : ¬ (1 : Int) ≤ (xs.length : Int) := fun z => c1 (decide_eq_true z)
          refine ⟨_, rfl, ?_⟩
          refine iteT ?_
          rw [← no (by omega)]
          exact k _ (Same.refl _)
theorem scIsOrder : FnScope ["value", "shelf"] ["value"] (defScope sIsOrder) := ⟨rfl, rfl, rfl, by decide +kernel, rfl, by decide +kernel, by decide +kernel⟩
theorem ok_isOrder (F : Fun K "is_order" "is_order" sIsOrder f fd) (I : DefAt K mg "is_integer" "is_integer" sIsInt) (B : Blt mg) (NS : NumAt mg "MOST_SHELVES" 3) : FnOk P w K mg base CX0 2 f fd ["value"] (spD K isOrder) := by
  refine F.ok scIsOrder (fun vs H Q E h => ?_) (fun cdv A outer s H vs Q E hr h => ?_)
  · obtain ⟨v, d, rfl, _⟩ := h
    rfl
  · obtain ⟨v, d, rfl, hv, hsh, k⟩ := h
    have b := I.F.binds (ps := ["value"]) fun _ _ _ _ _ _ us hl => match us, hl with | [_], _ => rfl
    refine ⟨_, pss_cons (ps_if (PW.pt (pw_or (pt_not (pt_val (pe_callB call_isi (by rfl) B.isi PyProof.Rows.boot_isinstance (pa_cons (pv 0) (pa_cons (pe_bltn (v := .ty "tuple") (by rfl) B.tuple PyProof.Rows.boot_tuple rfl) pa_nil)))))
        (pw_or1 (pt_not (pt_chain op_le op_le pe_int (pe_callB call_len_seq (by rfl) B.len PySem.boot_len (pa_cons (pv 0) pa_nil)) (NS.pe rfl))))))
        (pss_one (ps_ret pe_bl)) pss_nil)
      (pss_one (ps_ret (pe_and (pe_callB (cr_all rfl) (by rfl) B.all PyProof.Rows.boot_all (pa_cons (pe_lc (own := [("shelf", 1)]) (g := gName 1) (by rfl) scIsOrder.nd (pi_tup (pv 0))
          (blkOk_by (own := [("shelf", 1)]) (N := ["value", "shelf"]) (sc := defScope sIsOrder) (by decide +kernel)) (fun _ _ _ _ _ => pg_name (i := 1) scIsOrder.nd rfl (Or.inl rfl)) (fun _ _ _ _ _ => pts_nil)
          (fun _ _ _ _ _ => pe_call (ok_isInt I.F B) hr rfl I.g I.F.kp b .nil pass0 (pa_cons (pv 1) pa_nil))) pa_nil))
        (pe_one (pe_cmpR (op_eqD hr.units) (pe_callB cr_sortedTI (by rfl) B.sorted (by decide +kernel) (pa_cons (pv 0) pa_nil)) (pe_listRg rfl (by rfl) B.list (prg_1 (by rfl) B.range (pe_callB call_len_seq (by rfl) B.len PySem.boot_len (pa_cons (pv 0) pa_nil)))) (nomark _)))))), ?_⟩
    refine ⟨_, rfl, v, _, _, _, _, rfl, .ty "tuple", hv.ty, hv.kTup, _, rfl, ?_⟩
    cases e : isTup d with
    | false =>
      refine iteT ?_
      refine iteT ?_
      have e2 : isOrder d = false := by cases d <;> first | rfl | cases e
      rw [← e2]
      exact k _ (Same.refl _)
    | true =>
      refine iteF ?_
      cases hv with
      | fl => cases e
      | lst => cases e
      | tup ht hf =>
        rename_i p xs
        have no : ¬ (1 ≤ xs.length ∧ xs.length ≤ 3) → isOrder (.tup xs) = false := fun z => by
          show (decide _ && _) = false
          rw [decide_eq_false z, Bool.false_and]
        refine ⟨_, rfl, p, xs, rfl, .inr ht, _, _, rfl, rfl, _, rfl, ?_⟩
        refine ite2 (fun c1 => ?_) (fun c1 => ?_)
        · have c1' : (1 : Int) ≤ (xs.length : Int) := of_decide_eq_true c1
          refine ⟨_, _, rfl, rfl, _, rfl, ?_⟩
          by_cases c2 : (xs.length : Int) ≤ 3
          · refine iteBF (by rw [decide_eq_true c2]; rfl) ?_
            refine ⟨_, rfl, p, rfl, ⟨_, ht⟩, fun D hD => ?_⟩
            refine lc_selT (c := fun _ => true) (gf := mapB intV) ht hD hsh (fun x => rfl) (fun x hx H2 s2 R hR => hR _ (Same.refl _)) (fun x hx hc H2 s2 R hR => ?_) (fun H2 s2 hd2 => ?_)
            · refine ⟨_, rfl, x, .fl x, rfl, .fl (List.all_eq_true.mp hf x hx), ?_⟩
              have e5 : isInt (.fl x) = intV x := by cases x <;> rfl
              rw [e5]
              exact hR _ (Same.refl _)
            · rw [sel_all] at hd2
              refine ⟨D, _, rfl, SqL.of hd2, _, rfl, ?_⟩
              have eA : ((xs.map intV).all id) = xs.all intV := by
                rw [List.all_map]
                rfl
              have e2 : isOrder (.tup xs) = (xs.all intV && decide ((xs.map unI).Perm (rgI xs.length))) := by
                show (decide _ && _) = _
                rw [decide_eq_true (by omega), Bool.true_and]
              cases e3 : xs.all intV with
              | false =>
                refine iteBF (by rw [eA, e3]) ?_
                rw [e3, Bool.false_and] at e2
                rw [← e2]
                exact k _ s2
              | true =>
                refine iteB (by rw [eA, e3]) ?_
                rw [e3, Bool.true_and] at e2
                have ht2 : SqT K H2 p ((xs.map unI).map V.int) := by
                  rw [map_unI e3]
                  exact KW.Same.sqT s2 ht
                refine ⟨_, rfl, p, xs.map unI, rfl, ht2, by rw [List.length_map]; omega, fun ns' q hp hs hq => ?_⟩
                have s3 := same_upd (o := HO.lst (ns'.map V.int)) hq
                refine ⟨_, rfl, p, xs, rfl, .inr (KW.Same.sqT s3 (KW.Same.sqT s2 ht)), _, rfl, .of_le (by omega) (by omega) (by omega) (by omega), fun q2 hq2 => ?_⟩
                have s4 := same_upd (o := HO.lst (rgV 0 (xs.length : Int))) hq2
                have ok2 : (rgV 0 (xs.length : Int)).all okV = true := by
                  rw [rgV_eq]
                  exact okV_map _
                have in2 : (rgV 0 (xs.length : Int)).all intV = true := by
                  rw [rgV_eq]
                  exact intV_map _
                refine ⟨_, _, .lst (SqL.of (s4 _ _ upd_same)) (dpAll_ok (okV_map ns')), .lst (SqL.of upd_same) (dpAll_ok ok2), shaped_lst (okV_map ns'), shaped_lst ok2, ?_⟩
                rw [eqv_lst (okV_map ns') ok2, eqL_int (intV_map ns') in2, sorted_is hp hs, ← e2]
                exact k _ (s2.trans (s3.trans s4))
          · refine iteB (by rw [decide_eq_false c2]; rfl) ?_
            rw [← no (by omega)]
            exact k _ (Same.refl _)
        · have c1' : ¬ (1 : Int) ≤ (xs.length : Int) := fun z => c1 (decide_eq_true z)
          refine ⟨_, rfl, ?_⟩
          refine iteT ?_
          rw [← no (by omega)]
          exact k _ (Same.refl _)
end
end KW

set_option Elab.async false
set_option linter.all false
set_option maxRecDepth 100000
set_option maxHeartbeats 2000000
namespace KW
open PySem PySem.Spec PyProof.Rows L2 LamX OwnOp
/-! ## the errors with a part -/
/-- an error class of the text whose __init__ stores its part -/
structure ExAt (K : PySem.W.Frag) (mg : Str → Option Value) (x qual : Str) (st : Stmt) where
  C : Addr
  fI : Addr
  fd : FuncData
  g : mg x = some (.ref C)
  F : Fun K "__init__" qual st fI fd
  T : OexC K C
  iC : PySem.W.findIn K (.ref C) "__init__" = some (some (.ref fI))
  tI : PySem.W.typeIn K (.ref fI) = some (.type "function")
  np : PySem.W.findIn K (.ref C) "part" = some none
  xc : ExcC K C
def spEx (K : PySem.W.Frag) (C : Addr) : Sp := fun vs H Q _ => ∃ a y, vs = [.ref a, y] ∧ H a = some (exo a C none) ∧ ∀ dx, H dx = none → dx ≠ a → Q .non (upd (upd H dx (exd dx [("part", y)])) a (exo a C (some dx)))
theorem same_del {H : Hp} {a d : Addr} {o1 o2 o3 : HO} {u : HO} (ha : H a = none) (hd : H d = none) : Same H (upd (del (upd (upd (upd H a o1) d o2) a o3) a) d u) := fun b o e => by
  have n1 : b ≠ a := ne_of_none e ha
  have n2 : b ≠ d := ne_of_none e hd
  rw [upd_ne n2, del_ne n1, upd_ne n1, upd_ne n2, upd_ne n1]
  exact e
/-- X('W') made: its dict is new and holds the part -/
theorem ex_made {K : PySem.W.Frag} {C : Addr} {y : V} {σ : L2.St} {H : Hp} {E : XK} (h : ∀ d H', Same H H' → H' d = some (.xd [("part", y)]) → E (.ref C) (some d) H') : tMkO C (spEx K C) [] (tCons (tC y) tNil) σ H E := by
  refine ⟨by show 1 ≤ 1000; decide, fun a ha => ⟨a, y, rfl, upd_same, fun dx hdx hne => ⟨rfl, dx, [("part", y)], upd_same, ?_, ?_, ?_⟩⟩⟩
  · rw [upd_ne hne, upd_same]
  · rw [upd_ne hne] at hdx
    exact hdx
  · have hd0 : H dx = none := by
      rw [upd_ne hne] at hdx
      exact hdx
    exact h dx _ (same_del ha hd0) upd_same
section
variable {P : Program} {w : World} {K : PySem.W.Frag} {mg : Str → Option Value} {base : Heap} {f : Addr} {fd : FuncData}
theorem scBkInit : FnScope ["self", "part"] ["self", "part"] (defScope sBkInit) := ⟨rfl, rfl, rfl, by decide +kernel, rfl, by decide +kernel, by decide +kernel⟩
theorem scBpInit : FnScope ["self", "part"] ["self", "part"] (defScope sBpInit) := ⟨rfl, rfl, rfl, by decide +kernel, rfl, by decide +kernel, by decide +kernel⟩
theorem ok_bk (Ex : ExAt K mg "BadKeep" "BadKeep.__init__" sBkInit) : FnOk P w K mg base CX0 1 Ex.fI Ex.fd ["self", "part"] (spEx K Ex.C) := by
  refine Ex.F.ok scBkInit (fun vs H Q E h => ?_) (fun cdv A outer s H vs Q E hr h => ?_)
  · obtain ⟨a, y, rfl, _⟩ := h
    rfl
  · obtain ⟨a, y, rfl, ha, k⟩ := h
    refine ⟨_, pss_one (ps_ost (pv 0) (pv 1)), ?_⟩
    exact ⟨_, rfl, _, rfl, a, Ex.C, rfl, Ex.T, Ex.np, .inl ⟨ha, fun dx hdx hne => k dx hdx hne⟩⟩
theorem ok_bp (Ex : ExAt K mg "BadPlan" "BadPlan.__init__" sBpInit) : FnOk P w K mg base CX0 1 Ex.fI Ex.fd ["self", "part"] (spEx K Ex.C) := by
  refine Ex.F.ok scBpInit (fun vs H Q E h => ?_) (fun cdv A outer s H vs Q E hr h => ?_)
  · obtain ⟨a, y, rfl, _⟩ := h
    rfl
  · obtain ⟨a, y, rfl, ha, k⟩ := h
    refine ⟨_, pss_one (ps_ost (pv 0) (pv 1)), ?_⟩
    exact ⟨_, rfl, _, rfl, a, Ex.C, rfl, Ex.T, Ex.np, .inl ⟨ha, fun dx hdx hne => k dx hdx hne⟩⟩
/-! ## Keep.__init__ -/
def keepBad (ds db dh dm : Dat) : Option Str := if betw ds 1 3 = false then some "SHELVES" else if betw db 1 2 = false then some "BLOCKS" else if areHarms dh db = false then some "HARMS" else if betw dm 0 2 = false then some "MOST" else none
def kfs (s b h m : V) : List (Str × V) := [("shelves", s), ("blocks", b), ("harms", h), ("most", m)]
theorem ks1 : ¬ (("shelves" : Str) = "blocks") := by decide +kernel
theorem ks2 : ¬ (("shelves" : Str) = "harms") := by decide +kernel
theorem ks3 : ¬ (("shelves" : Str) = "most") := by decide +kernel
theorem ks4 : ¬ (("blocks" : Str) = "harms") := by decide +kernel
theorem ks5 : ¬ (("blocks" : Str) = "most") := by decide +kernel
theorem ks6 : ¬ (("harms" : Str) = "most") := by decide +kernel
theorem putF_len (g : Str) (v : V) : ∀ fs : List (Str × V), (putF g v fs).length ≤ fs.length + 1
  | [] => Nat.le_refl _
  | (x, y) :: r => by
    unfold putF
    split
    · exact Nat.le_succ _
    · exact Nat.succ_le_succ (putF_len g v r)
theorem putF_lt {g : Str} {v : V} {fs : List (Str × V)} {n : Nat} (h : fs.length < n) (hn : n < 900) : (putF g v fs).length < n + 1 := Nat.lt_of_le_of_lt (putF_len g v fs) (Nat.succ_lt_succ h)
theorem lt1 {a1 : Str} {v1 : V} : (putF a1 v1 []).length < 1000 := Nat.lt_of_le_of_lt (putF_len _ _ _) (by decide)
theorem lt2 {a1 a2 : Str} {v1 v2 : V} : (putF a2 v2 (putF a1 v1 [])).length < 1000 := Nat.lt_of_le_of_lt (putF_len _ _ _) (Nat.lt_of_le_of_lt (Nat.succ_le_succ (putF_len _ _ _)) (by decide))
theorem lt3 {a1 a2 a3 : Str} {v1 v2 v3 : V} : (putF a3 v3 (putF a2 v2 (putF a1 v1 []))).length < 1000 := Nat.lt_of_le_of_lt (putF_len _ _ _) (Nat.lt_of_le_of_lt (Nat.succ_le_succ (Nat.le_trans (putF_len _ _ _) (Nat.succ_le_succ (putF_len _ _ _)))) (by decide))
theorem lt4 {a1 a2 a3 a4 : Str} {v1 v2 v3 v4 : V} : (putF a4 v4 (putF a3 v3 (putF a2 v2 (putF a1 v1 [])))).length < 1000 := Nat.lt_of_le_of_lt (putF_len _ _ _) (Nat.lt_of_le_of_lt (Nat.succ_le_succ (Nat.le_trans (putF_len _ _ _) (Nat.succ_le_succ (Nat.le_trans (putF_len _ _ _) (Nat.succ_le_succ (putF_len _ _ _)))))) (by decide))
theorem kfs_put (s b h m : V) : putF "most" m (putF "harms" h (putF "blocks" b (putF "shelves" s []))) = kfs s b h m := by
  unfold kfs
  simp only [putF, ks1, ks2, ks3, ks4, ks5, ks6, if_false]
structure KCls (K : PySem.W.Frag) (mg : Str → Option Value) where
  C : Addr
  g : mg "Keep" = some (.ref C)
  cl : Cls K C
  n1 : NoAttr K C "shelves"
  n2 : NoAttr K C "blocks"
  n3 : NoAttr K C "harms"
  n4 : NoAttr K C "most"
def spKInit (K : PySem.W.Frag) (C CB : Addr) : Sp := fun vs H Q E => ∃ p dx s b h m ds db dh dm, vs = [.ref p, s, b, h, m] ∧ H p = some (.ins C dx []) ∧ Is K H s ds ∧ Is K H b db ∧ Is K H h dh ∧ Is K H m dm ∧ short dh ∧
  (∀ wd, keepBad ds db dh dm = some wd → ∀ d H', Same H H' → H' d = some (.xd [("part", .str wd)]) → E (.ref CB) (some d) H') ∧
  (keepBad ds db dh dm = none → ∀ H', (∀ c o, H c = some o → c ≠ p → H' c = some o) → H' p = some (.ins C dx (kfs s b h m)) → Q .non H')
/-- the defs that look at parts -/
structure Parts (K : PySem.W.Frag) (mg : Str → Option Value) where
  I : DefAt K mg "is_integer" "is_integer" sIsInt
  Bt : DefAt K mg "is_between" "is_between" sBetween
  Oo : DefAt K mg "is_one_of" "is_one_of" sOneOf
  Ps : DefAt K mg "possible_harms" "possible_harms" sPossible
  Ah : DefAt K mg "are_harms" "are_harms" sAreHarms
  As : DefAt K mg "are_sums" "are_sums" sAreSums
  Io : DefAt K mg "is_order" "is_order" sIsOrder
  TH : TupAt K mg "HARMS" allH
  TK : TupAt K mg "KINDS" allK
  TC : TupAt K mg "CHOICES" allC
  TP : TupAt K mg "PARTS" allP
  NB : NumAt mg "MOST_BLOCKS" 2
  NS : NumAt mg "MOST_SHELVES" 3
  B : Blt mg
  BK : ExAt K mg "BadKeep" "BadKeep.__init__" sBkInit
  BP : ExAt K mg "BadPlan" "BadPlan.__init__" sBpInit
theorem Parts.bBt (T : Parts K mg) : Binds K T.Bt.fd ["value", "least", "greatest"] [] := T.Bt.F.binds (ps := ["value", "least", "greatest"]) fun _ _ _ _ _ _ us hl => match us, hl with | [_, _, _], _ => rfl
theorem Parts.bOo (T : Parts K mg) : Binds K T.Oo.fd ["value", "words"] [] := T.Oo.F.binds (ps := ["value", "words"]) fun _ _ _ _ _ _ us hl => match us, hl with | [_, _], _ => rfl
theorem Parts.bPs (T : Parts K mg) : Binds K T.Ps.fd ["blocks"] [] := T.Ps.F.binds (ps := ["blocks"]) fun _ _ _ _ _ _ us hl => match us, hl with | [_], _ => rfl
theorem Parts.bAh (T : Parts K mg) : Binds K T.Ah.fd ["value", "blocks"] [] := T.Ah.F.binds (ps := ["value", "blocks"]) fun _ _ _ _ _ _ us hl => match us, hl with | [_, _], _ => rfl
theorem Parts.bAs (T : Parts K mg) : Binds K T.As.fd ["value"] [] := T.As.F.binds (ps := ["value"]) fun _ _ _ _ _ _ us hl => match us, hl with | [_], _ => rfl
theorem Parts.bIo (T : Parts K mg) : Binds K T.Io.fd ["value"] [] := T.Io.F.binds (ps := ["value"]) fun _ _ _ _ _ _ us hl => match us, hl with | [_], _ => rfl
theorem Parts.bBK (T : Parts K mg) : Binds K T.BK.fd ["self", "part"] [] := T.BK.F.binds (ps := ["self", "part"]) fun _ _ _ _ _ _ us hl => match us, hl with | [_, _], _ => rfl
theorem Parts.bBP (T : Parts K mg) : Binds K T.BP.fd ["self", "part"] [] := T.BP.F.binds (ps := ["self", "part"]) fun _ _ _ _ _ _ us hl => match us, hl with | [_, _], _ => rfl
theorem Parts.okBt (T : Parts K mg) : FnOk P w K mg base CX0 2 T.Bt.f T.Bt.fd ["value", "least", "greatest"] (spBetween K) := ok_between T.Bt.F T.I T.B
theorem Parts.okOo (T : Parts K mg) : FnOk P w K mg base CX0 1 T.Oo.f T.Oo.fd ["value", "words"] (spOneOf K) := ok_oneOf T.Oo.F T.B
theorem Parts.okPs (T : Parts K mg) : FnOk P w K mg base CX0 3 T.Ps.f T.Ps.fd ["blocks"] (spPossible K) := ok_possible T.Ps.F T.Bt T.I T.B T.TH T.NB
theorem Parts.okAh (T : Parts K mg) : FnOk P w K mg base CX0 4 T.Ah.f T.Ah.fd ["value", "blocks"] (spAreHarms K) := ok_areHarms T.Ah.F T.Ps T.Oo T.Bt T.I T.B T.TH T.NB
theorem Parts.okAs (T : Parts K mg) : FnOk P w K mg base CX0 2 T.As.f T.As.fd ["value"] (spD K areSums) := ok_areSums T.As.F T.Oo T.B T.TK T.NB
theorem Parts.okIo (T : Parts K mg) : FnOk P w K mg base CX0 2 T.Io.f T.Io.fd ["value"] (spD K isOrder) := ok_isOrder T.Io.F T.I T.B T.NS
theorem scKInit : FnScope ["self", "shelves", "blocks", "harms", "most"] ["self", "shelves", "blocks", "harms", "most"] (defScope sKInit) := ⟨rfl, rfl, rfl, by decide +kernel, rfl, by decide +kernel, by decide +kernel⟩
theorem ok_kInit {dvs : List V} {kws : List (Str × V)} (F : FunD K "__init__" "Keep.__init__" (defArgs sKInit) (defBody sKInit) (defScope sKInit) dvs kws f fd) (T : Parts K mg) (KC : KCls K mg) :
    FnOk P w K mg base (L2.CX P w) 5 f fd ["self", "shelves", "blocks", "harms", "most"] (spKInit K KC.C T.BK.C) := by
  refine F.ok scKInit (fun vs H Q E h => ?_) (fun cdv A outer s H vs Q E hr h => ?_)
  · obtain ⟨p, dx, s, b, h, m, ds, db, dh, dm, rfl, _⟩ := h
    rfl
  · obtain ⟨p, dx, vs1, vb, vh, vm, ds, db, dh, dm, rfl, hp, hs, hb, hh, hm, hsh, kE, kQ⟩ := h
    have hr2 : Room 2 _ := hr.mono (by decide)
    refine ⟨_, pss_cons (ps_if (pt_not (pt_val (pe_call T.okBt hr2 rfl T.Bt.g T.Bt.F.kp T.bBt .nil pass0 (pa_cons (pv 1) (pa_cons pe_int (pa_cons (T.NS.pe rfl) pa_nil)))))) (pss_one (ps_raise rfl (takes_of rfl rfl rfl rfl) (pmk_oex T.BK.T T.BK.iC T.BK.tI (ok_bk T.BK) hr2 T.bBK .nil pass0 rfl T.BK.g (pa_cons pe_str pa_nil)))) pss_nil)
      (pss_cons (ps_if (pt_not (pt_val (pe_call T.okBt hr2 rfl T.Bt.g T.Bt.F.kp T.bBt .nil pass0 (pa_cons (pv 2) (pa_cons pe_int (pa_cons (T.NB.pe rfl) pa_nil)))))) (pss_one (ps_raise rfl (takes_of rfl rfl rfl rfl) (pmk_oex T.BK.T T.BK.iC T.BK.tI (ok_bk T.BK) hr2 T.bBK .nil pass0 rfl T.BK.g (pa_cons pe_str pa_nil)))) pss_nil)
      (pss_cons (ps_if (pt_not (pt_val (pe_call T.okAh hr rfl T.Ah.g T.Ah.F.kp T.bAh .nil pass0 (pa_cons (pv 3) (pa_cons (pv 2) pa_nil))))) (pss_one (ps_raise rfl (takes_of rfl rfl rfl rfl) (pmk_oex T.BK.T T.BK.iC T.BK.tI (ok_bk T.BK) hr2 T.bBK .nil pass0 rfl T.BK.g (pa_cons pe_str pa_nil)))) pss_nil)
      (pss_cons (ps_if (pt_not (pt_val (pe_call T.okBt hr2 rfl T.Bt.g T.Bt.F.kp T.bBt .nil pass0 (pa_cons (pv 4) (pa_cons pe_int (pa_cons pe_int pa_nil)))))) (pss_one (ps_raise rfl (takes_of rfl rfl rfl rfl) (pmk_oex T.BK.T T.BK.iC T.BK.tI (ok_bk T.BK) hr2 T.bBK .nil pass0 rfl T.BK.g (pa_cons pe_str pa_nil)))) pss_nil)
      (pss_cons (ps_fld (pv 0) (pv 1) rfl) (pss_cons (ps_fld (pv 0) (pv 2) rfl) (pss_cons (ps_fld (pv 0) (pv 3) rfl) (pss_one (ps_fld (pv 0) (pv 4) rfl)))))))), ?_⟩
    refine ⟨_, rfl, vs1, ds, 1, 3, rfl, hs, _, rfl, ?_⟩
    cases e1 : betw ds 1 3 with
    | false =>
      refine iteT ?_
      exact ex_made fun d H' s1 hd => kE "SHELVES" (by unfold keepBad; rw [if_pos e1]) d H' s1 hd
    | true =>
      refine iteF ?_
      refine ⟨_, rfl, vb, db, 1, 2, rfl, hb, _, rfl, ?_⟩
      cases e2 : betw db 1 2 with
      | false =>
        refine iteT ?_
        exact ex_made fun d H' s1 hd => kE "BLOCKS" (by unfold keepBad; rw [if_neg (by rw [e1]; decide), if_pos e2]) d H' s1 hd
      | true =>
        refine iteF ?_
        refine ⟨_, rfl, _, rfl, vh, dh, vb, db, rfl, hh, hb, hsh, fun H1 s1 => ⟨_, rfl, ?_⟩⟩
        cases e3 : areHarms dh db with
        | false =>
          refine iteT ?_
          exact ex_made fun d H' s2 hd => kE "HARMS" (by unfold keepBad; rw [if_neg (by rw [e1]; decide), if_neg (by rw [e2]; decide), if_pos e3]) d H' (s1.trans s2) hd
        | true =>
          refine iteF ?_
          refine ⟨_, rfl, vm, dm, 0, 2, rfl, KW.Same.is s1 hm, _, rfl, ?_⟩
          cases e4 : betw dm 0 2 with
          | false =>
            refine iteT ?_
            exact ex_made fun d H' s2 hd => kE "MOST" (by unfold keepBad; rw [if_neg (by rw [e1]; decide), if_neg (by rw [e2]; decide), if_neg (by rw [e3]; decide), if_pos e4]) d H' (s1.trans s2) hd
          | true =>
            refine iteF ?_
            have hp1 := s1 _ _ hp
            refine ⟨_, rfl, _, rfl, p, KC.C, dx, _, rfl, hp1, KC.cl, KC.n1, (by show 0 < 1000; decide), ?_⟩
            refine ⟨_, rfl, _, rfl, p, KC.C, dx, _, rfl, upd_same, KC.cl, KC.n2, lt1, ?_⟩
            refine ⟨_, rfl, _, rfl, p, KC.C, dx, _, rfl, upd_same, KC.cl, KC.n3, lt2, ?_⟩
            refine ⟨_, rfl, _, rfl, p, KC.C, dx, _, rfl, upd_same, KC.cl, KC.n4, lt3, ?_⟩
            refine kQ (by unfold keepBad; rw [if_neg (by rw [e1]; decide), if_neg (by rw [e2]; decide), if_neg (by rw [e3]; decide), if_neg (by rw [e4]; decide)]) _ (fun c o hc hne => ?_) ?_
            · rw [upd_ne hne, upd_ne hne, upd_ne hne, upd_ne hne]
              exact s1 _ _ hc
            · rw [upd_same, kfs_put]
end
end KW

set_option Elab.async false
set_option linter.all false
set_option maxRecDepth 100000
set_option maxHeartbeats 2000000
namespace KW
open PySem PySem.Spec PyProof.Rows L2 LamX OwnOp
/-! ## how Keep's arguments bind -/
section
variable {P : Program} {w : World} {K : PySem.W.Frag} {mg : Str → Option Value} {base : Heap} {f : Addr} {fd : FuncData} {aE : Addr}
abbrev FKI (K : PySem.W.Frag) (aE f : Addr) (fd : FuncData) : Prop := FunD K "__init__" "Keep.__init__" (defArgs sKInit) (defBody sKInit) (defScope sKInit) [.ref aE] [("most", .int 1)] f fd
abbrev psK : List Str := ["self", "shelves", "blocks", "harms", "most"]
/-- Keep(a, b): two parts by default -/
theorem kb2 (F : FKI K aE f fd) : ∃ ds, Vals [.ref aE, .int 1] ds ∧ Binds K fd psK ds :=
  F.binds 3 0 (by simp) rfl (fun T D doc pm an cdv ct us its ks h1 h2 h3 => match us, its, ks, h1, h2, h3 with
    | [_, _, _], [_], [_], _, _, _ => ⟨_, rfl, _, _, _, _, _, _, rfl, rfl, rfl⟩) (by simp)
/-- Keep(a, b, c) -/
theorem kb3 (F : FKI K aE f fd) : ∃ ds, Vals [.int 1] ds ∧ Binds K fd psK ds :=
  F.binds 4 1 (by simp) rfl (fun T D doc pm an cdv ct us its ks h1 h2 h3 => match us, its, ks, h1, h2, h3 with
    | [_, _, _, _], [_], [_], _, _, _ => ⟨_, rfl, _, _, _, _, _, _, rfl, rfl, rfl⟩) (by simp)
/-- Keep(a, b, c, most=d) -/
theorem kb4 (F : FKI K aE f fd) : ∃ its mv : List Value, KBn K fd psK 4 ["most"] (fun us ws => us ++ ws) (fun vs zs => vs ++ zs) :=
  F.kbinds 4 ["most"] [] (fun us _ _ ws => us ++ ws) (by simp) (by simp) (fun q hq => by cases hq) (fun r1 _ _ r4 => r1.append r4)
    (fun T D doc pm an cdv ct us its mv ws h1 h2 h3 h4 => match us, its, mv, ws, h1, h2, h3, h4 with
    | [_, _, _, _], [_], [], [_], _, _, _, _ => ⟨_, rfl, rfl⟩)
end
end KW

set_option Elab.async false
set_option linter.all false
set_option maxRecDepth 100000
set_option maxHeartbeats 2000000
namespace KW
open PySem PySem.Spec PyProof.Rows L2 LamX OwnOp
/-! ## keeps as objects -/
structure KD where
  s : Int
  b : Int
  hs : List V
  m : Int
  deriving DecidableEq
def KD.bad (d : KD) : Option Str := keepBad (.fl (.int d.s)) (.fl (.int d.b)) (.tup d.hs) (.fl (.int d.m))
/-- at p stands a keep with the parts d -/
structure KeepAt (K : PySem.W.Frag) (C : Addr) (H : Hp) (p : Addr) (d : KD) : Prop where
  ob : ∃ dx hr, H p = some (.ins C dx (kfs (.int d.s) (.int d.b) (.ref hr) (.int d.m))) ∧ SqT K H hr d.hs
  ok : d.bad = none
theorem Same.keep {K : PySem.W.Frag} {C : Addr} {H H' : Hp} {p : Addr} {d : KD} (s : Same H H') (h : KeepAt K C H p d) : KeepAt K C H' p d := by
  obtain ⟨dx, hr, h1, h2⟩ := h.ob
  exact ⟨⟨dx, hr, s _ _ h1, KW.Same.sqT s h2⟩, h.ok⟩
theorem KD.use {d : KD} (h : d.bad = none) : (1 ≤ d.s ∧ d.s ≤ 3) ∧ (1 ≤ d.b ∧ d.b ≤ 2) ∧ areHarms (.tup d.hs) (.fl (.int d.b)) = true ∧ (0 ≤ d.m ∧ d.m ≤ 2) := by
  unfold KD.bad keepBad at h
  split at h
  · cases h
  · rename_i e1
    split at h
    · cases h
    · rename_i e2
      split at h
      · cases h
      · rename_i e3
        split at h
        · cases h
        · rename_i e4
          refine ⟨?_, ?_, ?_, ?_⟩
          · exact of_decide_eq_true (eq_true_of_ne_false e1)
          · exact of_decide_eq_true (eq_true_of_ne_false e2)
          · exact eq_true_of_ne_false e3
          · exact of_decide_eq_true (eq_true_of_ne_false e4)
theorem harms_use {hs : List V} {db : Dat} (h : areHarms (.tup hs) db = true) : hs.all (fun x => oneOf x (harmsFor db)) = true ∧ hs = (harmsFor db).filter fun x => inV x hs := by
  have h' : (hs.all (fun x => oneOf x (harmsFor db)) && decide (hs = (harmsFor db).filter fun x => inV x hs)) = true := h
  rw [Bool.and_eq_true] at h'
  exact ⟨h'.1, of_decide_eq_true h'.2⟩
theorem harms_strs {hs : List V} {db : Dat} (h : areHarms (.tup hs) db = true) : hs.all strV = true := List.all_eq_true.mpr fun x hx => oneOf_str (List.all_eq_true.mp (harms_use h).1 x hx)
theorem harms_oks {hs : List V} {db : Dat} (h : areHarms (.tup hs) db = true) : hs.all okV = true := by
  rw [(harms_use h).2]
  exact List.all_eq_true.mpr fun x hx => List.all_eq_true.mp (harms_ok db) x (List.mem_filter.mp hx).1
theorem harms_le {hs : List V} {db : Dat} (h : areHarms (.tup hs) db = true) : hs.length ≤ 5 := by
  rw [(harms_use h).2]
  exact Nat.le_trans (List.length_filter_le _ _) (harms_len db)
/-- what isinstance asks of the class -/
structure KIsi (K : PySem.W.Frag) (C : Addr) : Prop where
  ha : PySem.W.findIn K (.ref C) "__class__" = some (some (.builtin "object.__class__"))
  hn : PySem.W.specialIn K (.builtin "object.__class__") "__get__" = some (some (.builtin "getset_descriptor.__get__"))
  ht : PySem.W.takesIn K (.builtin "object.__class__") = some true
  hm : PySem.W.mroIn K C (.type "object") = some true
  kit : PySem.W.kitOne K (.ref C) (.ref C) = some true
theorem kfs_s (s b h m : V) : (kfs s b h m).lookup ("shelves" : Str) = some s := by
  simp [kfs, List.lookup]
theorem kfs_b (s b h m : V) : (kfs s b h m).lookup ("blocks" : Str) = some b := by
  have e : (("blocks" : Str) == "shelves") = false := by decide +kernel
  simp [kfs, List.lookup, e]
theorem kfs_h (s b h m : V) : (kfs s b h m).lookup ("harms" : Str) = some h := by
  have e1 : (("harms" : Str) == "shelves") = false := by decide +kernel
  have e2 : (("harms" : Str) == "blocks") = false := by decide +kernel
  simp [kfs, List.lookup, e1, e2]
theorem kfs_m (s b h m : V) : (kfs s b h m).lookup ("most" : Str) = some m := by
  have e1 : (("most" : Str) == "shelves") = false := by decide +kernel
  have e2 : (("most" : Str) == "blocks") = false := by decide +kernel
  have e3 : (("most" : Str) == "harms") = false := by decide +kernel
  simp [kfs, List.lookup, e1, e2, e3]
def spKEq (K : PySem.W.Frag) (C : Addr) : Sp := fun vs H Q _ => ∃ a b d e, vs = [.ref a, .ref b] ∧ KeepAt K C H a d ∧ KeepAt K C H b e ∧ Q (.bl (decide (d = e))) H
def spKLen (K : PySem.W.Frag) (C : Addr) : Sp := fun vs H Q _ => ∃ a d, vs = [.ref a] ∧ KeepAt K C H a d ∧ Q (.int d.s) H
def spKIn (K : PySem.W.Frag) (C : Addr) : Sp := fun vs H Q _ => ∃ a d x dx, vs = [.ref a, x] ∧ KeepAt K C H a d ∧ Is K H x dx ∧ Q (.bl (oneOf x d.hs)) H
theorem int_beq {i j : Int} : decide (V.int i = V.int j) = decide (i = j) := decide_eq_decide.mpr ⟨V.int.inj, fun h => by rw [h]⟩
section
variable {P : Program} {w : World} {K : PySem.W.Frag} {mg : Str → Option Value} {base : Heap} {f : Addr} {fd : FuncData} {aE : Addr}
theorem scKEq : FnScope ["self", "other"] ["self", "other"] (defScope sKEq) := ⟨rfl, rfl, rfl, by decide +kernel, rfl, by decide +kernel, by decide +kernel⟩
theorem ok_kEq (F : Fun K "__eq__" "Keep.__eq__" sKEq f fd) (B : Blt mg) (KC : KCls K mg) (KI : KIsi K KC.C) : FnOk P w K mg base CX0 1 f fd ["self", "other"] (spKEq K KC.C) := by
  refine F.ok scKEq (fun vs H Q E h => ?_) (fun cdv A outer s H vs Q E hr h => ?_)
  · obtain ⟨a, b, d, e, rfl, _⟩ := h
    rfl
  · obtain ⟨a, b, d, e, rfl, ka, kb, k⟩ := h
    obtain ⟨dx, h1, a1, a2⟩ := ka.ob
    obtain ⟨dy, h2, b1, b2⟩ := kb.ob
    have ua := KD.use ka.ok
    have ub := KD.use kb.ok
    refine ⟨_, pss_one (ps_ret (pe_and (pe_callB call_isi (by rfl) B.isi PyProof.Rows.boot_isinstance (pa_cons (pv 1) (pa_cons (pe_glob (v := .ref KC.C) (by rfl) KC.g rfl) pa_nil)))
      (pe_and (pe_cmpR op_eq (pe_fld (pv 0) rfl) (pe_fld (pv 1) rfl) (nomark _)) (pe_and (pe_cmpR op_eq (pe_fld (pv 0) rfl) (pe_fld (pv 1) rfl) (nomark _)) (pe_and (pe_cmpR (op_eqD hr.units) (pe_fld (pv 0) rfl) (pe_fld (pv 1) rfl) (nomark _))
      (pe_one (pe_cmpR op_eq (pe_fld (pv 0) rfl) (pe_fld (pv 1) rfl) (nomark _)))))))), ?_⟩
    refine ⟨_, rfl, _, _, _, _, _, rfl, .own KC.C, .base (.ins b1 KC.cl KI.ha KI.hn KI.ht KI.hm), KI.kit, _, rfl, ?_⟩
    refine iteT ?_
    refine ⟨_, rfl, a, KC.C, dx, _, _, rfl, a1, KC.cl, KC.n1, kfs_s _ _ _ _, _, rfl, b, KC.C, dy, _, _, rfl, b1, KC.cl, KC.n1, kfs_s _ _ _ _, rfl, _, rfl, ?_⟩
    have no : ¬ d = e → Q (.bl false) H := fun z => by
      rw [decide_eq_false z] at k
      exact k
    refine ite2 (fun c1 => ?_) (fun c1 => no fun z => c1 (by rw [z]; exact decide_eq_true rfl))
    refine ⟨_, rfl, a, KC.C, dx, _, _, rfl, a1, KC.cl, KC.n2, kfs_b _ _ _ _, _, rfl, b, KC.C, dy, _, _, rfl, b1, KC.cl, KC.n2, kfs_b _ _ _ _, rfl, _, rfl, ?_⟩
    refine ite2 (fun c2 => ?_) (fun c2 => no fun z => c2 (by rw [z]; exact decide_eq_true rfl))
    refine ⟨_, rfl, a, KC.C, dx, _, _, rfl, a1, KC.cl, KC.n3, kfs_h _ _ _ _, _, rfl, b, KC.C, dy, _, _, rfl, b1, KC.cl, KC.n3, kfs_h _ _ _ _, ?_⟩
    refine ⟨_, _, .tup a2 (dpAll_ok (harms_oks ua.2.2.1)), .tup b2 (dpAll_ok (harms_oks ub.2.2.1)), shaped_tup (harms_oks ua.2.2.1), shaped_tup (harms_oks ub.2.2.1), _, rfl, ?_⟩
    rw [eqv_tup (harms_oks ua.2.2.1) (harms_oks ub.2.2.1), eqL_str (harms_strs ua.2.2.1) (harms_strs ub.2.2.1)]
    refine ite2 (fun c3 => ?_) (fun c3 => no fun z => c3 (by rw [z]; exact decide_eq_true rfl))
    refine ⟨_, rfl, a, KC.C, dx, _, _, rfl, a1, KC.cl, KC.n4, kfs_m _ _ _ _, _, rfl, b, KC.C, dy, _, _, rfl, b1, KC.cl, KC.n4, kfs_m _ _ _ _, rfl, ?_⟩
    have e1 : d.s = e.s := V.int.inj (of_decide_eq_true c1)
    have e2 : d.b = e.b := V.int.inj (of_decide_eq_true c2)
    have e3 : d.hs = e.hs := of_decide_eq_true c3
    have e4 : decide (V.int d.m = V.int e.m) = decide (d = e) := by
      rw [int_beq]
      refine decide_eq_decide.mpr ⟨fun z => ?_, fun z => by rw [z]⟩
      obtain ⟨x1, x2, x3, x4⟩ := d
      obtain ⟨y1, y2, y3, y4⟩ := e
      dsimp only at e1 e2 e3 z
      rw [e1, e2, e3, z]
    show Q (.bl (decide (V.int d.m = V.int e.m))) H
    rw [e4]
    exact k
end
end KW

set_option Elab.async false
set_option linter.all false
set_option maxRecDepth 100000
set_option maxHeartbeats 2000000
namespace KW
open PySem PySem.Spec PyProof.Rows L2 LamX OwnOp
/-! ## keeps made: Keep(..), keep + word, keep - word, Keep.full -/
theorem eqV_refl_ok {x : V} (h : okV x = true) : eqV x x = true := by
  cases x <;> first | (cases h; done) | rfl | simp [eqV]
theorem inV_str {x : V} {ws : List V} (hx : strV x = true) (hw : ws.all strV = true) : inV x ws = decide (x ∈ ws) := by
  unfold inV
  rw [Bool.eq_iff_iff, List.any_eq_true, decide_eq_true_iff]
  constructor
  · rintro ⟨y, hy, e⟩
    have hs := List.all_eq_true.mp hw y hy
    have k : kin y x = true := by cases x <;> cases y <;> first | rfl | (cases hx; done) | (cases hs; done)
    rw [eqV_kin k] at e
    rw [← of_decide_eq_true e]
    exact hy
  · intro hy
    have k : kin x x = true := by cases x <;> first | rfl | (cases hx; done)
    exact ⟨x, hy, by rw [eqV_kin k]; exact decide_eq_true rfl⟩
theorem oneOf_is {x : V} {ws : List V} (hw : ws.all strV = true) : oneOf x ws = decide (x ∈ ws) := by
  cases x with
  | str z => exact inV_str rfl hw
  | _ =>
    symm
    refine decide_eq_false fun z => ?_
    have := List.all_eq_true.mp hw _ z
    cases this
/-- what a filter leaves of the words can be harms -/
theorem areHarms_filter (db : Dat) (c : V → Bool) : areHarms (.tup ((harmsFor db).filter c)) db = true := by
  have hst : ((harmsFor db).filter c).all strV = true := List.all_eq_true.mpr fun x hx => List.all_eq_true.mp (harms_str db) x (List.mem_filter.mp hx).1
  show (((harmsFor db).filter c).all (fun x => oneOf x (harmsFor db)) && decide ((harmsFor db).filter c = (harmsFor db).filter fun x => inV x ((harmsFor db).filter c))) = true
  rw [Bool.and_eq_true]
  constructor
  · refine List.all_eq_true.mpr fun x hx => ?_
    rw [oneOf_is (harms_str db)]
    exact decide_eq_true (List.mem_filter.mp hx).1
  · refine decide_eq_true (List.filter_congr fun x hx => ?_)
    rw [inV_str (List.all_eq_true.mp (harms_str db) x hx) hst, Bool.eq_iff_iff, decide_eq_true_iff, List.mem_filter]
    exact ⟨fun h => ⟨hx, h⟩, fun h => h.2⟩
theorem KD.bad_hs {d : KD} (h : d.bad = none) (c : V → Bool) : ({ d with hs := (harmsFor (.fl (.int d.b))).filter c } : KD).bad = none := by
  obtain ⟨u1, u2, u3, u4⟩ := KD.use h
  unfold KD.bad keepBad
  rw [if_neg, if_neg, if_neg, if_neg]
  · rw [show betw (.fl (.int d.m)) 0 2 = true from decide_eq_true u4]; decide
  · rw [areHarms_filter]; decide
  · rw [show betw (.fl (.int d.b)) 1 2 = true from decide_eq_true u2]; decide
  · rw [show betw (.fl (.int d.s)) 1 3 = true from decide_eq_true u1]; decide
/-- the parts that can be: numbers and a tuple -/
theorem keep_parts {K : PySem.W.Frag} {H : Hp} {s b h m : V} {ds db dh dm : Dat} (hs : Is K H s ds) (hb : Is K H b db) (hh : Is K H h dh) (hm : Is K H m dm) (k : keepBad ds db dh dm = none) :
    ∃ (d : KD) (hr : Addr), s = .int d.s ∧ b = .int d.b ∧ h = .ref hr ∧ m = .int d.m ∧ SqT K H hr d.hs ∧ d.bad = none ∧ ds = .fl (.int d.s) ∧ db = .fl (.int d.b) ∧ dh = .tup d.hs ∧ dm = .fl (.int d.m) := by
  have k0 := k
  unfold keepBad at k
  split at k
  · cases k
  · rename_i e1
    split at k
    · cases k
    · rename_i e2
      split at k
      · cases k
      · rename_i e3
        split at k
        · cases k
        · rename_i e4
          have f1 := eq_true_of_ne_false e1
          have f2 := eq_true_of_ne_false e2
          have f3 := eq_true_of_ne_false e3
          have f4 := eq_true_of_ne_false e4
          cases hs with
          | tup => cases f1
          | lst => cases f1
          | fl q1 =>
            cases hb with
            | tup => cases f2
            | lst => cases f2
            | fl q2 =>
              cases hm with
              | tup => cases f4
              | lst => cases f4
              | fl q4 =>
                cases hh with
                | fl => cases f3
                | lst => cases f3
                | tup t1 t2 =>
                  rename_i hr xs
                  cases s <;> first | (cases f1; done) | skip
                  cases b <;> first | (cases f2; done) | skip
                  cases m <;> first | (cases f4; done) | skip
                  rename_i i j l
                  exact ⟨⟨i, j, xs, l⟩, hr, rfl, rfl, rfl, rfl, t1, k0, rfl, rfl, rfl, rfl⟩
section
variable {P : Program} {w : World} {K : PySem.W.Frag} {mg : Str → Option Value} {base : Heap} {f : Addr} {fd : FuncData} {aE : Addr}
/-- Keep(..): from the heap ahead of it -/
theorem keep_mk {C CB : Addr} {H : Hp} {Q : VK} {E : XK} {s b h m : V} {ds db dh dm : Dat} (hs : Is K H s ds) (hb : Is K H b db) (hh : Is K H h dh) (hm : Is K H m dm) (hsh : short dh)
    (hE : ∀ wd, keepBad ds db dh dm = some wd → ∀ d H', Same H H' → H' d = some (.xd [("part", .str wd)]) → E (.ref CB) (some d) H')
    (hQ : ∀ d : KD, s = .int d.s → b = .int d.b → dh = .tup d.hs → m = .int d.m → ∀ p H', Same H H' → H p = none → KeepAt K C H' p d → Q (.ref p) H') :
    ∀ x dx, H x = none → H dx = none → dx ≠ x → spKInit K C CB [.ref x, s, b, h, m] (upd (upd H dx (.own x)) x (.ins C dx [])) (fun v H3 => v = .non ∧ Q (.ref x) H3) E := by
  intro x dx hx hdx hne
  have s0 : Same H (upd (upd H dx (.own x)) x (.ins C dx [])) := fun c o e => by
    rw [upd_ne (ne_of_none e hx), upd_ne (ne_of_none e hdx)]
    exact e
  refine ⟨x, dx, s, b, h, m, ds, db, dh, dm, rfl, upd_same, KW.Same.is s0 hs, KW.Same.is s0 hb, KW.Same.is s0 hh, KW.Same.is s0 hm, hsh, fun wd k d H' s1 hd => hE wd k d H' (s0.trans s1) hd, fun k H' old new => ⟨rfl, ?_⟩⟩
  have s1 : Same H H' := fun c o e => old c o (s0 c o e) (ne_of_none e hx)
  obtain ⟨d, hr, rfl, rfl, rfl, rfl, t, bad, e1, e2, e3, e4⟩ := keep_parts hs hb hh hm k
  exact hQ d rfl rfl e3 rfl x H' s1 hx ⟨⟨dx, hr, new, KW.Same.sqT s1 t⟩, bad⟩
/-- what Keep's call wants -/
structure KMk (K : PySem.W.Frag) (mg : Str → Option Value) (C : Addr) where
  fI : Addr
  fd : FuncData
  aE : Addr
  F : FKI K aE fI fd
  M : Mk K C fI
  tE : ∀ H, SqT K H aE []
theorem ok_kI (T : Parts K mg) (KC : KCls K mg) (KM : KMk K mg KC.C) : FnOk P w K mg base (L2.CX P w) 5 KM.fI KM.fd psK (spKInit K KC.C T.BK.C) := ok_kInit KM.F T KC
end
end KW

set_option Elab.async false
set_option linter.all false
set_option maxRecDepth 100000
set_option maxHeartbeats 2000000
namespace KW
open PySem PySem.Spec PyProof.Rows L2 LamX OwnOp
/-! ## plans -/
def oneOfD (d : Dat) (ws : List V) : Bool := match d with
  | .fl v => oneOf v ws
  | _ => false
theorem Is.oneOf {K : PySem.W.Frag} {H : Hp} {v : V} {d : Dat} (h : Is K H v d) (ws : List V) : KW.oneOf v ws = oneOfD d ws := by
  cases h <;> rfl
def limOk : Dat → Bool
  | .fl .non => true
  | d => betw d 1 2
def planBad (du dr dc dm dl : Dat) : Option Str := if areSums du = false then some "SUMS" else if isOrder dr = false then some "ORDER" else if oneOfD dc allC = false then some "CHOICE" else if isBool dm = false then some "MENDS" else if limOk dl = false then some "LIMIT" else none
def pfs (u r c m l : V) : List (Str × V) := [("sums", u), ("order", r), ("choice", c), ("mends", m), ("limit", l)]
theorem ps1 : ¬ (("sums" : Str) = "order") := by decide +kernel
theorem ps2 : ¬ (("sums" : Str) = "choice") := by decide +kernel
theorem ps3 : ¬ (("sums" : Str) = "mends") := by decide +kernel
theorem ps4 : ¬ (("sums" : Str) = "limit") := by decide +kernel
theorem ps5 : ¬ (("order" : Str) = "choice") := by decide +kernel
theorem ps6 : ¬ (("order" : Str) = "mends") := by decide +kernel
theorem ps7 : ¬ (("order" : Str) = "limit") := by decide +kernel
theorem ps8 : ¬ (("choice" : Str) = "mends") := by decide +kernel
theorem ps9 : ¬ (("choice" : Str) = "limit") := by decide +kernel
theorem ps10 : ¬ (("mends" : Str) = "limit") := by decide +kernel
theorem pfs_put (u r c m l : V) : putF "limit" l (putF "mends" m (putF "choice" c (putF "order" r (putF "sums" u [])))) = pfs u r c m l := by
  unfold pfs
  simp only [putF, ps1, ps2, ps3, ps4, ps5, ps6, ps7, ps8, ps9, ps10, if_false]
theorem pfs_u (u r c m l : V) : (pfs u r c m l).lookup ("sums" : Str) = some u := by
  simp [pfs, List.lookup]
theorem pfs_r (u r c m l : V) : (pfs u r c m l).lookup ("order" : Str) = some r := by
  have e1 : (("order" : Str) == "sums") = false := by decide +kernel
  simp [pfs, List.lookup, e1]
theorem pfs_c (u r c m l : V) : (pfs u r c m l).lookup ("choice" : Str) = some c := by
  have e1 : (("choice" : Str) == "sums") = false := by decide +kernel
  have e2 : (("choice" : Str) == "order") = false := by decide +kernel
  simp [pfs, List.lookup, e1, e2]
theorem pfs_m (u r c m l : V) : (pfs u r c m l).lookup ("mends" : Str) = some m := by
  have e1 : (("mends" : Str) == "sums") = false := by decide +kernel
  have e2 : (("mends" : Str) == "order") = false := by decide +kernel
  have e3 : (("mends" : Str) == "choice") = false := by decide +kernel
  simp [pfs, List.lookup, e1, e2, e3]
theorem pfs_l (u r c m l : V) : (pfs u r c m l).lookup ("limit" : Str) = some l := by
  have e1 : (("limit" : Str) == "sums") = false := by decide +kernel
  have e2 : (("limit" : Str) == "order") = false := by decide +kernel
  have e3 : (("limit" : Str) == "choice") = false := by decide +kernel
  have e4 : (("limit" : Str) == "mends") = false := by decide +kernel
  simp [pfs, List.lookup, e1, e2, e3, e4]
structure PCls (K : PySem.W.Frag) (mg : Str → Option Value) where
  C : Addr
  g : mg "Plan" = some (.ref C)
  cl : Cls K C
  n1 : NoAttr K C "sums"
  n2 : NoAttr K C "order"
  n3 : NoAttr K C "choice"
  n4 : NoAttr K C "mends"
  n5 : NoAttr K C "limit"
def spPInit (K : PySem.W.Frag) (C CB : Addr) : Sp := fun vs H Q E => ∃ p dx u r c m l du dr dc dm dl, vs = [.ref p, u, r, c, m, l] ∧ H p = some (.ins C dx []) ∧ Is K H u du ∧ Is K H r dr ∧ Is K H c dc ∧ Is K H m dm ∧ Is K H l dl ∧ short du ∧ short dr ∧
  (∀ wd, planBad du dr dc dm dl = some wd → ∀ d H', Same H H' → H' d = some (.xd [("part", .str wd)]) → E (.ref CB) (some d) H') ∧
  (planBad du dr dc dm dl = none → ∀ H', (∀ q o, H q = some o → q ≠ p → H' q = some o) → H' p = some (.ins C dx (pfs u r c m l)) → Q .non H')
section
variable {P : Program} {w : World} {K : PySem.W.Frag} {mg : Str → Option Value} {base : Heap} {f : Addr} {fd : FuncData} {aE : Addr}
abbrev psP : List Str := ["self", "sums", "order", "choice", "mends", "limit"]
theorem scPInit : FnScope psP psP (defScope sPInit) := ⟨rfl, rfl, rfl, by decide +kernel, rfl, by decide +kernel, by decide +kernel⟩
abbrev FPI (K : PySem.W.Frag) (f : Addr) (fd : FuncData) : Prop := FunD K "__init__" "Plan.__init__" (defArgs sPInit) (defBody sPInit) (defScope sPInit) [] [("choice", .str "first"), ("mends", .bl true), ("limit", .non)] f fd
theorem strOkC : allC.all okV = true := by decide +kernel
theorem strOkP : allP.all okV = true := by decide +kernel
theorem ok_pInit (F : FPI K f fd) (T : Parts K mg) (PC : PCls K mg) : FnOk P w K mg base (L2.CX P w) 5 f fd psP (spPInit K PC.C T.BP.C) := by
  refine F.ok scPInit (fun vs H Q E h => ?_) (fun cdv A outer s H vs Q E hr h => ?_)
  · obtain ⟨p, dx, u, r, c, m, l, du, dr, dc, dm, dl, rfl, _⟩ := h
    rfl
  · obtain ⟨p, dx, vu, vr, vc, vm, vl, du, dr, dc, dm, dl, rfl, hp, hu, hor, hc, hm, hl, su, sr, kE, kQ⟩ := h
    have hr1 : Room 1 _ := hr.mono (by decide)
    have hr2 : Room 2 _ := hr.mono (by decide)
    refine ⟨_, pss_cons (ps_if (pt_not (pt_val (pe_call T.okAs hr2 rfl T.As.g T.As.F.kp T.bAs .nil pass0 (pa_cons (pv 1) pa_nil)))) (pss_one (ps_raise rfl (takes_of rfl rfl rfl rfl) (pmk_oex T.BP.T T.BP.iC T.BP.tI (ok_bp T.BP) hr2 T.bBP .nil pass0 rfl T.BP.g (pa_cons pe_str pa_nil)))) pss_nil)
      (pss_cons (ps_if (pt_not (pt_val (pe_call T.okIo hr2 rfl T.Io.g T.Io.F.kp T.bIo .nil pass0 (pa_cons (pv 2) pa_nil)))) (pss_one (ps_raise rfl (takes_of rfl rfl rfl rfl) (pmk_oex T.BP.T T.BP.iC T.BP.tI (ok_bp T.BP) hr2 T.bBP .nil pass0 rfl T.BP.g (pa_cons pe_str pa_nil)))) pss_nil)
      (pss_cons (ps_if (pt_not (pt_val (pe_call T.okOo hr1 rfl T.Oo.g T.Oo.F.kp T.bOo .nil pass0 (pa_cons (pv 3) (pa_cons (pe_glob (v := .ref T.TC.a) (by rfl) T.TC.g rfl) pa_nil))))) (pss_one (ps_raise rfl (takes_of rfl rfl rfl rfl) (pmk_oex T.BP.T T.BP.iC T.BP.tI (ok_bp T.BP) hr2 T.bBP .nil pass0 rfl T.BP.g (pa_cons pe_str pa_nil)))) pss_nil)
      (pss_cons (ps_if (pt_not (pt_val (pe_callB call_isi (by rfl) T.B.isi PyProof.Rows.boot_isinstance (pa_cons (pv 4) (pa_cons (pe_bltn (v := .ty "bool") (by rfl) T.B.bool PyProof.Rows.boot_bool rfl) pa_nil))))) (pss_one (ps_raise rfl (takes_of rfl rfl rfl rfl) (pmk_oex T.BP.T T.BP.iC T.BP.tI (ok_bp T.BP) hr2 T.bBP .nil pass0 rfl T.BP.g (pa_cons pe_str pa_nil)))) pss_nil)
      (pss_cons (ps_if (PW.pt (pw_and (pt_cmpR op_notN (pv 5) pe_non (nomark _)) (pw_and1 (pt_not (pt_val (pe_call T.okBt hr2 rfl T.Bt.g T.Bt.F.kp T.bBt .nil pass0 (pa_cons (pv 5) (pa_cons pe_int (pa_cons pe_int pa_nil))))))))) (pss_one (ps_raise rfl (takes_of rfl rfl rfl rfl) (pmk_oex T.BP.T T.BP.iC T.BP.tI (ok_bp T.BP) hr2 T.bBP .nil pass0 rfl T.BP.g (pa_cons pe_str pa_nil)))) pss_nil)
      (pss_cons (ps_fld (pv 0) (pv 1) rfl) (pss_cons (ps_fld (pv 0) (pv 2) rfl) (pss_cons (ps_fld (pv 0) (pv 3) rfl) (pss_cons (ps_fld (pv 0) (pv 4) rfl) (pss_one (ps_fld (pv 0) (pv 5) rfl)))))))))), ?_⟩
    refine ⟨_, rfl, vu, du, rfl, hu, su, fun H1 s1 => ⟨_, rfl, ?_⟩⟩
    cases e1 : areSums du with
    | false =>
      refine iteT ?_
      exact ex_made fun d H' s2 hd => kE "SUMS" (by unfold planBad; rw [if_pos e1]) d H' (s1.trans s2) hd
    | true =>
      refine iteF ?_
      refine ⟨_, rfl, vr, dr, rfl, KW.Same.is s1 hor, sr, fun H2 s2 => ⟨_, rfl, ?_⟩⟩
      have s12 := s1.trans s2
      cases e2 : isOrder dr with
      | false =>
        refine iteT ?_
        exact ex_made fun d H' s3 hd => kE "ORDER" (by unfold planBad; rw [if_neg (by rw [e1]; decide), if_pos e2]) d H' (s12.trans s3) hd
      | true =>
        refine iteF ?_
        refine ⟨_, rfl, vc, dc, T.TC.a, _, rfl, KW.Same.is s12 hc, T.TC.at_ _, okV.all strOkC, _, rfl, ?_⟩
        rw [hc.oneOf]
        cases e3 : oneOfD dc allC with
        | false =>
          refine iteT ?_
          exact ex_made fun d H' s3 hd => kE "CHOICE" (by unfold planBad; rw [if_neg (by rw [e1]; decide), if_neg (by rw [e2]; decide), if_pos e3]) d H' (s12.trans s3) hd
        | true =>
          refine iteF ?_
          refine ⟨_, rfl, vm, _, _, _, _, rfl, .ty "bool", (KW.Same.is s12 hm).ty, (KW.Same.is s12 hm).kBool, _, rfl, ?_⟩
          cases e4 : isBool dm with
          | false =>
            refine iteT ?_
            exact ex_made fun d H' s3 hd => kE "MENDS" (by unfold planBad; rw [if_neg (by rw [e1]; decide), if_neg (by rw [e2]; decide), if_neg (by rw [e3]; decide), if_pos e4]) d H' (s12.trans s3) hd
          | true =>
            refine iteF ?_
            have fin : limOk dl = true → tSeq (sFld K (tVar 0) (tVar 1) "sums") (tSeq (sFld K (tVar 0) (tVar 2) "order") (tSeq (sFld K (tVar 0) (tVar 3) "choice") (tSeq (sFld K (tVar 0) (tVar 4) "mends") (sFld K (tVar 0) (tVar 5) "limit")))) { nx := fun _ H' => Q .non H', rt := Q } (L2.start psP [.ref p, vu, vr, vc, vm, vl]) H2 := fun e5 => by
              have hp1 := s12 _ _ hp
              refine ⟨_, rfl, _, rfl, p, PC.C, dx, _, rfl, hp1, PC.cl, PC.n1, (by show 0 < 1000; decide), ?_⟩
              refine ⟨_, rfl, _, rfl, p, PC.C, dx, _, rfl, upd_same, PC.cl, PC.n2, lt1, ?_⟩
              refine ⟨_, rfl, _, rfl, p, PC.C, dx, _, rfl, upd_same, PC.cl, PC.n3, lt2, ?_⟩
              refine ⟨_, rfl, _, rfl, p, PC.C, dx, _, rfl, upd_same, PC.cl, PC.n4, lt3, ?_⟩
              refine ⟨_, rfl, _, rfl, p, PC.C, dx, _, rfl, upd_same, PC.cl, PC.n5, lt4, ?_⟩
              refine kQ (by unfold planBad; rw [if_neg (by rw [e1]; decide), if_neg (by rw [e2]; decide), if_neg (by rw [e3]; decide), if_neg (by rw [e4]; decide), if_neg (by rw [e5]; decide)]) _ (fun q o hq hne => ?_) ?_
              · rw [upd_ne hne, upd_ne hne, upd_ne hne, upd_ne hne, upd_ne hne]
                exact s12 _ _ hq
              · rw [upd_same, pfs_put]
            refine ⟨_, rfl, rfl, _, rfl, ?_⟩
            by_cases c5 : vl = .non
            · subst c5
              refine iteBF (by rw [decide_eq_true rfl]; rfl) ?_
              refine iteF ?_
              refine fin ?_
              cases hl
              rfl
            · refine iteB (by rw [decide_eq_false c5]; rfl) ?_
              refine ⟨_, rfl, vl, dl, 1, 2, rfl, KW.Same.is s12 hl, _, rfl, ?_⟩
              have e6 : limOk dl = betw dl 1 2 := by
                cases hl with
                | fl => cases vl <;> first | rfl | exact absurd rfl c5
                | _ => rfl
              cases e5 : betw dl 1 2 with
              | false =>
                refine iteT ?_
                exact ex_made fun d H' s3 hd => kE "LIMIT" (by unfold planBad; rw [if_neg (by rw [e1]; decide), if_neg (by rw [e2]; decide), if_neg (by rw [e3]; decide), if_neg (by rw [e4]; decide), if_pos (e6.trans e5)]) d H' (s12.trans s3) hd
              | true =>
                refine iteF ?_
                exact fin (e6.trans e5)
end
end KW

set_option Elab.async false
set_option linter.all false
set_option maxRecDepth 100000
set_option maxHeartbeats 2000000
namespace KW
open PySem PySem.Spec PyProof.Rows L2 LamX OwnOp
structure PD where
  u : List V
  r : List V
  c : V
  m : V
  l : V
  deriving DecidableEq
def PD.bad (d : PD) : Option Str := planBad (.tup d.u) (.tup d.r) (.fl d.c) (.fl d.m) (.fl d.l)
structure PlanAt (K : PySem.W.Frag) (C : Addr) (H : Hp) (p : Addr) (d : PD) : Prop where
  ob : ∃ dx hu hr, H p = some (.ins C dx (pfs (.ref hu) (.ref hr) d.c d.m d.l)) ∧ SqT K H hu d.u ∧ SqT K H hr d.r
  ok : d.bad = none
theorem Same.plan {K : PySem.W.Frag} {C : Addr} {H H' : Hp} {p : Addr} {d : PD} (s : Same H H') (h : PlanAt K C H p d) : PlanAt K C H' p d := by
  obtain ⟨dx, hu, hr, h1, h2, h3⟩ := h.ob
  exact ⟨⟨dx, hu, hr, s _ _ h1, KW.Same.sqT s h2, KW.Same.sqT s h3⟩, h.ok⟩
theorem planBad_use {du dr dc dm dl : Dat} (h : planBad du dr dc dm dl = none) : areSums du = true ∧ isOrder dr = true ∧ oneOfD dc allC = true ∧ isBool dm = true ∧ limOk dl = true := by
  unfold planBad at h
  split at h
  · cases h
  · rename_i e1
    split at h
    · cases h
    · rename_i e2
      split at h
      · cases h
      · rename_i e3
        split at h
        · cases h
        · rename_i e4
          split at h
          · cases h
          · rename_i e5
            exact ⟨eq_true_of_ne_false e1, eq_true_of_ne_false e2, eq_true_of_ne_false e3, eq_true_of_ne_false e4, eq_true_of_ne_false e5⟩
theorem planBad_none {du dr dc dm dl : Dat} (e1 : areSums du = true) (e2 : isOrder dr = true) (e3 : oneOfD dc allC = true) (e4 : isBool dm = true) (e5 : limOk dl = true) : planBad du dr dc dm dl = none := by
  unfold planBad
  rw [if_neg (by rw [e1]; decide), if_neg (by rw [e2]; decide), if_neg (by rw [e3]; decide), if_neg (by rw [e4]; decide), if_neg (by rw [e5]; decide)]
theorem sums_use {xs : List V} (h : areSums (.tup xs) = true) : (1 ≤ xs.length ∧ xs.length ≤ 2) ∧ xs.all (fun x => oneOf x allK) = true := by
  have h' : (decide (1 ≤ xs.length ∧ xs.length ≤ 2) && xs.all (fun x => oneOf x allK)) = true := h
  rw [Bool.and_eq_true] at h'
  exact ⟨of_decide_eq_true h'.1, h'.2⟩
theorem sums_str {xs : List V} (h : areSums (.tup xs) = true) : xs.all strV = true := List.all_eq_true.mpr fun x hx => oneOf_str (List.all_eq_true.mp (sums_use h).2 x hx)
theorem inV_ok {x : V} {ws : List V} (hx : strV x = true) (hw : ws.all okV = true) (h : inV x ws = true) : okV x = true := by
  unfold inV at h
  obtain ⟨y, hy, e⟩ := List.any_eq_true.mp h
  have hs := List.all_eq_true.mp hw y hy
  cases x <;> first | (cases hx; done) | skip
  cases y <;> first | (cases e; done) | (cases hs; done) | skip
  rename_i a b
  have : b = a := by simpa [eqV] using e
  subst this
  exact hs
theorem oneOf_ok {x : V} {ws : List V} (hw : ws.all okV = true) (h : oneOf x ws = true) : okV x = true := by
  have hx := oneOf_str h
  cases x <;> first | (cases hx; done) | exact inV_ok hx hw h
theorem sums_ok {xs : List V} (h : areSums (.tup xs) = true) : xs.all okV = true := List.all_eq_true.mpr fun x hx => oneOf_ok strOkK (List.all_eq_true.mp (sums_use h).2 x hx)
theorem order_use {xs : List V} (h : isOrder (.tup xs) = true) : (1 ≤ xs.length ∧ xs.length ≤ 3) ∧ xs.all intV = true ∧ (xs.map unI).Perm (rgI xs.length) := by
  have h' : (decide (1 ≤ xs.length ∧ xs.length ≤ 3) && (xs.all intV && decide ((xs.map unI).Perm (rgI xs.length)))) = true := h
  rw [Bool.and_eq_true, Bool.and_eq_true] at h'
  exact ⟨of_decide_eq_true h'.1, h'.2.1, of_decide_eq_true h'.2.2⟩
theorem int_ok {xs : List V} (h : xs.all intV = true) : xs.all okV = true := List.all_eq_true.mpr fun x hx => by
  have e := List.all_eq_true.mp h x hx
  cases x <;> first | rfl | cases e
theorem order_rev {xs : List V} (h : isOrder (.tup xs) = true) : isOrder (.tup xs.reverse) = true := by
  obtain ⟨h1, h2, h3⟩ := order_use h
  show (decide (1 ≤ xs.reverse.length ∧ xs.reverse.length ≤ 3) && (xs.reverse.all intV && decide ((xs.reverse.map unI).Perm (rgI xs.reverse.length)))) = true
  rw [List.length_reverse, decide_eq_true h1, Bool.true_and, Bool.and_eq_true]
  constructor
  · rw [List.all_reverse]
    exact h2
  · rw [List.map_reverse]
    exact decide_eq_true ((List.reverse_perm _).trans h3)
theorem plan_parts {K : PySem.W.Frag} {H : Hp} {u r c m l : V} {du dr dc dm dl : Dat} (hu : Is K H u du) (hr : Is K H r dr) (hc : Is K H c dc) (hm : Is K H m dm) (hl : Is K H l dl) (k : planBad du dr dc dm dl = none) :
    ∃ (d : PD) (pu pr : Addr), u = .ref pu ∧ r = .ref pr ∧ c = d.c ∧ m = d.m ∧ l = d.l ∧ SqT K H pu d.u ∧ SqT K H pr d.r ∧ d.bad = none ∧ du = .tup d.u ∧ dr = .tup d.r ∧ dc = .fl d.c ∧ dm = .fl d.m ∧ dl = .fl d.l := by
  obtain ⟨e1, e2, e3, e4, e5⟩ := planBad_use k
  cases hu with
  | fl => cases e1
  | lst => cases e1
  | tup t1 =>
    cases hr with
    | fl => cases e2
    | lst => cases e2
    | tup t2 =>
      cases hc with
      | tup => cases e3
      | lst => cases e3
      | fl =>
        cases hm with
        | tup => cases e4
        | lst => cases e4
        | fl =>
          cases hl with
          | tup => cases e5
          | lst => cases e5
          | fl => exact ⟨⟨_, _, _, _, _⟩, _, _, rfl, rfl, rfl, rfl, rfl, t1, t2, k, rfl, rfl, rfl, rfl, rfl⟩
theorem lim_cases {l : V} (h : limOk (.fl l) = true) : l = .non ∨ ∃ i, l = .int i := by
  cases l <;> first | exact .inl rfl | exact .inr ⟨_, rfl⟩ | cases h
section
variable {P : Program} {w : World} {K : PySem.W.Frag} {mg : Str → Option Value} {base : Heap} {f : Addr} {fd : FuncData} {aE : Addr}
theorem plan_mk {C CB : Addr} {H : Hp} {Q : VK} {E : XK} {u r c m l : V} {du dr dc dm dl : Dat} (hu : Is K H u du) (hr : Is K H r dr) (hc : Is K H c dc) (hm : Is K H m dm) (hl : Is K H l dl) (su : short du) (sr : short dr)
    (hE : ∀ wd, planBad du dr dc dm dl = some wd → ∀ d H', Same H H' → H' d = some (.xd [("part", .str wd)]) → E (.ref CB) (some d) H')
    (hQ : ∀ d : PD, du = .tup d.u → dr = .tup d.r → dc = .fl d.c → dm = .fl d.m → dl = .fl d.l → ∀ p H', Same H H' → H p = none → PlanAt K C H' p d → Q (.ref p) H') :
    ∀ x dx, H x = none → H dx = none → dx ≠ x → spPInit K C CB [.ref x, u, r, c, m, l] (upd (upd H dx (.own x)) x (.ins C dx [])) (fun v H3 => v = .non ∧ Q (.ref x) H3) E := by
  intro x dx hx hdx hne
  have s0 : Same H (upd (upd H dx (.own x)) x (.ins C dx [])) := fun c o e => by
    rw [upd_ne (ne_of_none e hx), upd_ne (ne_of_none e hdx)]
    exact e
  refine ⟨x, dx, u, r, c, m, l, du, dr, dc, dm, dl, rfl, upd_same, KW.Same.is s0 hu, KW.Same.is s0 hr, KW.Same.is s0 hc, KW.Same.is s0 hm, KW.Same.is s0 hl, su, sr, fun wd k d H' s1 hd => hE wd k d H' (s0.trans s1) hd, fun k H' old new => ⟨rfl, ?_⟩⟩
  have s1 : Same H H' := fun c o e => old c o (s0 c o e) (ne_of_none e hx)
  obtain ⟨d, pu, pr, rfl, rfl, rfl, rfl, rfl, t1, t2, bad, e1, e2, e3, e4, e5⟩ := plan_parts hu hr hc hm hl k
  exact hQ d e1 e2 e3 e4 e5 x H' s1 hx ⟨⟨dx, pu, pr, new, KW.Same.sqT s1 t1, KW.Same.sqT s1 t2⟩, bad⟩
structure PMkr (K : PySem.W.Frag) (mg : Str → Option Value) (C : Addr) where
  fI : Addr
  fd : FuncData
  F : FPI K fI fd
  M : Mk K C fI
theorem ok_pI (T : Parts K mg) (PC : PCls K mg) (PM : PMkr K mg PC.C) : FnOk P w K mg base (L2.CX P w) 5 PM.fI PM.fd psP (spPInit K PC.C T.BP.C) := ok_pInit PM.F T PC
/-- Plan(a, b, choice=c, mends=d, limit=e) -/
theorem pb5 (F : FPI K f fd) : ∃ mv : List Value, KBn K fd psP 3 ["choice", "mends", "limit"] (fun us ws => us ++ ws) (fun vs zs => vs ++ zs) := by
  obtain ⟨mv, h⟩ := F.kbinds0 3 ["choice", "mends", "limit"] [] (fun us _ ws => us ++ ws) (by simp) (fun q hq => by cases hq) (fun r1 _ r3 => r1.append r3)
    (ps := psP) (fun D doc pm an cdv ct us mv ws h1 h2 h3 => match us, mv, ws, h1, h2, h3 with
    | [_, _, _], [], [_, _, _], _, _, _ => rfl)
  exact ⟨mv, h⟩
/-- Plan(a, b) -/
theorem pb2 (F : FPI K f fd) : ∃ ds, Vals [.str "first", .bl true, .non] ds ∧ Binds K fd psP ds :=
  F.binds0 3 (by simp) rfl (ps := psP) fun D doc pm an cdv ct us ks h1 h2 => match us, ks, h1, h2 with
    | [_, _, _], [_, _, _], _, _ => ⟨_, _, _, _, _, _, rfl, rfl, _, _, _, _, _, _, rfl, rfl, _, _, _, _, _, _, rfl, rfl, rfl⟩
def spPEq (K : PySem.W.Frag) (C : Addr) : Sp := fun vs H Q _ => ∃ a b d e, vs = [.ref a, .ref b] ∧ PlanAt K C H a d ∧ PlanAt K C H b e ∧ Q (.bl (decide (d = e))) H
theorem scPEq : FnScope ["self", "other"] ["self", "other"] (defScope sPEq) := ⟨rfl, rfl, rfl, by decide +kernel, rfl, by decide +kernel, by decide +kernel⟩
theorem ok_pEq (F : Fun K "__eq__" "Plan.__eq__" sPEq f fd) (B : Blt mg) (PC : PCls K mg) (KI : KIsi K PC.C) : FnOk P w K mg base CX0 1 f fd ["self", "other"] (spPEq K PC.C) := by
  refine F.ok scPEq (fun vs H Q E h => ?_) (fun cdv A outer s H vs Q E hr h => ?_)
  · obtain ⟨a, b, d, e, rfl, _⟩ := h
    rfl
  · obtain ⟨a, b, d, e, rfl, ka, kb, k⟩ := h
    obtain ⟨dx, au, ar, a1, a2, a3⟩ := ka.ob
    obtain ⟨dy, bu, br, b1, b2, b3⟩ := kb.ob
    obtain ⟨u1, u2, u3, u4, u5⟩ := planBad_use ka.ok
    obtain ⟨w1, w2, w3, w4, w5⟩ := planBad_use kb.ok
    have no : ¬ d = e → Q (.bl false) H := fun z => by
      rw [decide_eq_false z] at k
      exact k
    refine ⟨_, pss_one (ps_ret (pe_and (pe_callB call_isi (by rfl) B.isi PyProof.Rows.boot_isinstance (pa_cons (pv 1) (pa_cons (pe_glob (v := .ref PC.C) (by rfl) PC.g rfl) pa_nil)))
      (pe_and (pe_cmpR (op_eqD hr.units) (pe_fld (pv 0) rfl) (pe_fld (pv 1) rfl) (nomark _)) (pe_and (pe_cmpR (op_eqD hr.units) (pe_fld (pv 0) rfl) (pe_fld (pv 1) rfl) (nomark _)) (pe_and (pe_cmpR op_eq (pe_fld (pv 0) rfl) (pe_fld (pv 1) rfl) (nomark _))
      (pe_and (pe_cmpR op_eq (pe_fld (pv 0) rfl) (pe_fld (pv 1) rfl) (nomark _)) (pe_one (pe_cmpR op_eq (pe_fld (pv 0) rfl) (pe_fld (pv 1) rfl) (nomark _))))))))), ?_⟩
    refine ⟨_, rfl, _, _, _, _, _, rfl, .own PC.C, .base (.ins b1 PC.cl KI.ha KI.hn KI.ht KI.hm), KI.kit, _, rfl, ?_⟩
    refine iteT ?_
    refine ⟨_, rfl, a, PC.C, dx, _, _, rfl, a1, PC.cl, PC.n1, pfs_u _ _ _ _ _, _, rfl, b, PC.C, dy, _, _, rfl, b1, PC.cl, PC.n1, pfs_u _ _ _ _ _, ?_⟩
    refine ⟨_, _, .tup a2 (dpAll_ok (sums_ok u1)), .tup b2 (dpAll_ok (sums_ok w1)), shaped_tup (sums_ok u1), shaped_tup (sums_ok w1), _, rfl, ?_⟩
    rw [eqv_tup (sums_ok u1) (sums_ok w1), eqL_str (sums_str u1) (sums_str w1)]
    refine ite2 (fun c1 => ?_) (fun c1 => no fun z => c1 (by rw [z]; exact decide_eq_true rfl))
    refine ⟨_, rfl, a, PC.C, dx, _, _, rfl, a1, PC.cl, PC.n2, pfs_r _ _ _ _ _, _, rfl, b, PC.C, dy, _, _, rfl, b1, PC.cl, PC.n2, pfs_r _ _ _ _ _, ?_⟩
    have i1 := (order_use u2).2.1
    have i2 := (order_use w2).2.1
    refine ⟨_, _, .tup a3 (dpAll_ok (int_ok i1)), .tup b3 (dpAll_ok (int_ok i2)), shaped_tup (int_ok i1), shaped_tup (int_ok i2), _, rfl, ?_⟩
    rw [eqv_tup (int_ok i1) (int_ok i2), eqL_int i1 i2]
    refine ite2 (fun c2 => ?_) (fun c2 => no fun z => c2 (by rw [z]; exact decide_eq_true rfl))
    obtain ⟨x1, x2, x3, x4, x5⟩ := d
    obtain ⟨y1, y2, y3, y4, y5⟩ := e
    obtain ⟨z3, rfl⟩ : ∃ z, x3 = .str z := by cases x3 <;> first | exact ⟨_, rfl⟩ | cases u3
    obtain ⟨z3', rfl⟩ : ∃ z, y3 = .str z := by cases y3 <;> first | exact ⟨_, rfl⟩ | cases w3
    obtain ⟨z4, rfl⟩ : ∃ z, x4 = .bl z := by cases x4 <;> first | exact ⟨_, rfl⟩ | cases u4
    obtain ⟨z4', rfl⟩ : ∃ z, y4 = .bl z := by cases y4 <;> first | exact ⟨_, rfl⟩ | cases w4
    refine ⟨_, rfl, a, PC.C, dx, _, _, rfl, a1, PC.cl, PC.n3, pfs_c _ _ _ _ _, _, rfl, b, PC.C, dy, _, _, rfl, b1, PC.cl, PC.n3, pfs_c _ _ _ _ _, rfl, _, rfl, ?_⟩
    refine ite2 (fun c3 => ?_) (fun c3 => no fun z => c3 (decide_eq_true (congrArg PD.c z)))
    refine ⟨_, rfl, a, PC.C, dx, _, _, rfl, a1, PC.cl, PC.n4, pfs_m _ _ _ _ _, _, rfl, b, PC.C, dy, _, _, rfl, b1, PC.cl, PC.n4, pfs_m _ _ _ _ _, rfl, _, rfl, ?_⟩
    refine ite2 (fun c4 => ?_) (fun c4 => no fun z => c4 (decide_eq_true (congrArg PD.m z)))
    have e1 : x1 = y1 := of_decide_eq_true c1
    have e2 : x2 = y2 := of_decide_eq_true c2
    have e3 : V.str z3 = V.str z3' := of_decide_eq_true c3
    have e4 : V.bl z4 = V.bl z4' := of_decide_eq_true c4
    have hsc : scal x5 y5 = true := by
      rcases lim_cases u5 with q | ⟨i, q⟩ <;> rcases lim_cases w5 with q' | ⟨j, q'⟩ <;> (dsimp only at q q'; subst q q'; rfl)
    refine ⟨_, rfl, a, PC.C, dx, _, _, rfl, a1, PC.cl, PC.n5, pfs_l _ _ _ _ _, _, rfl, b, PC.C, dy, _, _, rfl, b1, PC.cl, PC.n5, pfs_l _ _ _ _ _, hsc, ?_⟩
    have e5 : decide (x5 = y5) = decide ((⟨x1, x2, .str z3, .bl z4, x5⟩ : PD) = ⟨y1, y2, .str z3', .bl z4', y5⟩) := by
      refine decide_eq_decide.mpr ⟨fun z => ?_, fun z => congrArg PD.l z⟩
      rw [e1, e2, e3, e4, z]
    show Q (.bl (decide (x5 = y5))) H
    rw [e5]
    exact k
end
end KW

set_option Elab.async false
set_option linter.all false
set_option maxRecDepth 100000
set_option maxHeartbeats 2000000
namespace EqX
open PySem PySem.Spec PyProof.Rows L2 PySem.SeqAt
open PySem.AutoSeq1 (wpAny_loadPart')
open PySem.SeqRoads2 PySem.MeetsSeq3 PySem.MeetsSeq2 PySem.MeetsSeq
section
variable {prog : Program} {w : World}
/-! ## list != list, all items being equal -/
theorem loop_same (p q : Addr) (xs ys : Array Value) (n m : Nat) (dp dq : Option Addr) (sp sq : Array (Option Value)) (hz : xs.size = ys.size) (k : Nat) :
    ∀ i : Nat, xs.size - i = k → MeetsIn prog w (Builtin.«list.__eq__.loop» ⟨[.ref p, .ref q, rawInt i, rawInt 3], []⟩)
      (fun A R s => s.heap.get? p = some { cls := .type "list", dict := dp, data := .seq xs n, slots := sp } ∧
        s.heap.get? q = some { cls := .type "list", dict := dq, data := .seq ys m, slots := sq } ∧
        (∀ j (h1 : j < xs.size) (h2 : j < ys.size), EqP prog w A.in1 s xs[j] ys[j] true) ∧ R (.ok (.ret (.bool false))) s) := by
  induction k with
  | zero =>
    intro i hk A R s h
    obtain ⟨hp, g, d, tk, os⟩ := s
    obtain ⟨h1, h2, he, h⟩ := h
    wp_walk using wpAny_loadPart' h1, wpAny_loadPart' h2
    have e1 : xs[((i : Nat) : Int).toNat]? = none := by simp; omega
    have e2 : ys[((i : Nat) : Int).toNat]? = none := by simp; omega
    rw [e1, e2]
    wp_walk using wpAny_loadPart' h1, wpAny_loadPart' h2
    show R (.ok (.ret (.bool (xs.size != ys.size)))) _
    rw [hz]
    simpa using h
  | succ k ih =>
    intro i hk A R s h
    obtain ⟨hp, g, d, tk, os⟩ := s
    obtain ⟨h1, h2, he, h⟩ := h
    wp_walk using wpAny_loadPart' h1, wpAny_loadPart' h2
    have l1 : i < xs.size := by omega
    have l2 : i < ys.size := by omega
    have e1 : xs[((i : Nat) : Int).toNat]? = some xs[i] := by simp [l1]
    have e2 : ys[((i : Nat) : Int).toNat]? = some ys[i] := by simp [l2]
    have hc : ((i : Int) + 1) = ((i + 1 : Nat) : Int) := by push_cast; rfl
    rw [e1, e2]
    refine wpAny_bind (he i l1 l2 _ _ ?_)
    wp_walk
    rw [hc]
    exact ⟨plainId_quiet plain_eq_loop _, codeAny_builtin entry_eq_loop (by
      rw [Around.under_plainId plain_eq_loop _]
      exact ih (i + 1) (by omega) A R _ ⟨h1, h2, he, h⟩)⟩
theorem ne_same (p q : Addr) (xs ys : Array Value) (n m : Nat) (dp dq : Option Addr) (sp sq : Array (Option Value)) (hz : xs.size = ys.size) :
    MeetsIn prog w (Builtin.«list.__ne__» ⟨[.ref p, .ref q], []⟩)
      (fun A R s => s.heap.get? p = some { cls := .type "list", dict := dp, data := .seq xs n, slots := sp } ∧
        s.heap.get? q = some { cls := .type "list", dict := dq, data := .seq ys m, slots := sq } ∧
        (∀ j (h1 : j < xs.size) (h2 : j < ys.size), EqP prog w A.in1 s xs[j] ys[j] true) ∧ R (.ok (.ret (.bool false))) s) := by
  intro A R s h
  obtain ⟨hp, g, d, tk, os⟩ := s
  obtain ⟨h1, h2, he, h⟩ := h
  have f3 := AutoSeq1.sub_list_list
  have hn : ¬ (xs.size != ys.size) = true := by simp [hz]
  wp_walk using wpAny_loadPart' h1, wpAny_loadPart' h2
  exact ⟨plainId_quiet plain_eq_loop _, codeAny_builtin entry_eq_loop (by
    rw [Around.under_plainId plain_eq_loop _]
    exact loop_same p q xs ys n m dp dq sp sq hz _ 0 rfl A R _ ⟨h1, h2, he, h⟩)⟩
theorem rc_ne_same {A : Around} {s : Shared} {p q : Addr} {xs ys : Array Value} (h1 : s.heap.IsList p xs) (h2 : s.heap.IsList q ys) (hz : xs.size = ys.size) (hu : A.units < cLine)
    (he : ∀ j (h1 : j < xs.size) (h2 : j < ys.size), EqP prog w A.in1 s xs[j] ys[j] true) (E Q : Value → Shared → Prop) (h : Q (.bool false) s) : wpAny (model prog w) A (richCompare .NotEq (.ref p) (.ref q)) Q E s := by
  obtain ⟨⟨c1, d1, t1, s1⟩, o1, k1, n1, g1⟩ := id h1
  obtain ⟨⟨c2, d2, t2, s2⟩, o2, k2, n2, g2⟩ := id h2
  simp only at k1 g1 k2 g2
  subst k1 g1 k2 g2
  have ta : s.TypeIs (.ref p) "list" := ⟨_, o1, rfl⟩
  have tb : s.TypeIs (.ref q) "list" := ⟨_, o2, rfl⟩
  exact wpAny_richCompare_same_room (op := .NotEq) ta tb F.slot_list_ne (call_meetsIn F.slot_list_ne ta F.entry_list_ne (F.args_list_ne_2 _ _) (ne_same p q xs ys n1 n2 d1 d2 s1 s2 hz)
    ⟨o1, o2, he, show Value.bool false ≠ Value.notImplemented ∧ Q (.bool false) s from ⟨(fun x => nomatch x), h⟩⟩) hu
end
/-! ## what == of two items tells: data, or dicts of data -/
inductive DHit (K : PySem.W.Frag) (H : Hp) (ls : List (Key × V)) : List (Key × V) → Bool → Prop
  | nil : DHit K H ls [] true
  | miss {k : Key} {v : V} {r : List (Key × V)} : valV ls k = none → DHit K H ls ((k, v) :: r) false
  | hit {k : Key} {v u : V} {d e : PyData} {r : List (Key × V)} {b : Bool} : valV ls k = some u → Dp K H v d → Dp K H u e → shaped d = true → shaped e = true → DHit K H ls r b → DHit K H ls ((k, v) :: r) (PyData.eqv d e && b)
inductive EqI (K : PySem.W.Frag) (H : Hp) : V → V → Bool → Prop
  | dat {x y : V} {d e : PyData} : Dp K H x d → Dp K H y e → shaped d = true → shaped e = true → EqI K H x y (PyData.eqv d e)
  | dic {a b : Addr} {ks ls : List (Key × V)} {r : Bool} : a ≠ b → H a = some (.dK ks) → H b = some (.dK ls) → DHit K H ls ks r → EqI K H (.ref a) (.ref b) (ks.length == ls.length && r)
  | same {a : Addr} : EqI K H (.ref a) (.ref a) true
inductive EqIs (K : PySem.W.Frag) (H : Hp) : List V → List V → Bool → Prop
  | nil : EqIs K H [] [] true
  | cons {x y : V} {xs ys : List V} {b c : Bool} : EqI K H x y b → EqIs K H xs ys c → EqIs K H (x :: xs) (y :: ys) (b && c)
theorem EqIs.length {K : PySem.W.Frag} {H : Hp} {xs ys : List V} {b : Bool} (h : EqIs K H xs ys b) : xs.length = ys.length := by
  induction h with
  | nil => rfl
  | cons _ _ ih => rw [List.length_cons, List.length_cons, ih]
section
variable {X : Cx} {pins : List (Addr × Obj)} {σ : L2.St} {H : Hp} {s : Shared}
theorem dat_run (I : Inv X pins σ H s) {A : Around} (hu : A.units + 64 < cLine) {x y : V} {d e : PyData} (hx : Dp X.K H x d) (hy : Dp X.K H y e) (sd : shaped d = true) (se : shaped e = true) {v u : Value} (rx : RelV x v) (ry : RelV y u) :
    EqP X.prog X.w A s v u (PyData.eqv d e) := by
  obtain ⟨as, r1⟩ := Dp.reads I d x v hx rx
  obtain ⟨bs, r2⟩ := Dp.reads I e y u hy ry
  exact (eqAt_reads d e A s v u as bs r1 r2 (canLay_of_shaped sd) (canLay_of_shaped se) (room_of_shaped sd hu)).eqP
theorem hits_run (I : Inv X pins σ H s) {A : Around} (hu : A.units + 64 < cLine) {ls : List (Key × V)} {vb : List (Key × Value)} (rb : KV ls vb) {ks : List (Key × V)} {r : Bool} (h : DHit X.K H ls ks r) :
    ∀ {va : List (Key × Value)}, KV ks va → PySem.W.KeqHitsP X.prog X.w A s vb va r := by
  induction h with
  | nil =>
    intro va ra
    cases ra
    exact .nil
  | @miss k v r hm =>
    intro va ra
    cases ra with
    | @cons _ q _ qs h t =>
      obtain ⟨key, z⟩ := q
      have h1 : k = key := h.1
      subst h1
      have rr : RelO none (valueAt vb k) := by
        rw [← hm]
        exact rb.val k
      exact .miss (by cases e : valueAt vb k with
        | none => rfl
        | some _ => rw [e] at rr; exact rr.elim)
  | @hit k v u d e r b hm hv he sd se _ ih =>
    intro va ra
    cases ra with
    | @cons _ q _ qs h t =>
      obtain ⟨key, z⟩ := q
      have h1 : k = key := h.1
      subst h1
      have rr : RelO (some u) (valueAt vb k) := by
        rw [← hm]
        exact rb.val k
      obtain ⟨y, hy, ry⟩ := rr.some_of
      exact .hit hy (dat_run I hu hv he sd se h.2 ry) (ih t)
theorem dics_run (I : Inv X pins σ H s) {A : Around} (hu : A.units + 65 < cLine) {a b : Addr} {ks ls : List (Key × V)} {r : Bool} (ha : H a = some (.dK ks)) (hb : H b = some (.dK ls)) (h : DHit X.K H ls ks r)
    (E Q : Value → Shared → Prop) (q : Q (.bool (ks.length == ls.length && r)) s) : wpAny (model X.prog X.w) A (richCompare .Eq (.ref a) (.ref b)) Q E s := by
  obtain ⟨_, ya, va, ra, da⟩ := (show ObjOk X.prog X.w H s.heap a (.dK ks) from I.hok a _ ha)
  obtain ⟨_, yb, vb, rb, db⟩ := (show ObjOk X.prog X.w H s.heap b (.dK ls) from I.hok b _ hb)
  refine PySem.W.rcP_dicts (knd := mixKind X.prog X.w) (r := r) ya yb da db (by omega) (fun _ => hits_run I (A := A.in1) (by show A.units + 1 + 64 < cLine; omega) rb h ra) E Q ?_
  have e1 : ks.length = va.length := Paired.length ra
  have e2 : ls.length = vb.length := Paired.length rb
  rw [← e1, ← e2]
  exact q
theorem eqI_run (I : Inv X pins σ H s) {A : Around} (hu : A.units + 65 < cLine) {x y : V} {b : Bool} (h : EqI X.K H x y b) {v u : Value} (rx : RelV x v) (ry : RelV y u) : EqP X.prog X.w A s v u b := by
  cases h with
  | dat hx hy sd se => exact dat_run I (by omega) hx hy sd se rx ry
  | dic hne ha hb hd =>
    cases rx
    cases ry
    exact eqP_refs hne (dics_run I hu ha hb hd)
  | same =>
    cases rx
    cases ry
    exact (EqAt.same _).eqP
theorem eqIs_run (I : Inv X pins σ H s) {A : Around} (hu : A.units + 65 < cLine) {xs ys : List V} {b : Bool} (h : EqIs X.K H xs ys b) :
    ∀ {us ws : List Value}, Vals xs us → Vals ys ws → ∃ e : Nat → Bool, ((List.range us.length).all e) = b ∧ ∀ j (h1 : j < us.length) (h2 : j < ws.length), EqP X.prog X.w A s us[j] ws[j] (e j) := by
  induction h with
  | nil =>
    intro us ws r1 r2
    cases r1
    exact ⟨fun _ => true, rfl, fun j h1 _ => absurd h1 (Nat.not_lt_zero j)⟩
  | @cons x y xs ys b c hi _ ih =>
    intro us ws r1 r2
    cases r1 with
    | cons a1 b1 =>
      cases r2 with
      | cons a2 b2 =>
        obtain ⟨e, he, hh⟩ := ih b1 b2
        refine ⟨fun j => match j with | 0 => b | j + 1 => e j, ?_, fun j h1 h2 => ?_⟩
        · rw [List.length_cons, List.range_succ_eq_map, List.all_cons, List.all_map, ← he]
          rfl
        · cases j with
          | zero => exact eqI_run I hu hi a1 a2
          | succ j => exact hh j (Nat.lt_of_succ_lt_succ h1) (Nat.lt_of_succ_lt_succ h2)
theorem eqIs_all (I : Inv X pins σ H s) {A : Around} (hu : A.units + 65 < cLine) {xs ys : List V} (h : EqIs X.K H xs ys true) {us ws : List Value} (r1 : Vals xs us) (r2 : Vals ys ws) :
    ∀ j (h1 : j < us.length) (h2 : j < ws.length), EqP X.prog X.w A s us[j] ws[j] true := by
  obtain ⟨e, he, hh⟩ := eqIs_run I hu h r1 r2
  intro j h1 h2
  have := List.all_eq_true.mp he j (List.mem_range.mpr h1)
  rw [← this]
  exact hh j h1 h2
end
section
variable {X : Cx}
/-- a == b of two lists of data and of dicts of data -/
def rEqI (K : PySem.W.Frag) : R2 := fun x y H Q => ∃ a b xs ys r, x = .ref a ∧ y = .ref b ∧ SqL K H a xs ∧ SqL K H b ys ∧ EqIs K H xs ys r ∧ Q (.bl r) H
def rNeI (K : PySem.W.Frag) : R2 := fun x y H Q => ∃ a b xs ys, x = .ref a ∧ y = .ref b ∧ SqL K H a xs ∧ SqL K H b ys ∧ EqIs K H xs ys true ∧ Q (.bl false) H
/-- a == b of two dicts of data -/
def rEqDic (K : PySem.W.Frag) : R2 := fun x y H Q => ∃ a b ks ls r, x = .ref a ∧ y = .ref b ∧ H a = some (.dK ks) ∧ H b = some (.dK ls) ∧ DHit K H ls ks r ∧ Q (.bl (ks.length == ls.length && r)) H
theorem op_eqI (hu : X.A.units + 70 < cLine) : OpR X (compareOp .Eq) (rEqI X.K) := by
  intro pins s σ H x y v u Q I rx ry h
  obtain ⟨a, b, xs, ys, r, rfl, rfl, ha, hb, he, q⟩ := h
  cases rx
  cases ry
  obtain ⟨us, r1, p1, _⟩ := I.list ha
  obtain ⟨ws, r2, p2, _⟩ := I.list hb
  obtain ⟨e, e1, e2⟩ := eqIs_run I (A := X.A.in1) (by show X.A.units + 1 + 65 < cLine; omega) he r1 r2
  have hz : us.toArray.size = ws.toArray.size := by
    rw [List.size_toArray, List.size_toArray, ← Paired.length r1, ← Paired.length r2]
    exact he.length
  refine rcP_lists (e := e) p1.isList p2.isList hz (by omega) (fun j h1 h2 => ?_) _ _ ?_
  · have k := e2 j (by simpa using h1) (by simpa using h2)
    simpa using k
  · rw [List.size_toArray, e1]
    exact ⟨.bl _, H, I, rfl, q⟩
theorem op_neI (hu : X.A.units + 70 < cLine) : OpR X (compareOp .NotEq) (rNeI X.K) := by
  intro pins s σ H x y v u Q I rx ry h
  obtain ⟨a, b, xs, ys, rfl, rfl, ha, hb, he, q⟩ := h
  cases rx
  cases ry
  obtain ⟨us, r1, p1, _⟩ := I.list ha
  obtain ⟨ws, r2, p2, _⟩ := I.list hb
  have e2 := eqIs_all I (A := X.A.in1) (by show X.A.units + 1 + 65 < cLine; omega) he r1 r2
  have hz : us.toArray.size = ws.toArray.size := by
    rw [List.size_toArray, List.size_toArray, ← Paired.length r1, ← Paired.length r2]
    exact he.length
  refine rc_ne_same p1.isList p2.isList hz (by omega) (fun j h1 h2 => ?_) _ _ ?_
  · have k := e2 j (by simpa using h1) (by simpa using h2)
    simpa using k
  · exact ⟨.bl _, H, I, rfl, q⟩
theorem op_eqDic (hu : X.A.units + 70 < cLine) : OpR X (compareOp .Eq) (rEqDic X.K) := by
  intro pins s σ H x y v u Q I rx ry h
  obtain ⟨a, b, ks, ls, r, rfl, rfl, ha, hb, he, q⟩ := h
  cases rx
  cases ry
  exact dics_run I (by omega) ha hb he _ _ ⟨.bl _, H, I, rfl, q⟩
end
end EqX

set_option Elab.async false
set_option linter.all false
set_option maxRecDepth 100000
set_option maxHeartbeats 2000000
namespace MulX
open PySem PySem.Spec PyProof.Rows L2
theorem tup_mul1 (l : Addr) (items : Array Value) (n : Nat) (dd : Option Addr) (sl : Array (Option Value)) (u : Tok) (hne : items.isEmpty = false) :
    Meets (Builtin.«tuple.__mul__» ⟨[.ref l, .int 1 u], []⟩) (fun _ R s => s.heap.get? l = some { cls := .type "tuple", dict := dd, data := .seq items n, slots := sl } ∧ R (.ok (.ret (Value.ref l))) s) :=
  .of_wp fun prog w A R s h => by
    obtain ⟨hp, g, d, tk, os⟩ := s
    obtain ⟨hl, h⟩ := h
    have f1 := AutoSeq1.idx_int
    have c1 : (items.isEmpty || (1 : Int) == 1) = true := by rw [hne]; rfl
    have c0 : (decide ((1 : Int) < -(2 ^ 63)) || decide ((1 : Int) ≥ 2 ^ 63)) = false := by decide
    wp_walk using wpAny_loadPart' hl
    repeat (first
      | (refine wpAny_ite_false (decide_eq_false (by rw [c0]; exact Bool.false_ne_true)) ?_; wp_walk using wpAny_loadPart' hl)
      | (refine wpAny_ite_true (decide_eq_true (by rw [c1])) ?_; wp_walk using wpAny_loadPart' hl))
    exact ⟨_, rfl, h⟩
theorem tup_mul0 (l : Addr) (items : Array Value) (n : Nat) (dd : Option Addr) (sl : Array (Option Value)) (u : Tok) (hne : items.isEmpty = false) :
    Meets (Builtin.«tuple.__mul__» ⟨[.ref l, .int 0 u], []⟩) (fun _ R s => s.heap.get? l = some { cls := .type "tuple", dict := dd, data := .seq items n, slots := sl } ∧
      R (.ok (.ret (Value.ref s.heap.objs.size))) { s with heap := s.heap.push { cls := Value.type "tuple", data := Data.seq #[] }, toks := s.toks }) :=
  .of_wp fun prog w A R s h => by
    obtain ⟨hp, g, d, tk, os⟩ := s
    obtain ⟨hl, h⟩ := h
    have f1 := AutoSeq1.idx_int
    have c1 : (items.isEmpty || (0 : Int) == 1) = false := by rw [hne]; rfl
    have c2 : (decide ((0 : Int) ≤ 0) || items.isEmpty) = true := rfl
    have c0 : (decide ((0 : Int) < -(2 ^ 63)) || decide ((0 : Int) ≥ 2 ^ 63)) = false := by decide
    wp_walk using wpAny_loadPart' hl
    repeat (first
      | (refine wpAny_ite_false (decide_eq_false (by rw [c0]; exact Bool.false_ne_true)) ?_; wp_walk using wpAny_loadPart' hl)
      | (refine wpAny_ite_false (decide_eq_false (by rw [c1]; exact Bool.false_ne_true)) ?_; wp_walk using wpAny_loadPart' hl)
      | (refine wpAny_ite_true (decide_eq_true (by rw [c2])) ?_; wp_walk using wpAny_loadPart' hl))
    exact ⟨_, rfl, h⟩
/-- a tuple, not at all or once -/
def rRep01 (K : PySem.W.Frag) : R2 := fun x y H Q => ∃ l xs, x = .ref l ∧ SqT K H l xs ∧ xs ≠ [] ∧ ((y = .int 1 ∧ Q (.ref l) H) ∨ (y = .int 0 ∧ ∀ p, H p = none → Q (.ref p) (upd H p (.tup []))))
/-- a list k times -/
def rRepL (K : PySem.W.Frag) : R2 := fun x y H Q => ∃ l k xs, x = .ref l ∧ y = .int k ∧ SqL K H l xs ∧ xs ≠ [] ∧ 0 ≤ k ∧ k ≤ 1000 ∧ xs.length ≤ 1000 ∧ ∀ p, H p = none → Q (.ref p) (upd H p (.lst (List.replicate k.toNat xs).flatten))
section
variable {X : Cx}
theorem op_rep01 : OpR X (binaryOp .Mult) (rRep01 X.K) := by
  intro pins s σ H x y v u Q I rx ry h
  obtain ⟨l, xs, rfl, hT, hne, h⟩ := h
  cases rx
  obtain ⟨its, r, ⟨⟨cls, dd, data, sl⟩, ho, hc, n, hd⟩, hs⟩ := I.tuple hT
  simp only at hc hd
  subst hc hd
  have hle : its.length = xs.length := r.length.symm
  have hi : its.toArray.isEmpty = false := by
    cases its with
    | nil => exact absurd (List.eq_nil_of_length_eq_zero hle.symm) hne
    | cons a b => rfl
  rcases h with ⟨rfl, q⟩ | ⟨rfl, q⟩
  · obtain ⟨t, rfl⟩ := ry
    refine wpAny_binaryOp_repeat_ref (T := "tuple") (U := "int") (by decide) ⟨_, ho, rfl⟩ (fun s' => typeIs_int s' 1 t) noFill_tuple_mul F.fills_int_mul F.slot_int_rmul repeat_tuple F.slot_int_index.lookup
      (call_meets F.slot_int_rmul (typeIs_int s 1 t) F.entry_int_rmul (F.args_int_rmul_2 _ _) (int_rmul_tuple 1 t l its.toArray n dd sl)
        ⟨ho, rfl, ⟨_, ho, rfl⟩, call_meets F.slot_tuple_mul ⟨_, ho, rfl⟩ F.entry_tuple_mul (F.args_tuple_mul_2 _ _) (tup_mul1 l its.toArray n dd sl t hi) ⟨ho, ?_⟩⟩)
    exact ⟨.ref l, H, I, rfl, q⟩
  · obtain ⟨t, rfl⟩ := ry
    refine wpAny_binaryOp_repeat_ref (T := "tuple") (U := "int") (by decide) ⟨_, ho, rfl⟩ (fun s' => typeIs_int s' 0 t) noFill_tuple_mul F.fills_int_mul F.slot_int_rmul repeat_tuple F.slot_int_index.lookup
      (call_meets F.slot_int_rmul (typeIs_int s 0 t) F.entry_int_rmul (F.args_int_rmul_2 _ _) (int_rmul_tuple 0 t l its.toArray n dd sl)
        ⟨ho, rfl, ⟨_, ho, rfl⟩, call_meets F.slot_tuple_mul ⟨_, ho, rfl⟩ F.entry_tuple_mul (F.args_tuple_mul_2 _ _) (tup_mul0 l its.toArray n dd sl t hi) ⟨ho, ?_⟩⟩)
    refine ⟨.ref s.heap.objs.size, _, I.laid (t' := s.toks) (o := .tup []) (fun b ob q => Heap.get?_push_of_some _ q) (Nat.le_refl _) ?_, rfl, q _ (I.hok.fresh (Nat.le_refl _))⟩
    exact ⟨Nat.zero_le _, _, .nil, IsTup.new _ _⟩
theorem op_repL : OpR X (binaryOp .Mult) (rRepL X.K) := by
  intro pins s σ H x y v u Q I rx ry h
  obtain ⟨l, k, xs, rfl, rfl, hL, hne, h1, h2, hz, q⟩ := h
  cases rx
  obtain ⟨t, rfl⟩ := ry
  obtain ⟨its, r, ⟨⟨cls, dd, data, sl⟩, n, ho, hc, hdn, hd⟩, hlen⟩ := I.list hL
  have hc1 : cls = Value.type "list" := hc
  have hd1 : data = Data.seq its.toArray n := hd
  subst hc1 hd1
  have hle : its.length = xs.length := r.length.symm
  have hi : its.toArray.isEmpty = false := by
    cases its with
    | nil => exact absurd (List.eq_nil_of_length_eq_zero hle.symm) hne
    | cons a b => rfl
  have hk : k.toNat ≤ 1000 := by omega
  have hm : its.toArray.size * k.toNat ≤ 1000 * 1000 := by
    rw [List.size_toArray, hle]
    exact Nat.mul_le_mul hz hk
  have hsl := sizeLine_eq
  refine wpAny_binaryOp_repeat_ref (T := "list") (U := "int") (by decide) ⟨_, ho, rfl⟩ (fun s' => typeIs_int s' k t) noFill_list_mul F.fills_int_mul F.slot_int_rmul repeat_list F.slot_int_index.lookup
    (call_meets F.slot_int_rmul (typeIs_int s k t) F.entry_int_rmul (F.args_int_rmul_2 _ _) (lm_int_rmul_list_any k t l its.toArray n dd sl)
      ⟨ho, rfl, ⟨_, ho, rfl⟩, call_meets F.slot_list_mul ⟨_, ho, rfl⟩ F.entry_list_mul (F.args_list_mul_2 _ _)
        (lm_list_mul_any l its.toArray n dd sl k t (by simp [Builtin.List.listFitsIndex]; omega) (by omega) (by simp only [Builtin.List.listTooLong, decide_eq_true_eq]; omega)) ⟨ho, ?_⟩⟩)
  rw [hi]
  rw [show (if false = true then 0 else k.toNat) = k.toNat from if_neg Bool.false_ne_true, size_rep]
  refine ⟨.ref s.heap.objs.size, _, I.laid (t' := s.toks) (o := .lst (List.replicate k.toNat xs).flatten) (fun b ob q => Heap.get?_push_of_some _ q) (Nat.le_refl _) ⟨?_, _, 0, r.rep k.toNat, Heap.get?_push_size _ rfl⟩, rfl, q _ (I.hok.fresh (Nat.le_refl _))⟩
  rw [PyProof.Rows.lm_len_rep_flat]
  have a1 : k.toNat * xs.length ≤ 1000 * 1000 := Nat.mul_le_mul (by omega) hz
  omega
end
end MulX

set_option Elab.async false
set_option linter.all false
set_option maxRecDepth 100000
set_option maxHeartbeats 2000000
namespace OwnOp
open PySem PySem.Spec PyProof.Rows L2
/-! ## == and != of two instances, perhaps of two classes -/
section
variable {X : Cx} {CX : CXT} {k : Nat} {f C : Addr} {fd : FuncData} {ps : List Str} {sp : Sp} {E : XK}
def rOwn2 (K : PySem.W.Frag) (C : Addr) (sp : Sp) (E : XK) (g : Bool → Bool) : R2 := fun x y H Q => ∃ a b dx fs D dy gs, x = .ref a ∧ y = .ref b ∧ H a = some (.ins C dx fs) ∧ H b = some (.ins D dy gs) ∧ PySem.W.notFirst K C (.ref D) = true ∧
  sp [x, y] H (fun v H' => ∃ b, v = .bl b ∧ Q (.bl (g b)) H') E
theorem op_eq_own2 (F : FnOk X.prog X.w X.K X.mg X.base CX k f fd ps sp) (hr : Room k X.A) (m : Spm X.K C "__eq__" f) (hb : Binds X.K fd ps []) (hx : Passes CX X E) : OpR X (compareOp .Eq) (rOwn2 X.K C sp E id) := by
  intro pins s σ H x y v u Q I rx ry hq
  obtain ⟨a, b, dx, fs, D, dy, gs, rfl, rfl, ha, hb', hD, q⟩ := hq
  cases rx
  cases ry
  obtain ⟨mA, J, _⟩ := ins_get I.hok ha
  obtain ⟨mB, J', _⟩ := ins_get I.hok hb'
  obtain ⟨od, J, _⟩ := J.look
  obtain ⟨od', J', _⟩ := J'.look
  obtain ⟨mm, hF⟩ := I.fr
  show wpAny (model X.prog X.w) X.A (richCompare .Eq (.ref a) (.ref b)) (EP X pins σ Q) X.xe s
  refine PySem.W.cmp_K (op := .Eq) (tb := .ref D) (Nat.lt_of_succ_lt (hu_of hr)) hF I.ok.mod.kin J J'.type hD m.hs m.hf ?_
  refine thn (run_fn (us := [.ref a, .ref b]) (vs := [.ref a, .ref b]) F hr hb .nil hx I (.cons rfl (.cons rfl .nil)) q) fun u' s' e => ?_
  obtain ⟨b', rfl, e'⟩ := back_bool e
  exact e'
theorem op_ne_own2 (F : FnOk X.prog X.w X.K X.mg X.base CX k f fd ps sp) (hr : Room (k + 1) X.A) (m : Spm X.K C "__eq__" f) (hb : Binds X.K fd ps []) (hx : Passes CX X E)
    (hm : PySem.W.mroIn X.K C (.type "object") = some true) (hn : PySem.W.findIn X.K (.ref C) "__ne__" = some (some (.builtin "object.__ne__"))) : OpR X (compareOp .NotEq) (rOwn2 X.K C sp E not) := by
  intro pins s σ H x y v u Q I rx ry hq
  obtain ⟨a, b, dx, fs, D, dy, gs, rfl, rfl, ha, hb', hD, q⟩ := hq
  cases rx
  cases ry
  obtain ⟨mA, J, _⟩ := ins_get I.hok ha
  obtain ⟨mB, J', _⟩ := ins_get I.hok hb'
  obtain ⟨od, J, _⟩ := J.look
  obtain ⟨od', J', _⟩ := J'.look
  have one : wpAny (model X.prog X.w) X.A (tryCompare (.ref a) "__ne__" (.ref b)) (fun r s' => ∃ v, r = some v ∧ EP X pins σ Q v s') X.xe s := by
    refine ne_call (by have := hu_of hr; omega) I.kIn J hm hn m (thn (run_at (us := [.ref a, .ref b]) (vs := [.ref a, .ref b]) F hr.in1 rfl hb hx I (.cons rfl (.cons rfl .nil)) q) fun u' s' e => ?_)
    obtain ⟨b', rfl, e'⟩ := back_bool e
    exact ⟨b', rfl, e'⟩
  show wpAny (model X.prog X.w) X.A (richCompare .NotEq (.ref a) (.ref b)) (EP X pins σ Q) X.xe s
  unfold richCompare
  simp only [oneThing_ref]
  refine wpAny_holding (wpAny_bind (wpAny_cRoomFor (Nat.lt_of_succ_lt (hu_of hr)) ?_))
  refine wpAny_bind (J.type.here (wpAny_bind (J'.type.here ?_)))
  rw [cmpInfo_NotEq]
  dsimp only
  split
  · rename_i q'
    have e : PySem.W.subIn X.K (.ref D) (.ref C) = some false := by
      rcases Bool.or_eq_true_iff.mp hD with e | e
      · rw [beq_iff_eq.mp e] at q'
        simp at q'
      · exact beq_iff_eq.mp e
    refine wpAny_bind ((PySem.W.looks_subIn I.kIn e).here ?_)
    simp only [Bool.false_eq_true, if_false]
    refine wpAny_bind (thn one fun r s' z => ?_)
    obtain ⟨v, rfl, hq⟩ := z
    exact wpAny_pure hq
  · refine wpAny_bind (wpAny_pure ?_)
    simp only [Bool.false_eq_true, if_false]
    refine wpAny_bind (thn one fun r s' z => ?_)
    obtain ⟨v, rfl, hq⟩ := z
    exact wpAny_pure hq
theorem notFirst_self {K : PySem.W.Frag} {C : Addr} : PySem.W.notFirst K C (.ref C) = true := by
  unfold PySem.W.notFirst
  simp
theorem notFirst_sub {K : PySem.W.Frag} {C D : Addr} (h : PySem.W.subIn K (.ref D) (.ref C) = some false) : PySem.W.notFirst K C (.ref D) = true := by
  unfold PySem.W.notFirst
  rw [h]
  simp
end
/-! ## one of two readings -/
def tOr (t u : TE) : TE := fun σ H Q => t σ H Q ∨ u σ H Q
theorem pe_or2 {X : Cx} {e : Expr} {t u : TE} (h1 : PE X e t) (h2 : PE X e u) : PE X e (tOr t u) := ⟨fun pins s σ H Q I h => h.elim (h1.run pins s σ H Q I) (h2.run pins s σ H Q I)⟩
end OwnOp

set_option Elab.async false
set_option linter.all false
set_option maxRecDepth 100000
set_option maxHeartbeats 2000000
namespace KW
open PySem PySem.Spec PyProof.Rows L2 LamX OwnOp EqX
/-! ## data of tuples that stand in the heap -/
mutual
inductive Dh (H : Hp) : V → PyData → Prop
  | non : Dh H .non .none
  | bl (b : Bool) : Dh H (.bl b) (.bool b)
  | int (i : Int) : Dh H (.int i) (.int i)
  | str (x : Str) : Dh H (.str x) (.str x)
  | tup {a : Addr} {xs : List V} {ds : List PyData} : H a = some (.tup xs) → Dhs H xs ds → Dh H (.ref a) (.tuple ds)
inductive Dhs (H : Hp) : List V → List PyData → Prop
  | nil : Dhs H [] []
  | cons {v : V} {vs : List V} {d : PyData} {ds : List PyData} : Dh H v d → Dhs H vs ds → Dhs H (v :: vs) (d :: ds)
end
/-- tuples stay -/
def TSame (H H' : Hp) : Prop := ∀ b xs, H b = some (.tup xs) → H' b = some (.tup xs)
theorem TSame.of {H H' : Hp} (s : Same H H') : TSame H H' := fun b xs e => s b _ e
theorem TSame.trans {H H1 H2 : Hp} (a : TSame H H1) (b : TSame H1 H2) : TSame H H2 := fun c xs e => b c xs (a c xs e)
mutual
theorem Dh.mono {H H' : Hp} (s : TSame H H') : ∀ (d : PyData) (v : V), Dh H v d → Dh H' v d
  | .none, _, h => by cases h; exact .non
  | .bool _, _, h => by cases h; exact .bl _
  | .int _, _, h => by cases h; exact .int _
  | .str _, _, h => by cases h; exact .str _
  | .list _, _, h => by cases h
  | .dict _, _, h => by cases h
  | .tuple ds, _, h => by
    cases h with
    | tup e hs => exact .tup (s _ _ e) (Dhs.mono s ds _ hs)
theorem Dhs.mono {H H' : Hp} (s : TSame H H') : ∀ (ds : List PyData) (vs : List V), Dhs H vs ds → Dhs H' vs ds
  | [], _, h => by cases h; exact .nil
  | d :: ds, _, h => by
    cases h with
    | cons a b => exact .cons (Dh.mono s d _ a) (Dhs.mono s ds _ b)
end
mutual
theorem Dh.fn {H : Hp} : ∀ (d e : PyData) (v : V), Dh H v d → Dh H v e → d = e
  | .none, _, _, h, g => by cases h; cases g; rfl
  | .bool _, _, _, h, g => by cases h; cases g; rfl
  | .int _, _, _, h, g => by cases h; cases g; rfl
  | .str _, _, _, h, g => by cases h; cases g; rfl
  | .list _, _, _, h, _ => by cases h
  | .dict _, _, _, h, _ => by cases h
  | .tuple ds, _, _, h, g => by
    cases h with
    | tup e hs =>
      cases g with
      | @tup _ _ ds2 e2 hs2 =>
        rw [e] at e2
        cases e2
        rw [Dhs.fn ds ds2 _ hs hs2]
theorem Dhs.fn {H : Hp} : ∀ (ds es : List PyData) (vs : List V), Dhs H vs ds → Dhs H vs es → ds = es
  | [], _, _, h, g => by cases h; cases g; rfl
  | d :: ds, _, _, h, g => by
    cases h with
    | cons a b =>
      cases g with
      | cons a2 b2 => rw [Dh.fn d _ _ a a2, Dhs.fn ds _ _ b b2]
end
mutual
theorem Dh.dp {K : PySem.W.Frag} {H : Hp} : ∀ (d : PyData) (v : V), Dh H v d → Dp K H v d
  | .none, _, h => by cases h; exact .non
  | .bool _, _, h => by cases h; exact .bl _
  | .int _, _, h => by cases h; exact .int _
  | .str _, _, h => by cases h; exact .str _
  | .list _, _, h => by cases h
  | .dict _, _, h => by cases h
  | .tuple ds, _, h => by
    cases h with
    | tup e hs => exact .tup (SqT.of e) (Dhs.dp ds _ hs)
theorem Dhs.dp {K : PySem.W.Frag} {H : Hp} : ∀ (ds : List PyData) (vs : List V), Dhs H vs ds → DpAll K H vs ds
  | [], _, h => by cases h; exact .nil
  | d :: ds, _, h => by
    cases h with
    | cons a b => exact .cons (Dh.dp d _ a) (Dhs.dp ds _ b)
end
mutual
theorem eqv_refl : ∀ (d : PyData), d.canLay0 = true → PyData.eqv d d = true
  | .none, _ => by simp [PyData.eqv]
  | .bool _, _ => by simp [PyData.eqv]
  | .int _, _ => by simp [PyData.eqv]
  | .str _, _ => by simp [PyData.eqv]
  | .list xs, h => by
    have h' : PyData.canLayAll0 xs = true := h
    simp only [PyData.eqv]
    exact eqvAll_refl xs h'
  | .tuple xs, h => by
    have h' : PyData.canLayAll0 xs = true := h
    simp only [PyData.eqv]
    exact eqvAll_refl xs h'
  | .dict _, h => by cases h
theorem eqvAll_refl : ∀ (ds : List PyData), PyData.canLayAll0 ds = true → PyData.eqvAll ds ds = true
  | [], _ => by simp [PyData.eqvAll]
  | d :: ds, h => by
    have h' : (d.canLay0 && PyData.canLayAll0 ds) = true := h
    rw [Bool.and_eq_true] at h'
    simp only [PyData.eqvAll]
    rw [eqv_refl d h'.1, eqvAll_refl ds h'.2]
    rfl
end
/-! ## what the law draws -/
structure Bits where
  b0 : Int
  b1 : Int
  h : Bool
  n : Bool
  w : Bool
def bitsOf (z : Int) : Bits := ⟨z % 2, z / 2 % 2, decide (z / 4 % 2 = 1), decide (z / 8 % 2 = 1), decide (z / 16 % 2 = 0)⟩
def sRound : Str := "round"
def histP (b : Bits) : PyData := .tuple (if b.h then [.tuple [.str sRound]] else [])
def cellP (b : Bits) : PyData := .tuple [.tuple [.int 0, .int b.b0], .tuple [.int 0, .int 0], .none, .none]
def stateP (b : Bits) : PyData := .tuple [.tuple [.tuple [.tuple [cellP b], .int 0]], .int b.b1, .tuple [.bool false]]
def statesP (b : Bits) : PyData := .list (if b.n then [stateP b, stateP b] else [stateP b])
theorem strOk_round : PySem.PyData.strOk sRound = true := by decide +kernel
theorem sh_hist (b : Bits) : SeqAt.shaped (histP b) = true := by
  unfold histP
  cases b.h with
  | false => rfl
  | true =>
    show (((PySem.PyData.strOk sRound && true) && true) && decide _) = true
    rw [strOk_round]
    rfl
theorem lay_state (b : Bits) : (stateP b).canLay0 = true := rfl
theorem sh_states (b : Bits) : SeqAt.shaped (statesP b) = true := by
  unfold statesP
  cases b.n <;> rfl
theorem sh_state1 (b : Bits) : SeqAt.shaped (.list [stateP b]) = true := rfl
/-- the list of the states -/
def statesV (b : Bits) (v : V) : List V := if b.n then [v, v] else [v]
theorem dp_states {K : PySem.W.Frag} {H : Hp} {b : Bits} {l : Addr} {v : V} (h : H l = some (.lst (statesV b v))) (d : Dh H v (stateP b)) : Dp K H (.ref l) (statesP b) := by
  refine .lst (SqL.of h) ?_
  unfold statesV
  have k := Dh.dp (K := K) _ _ d
  cases b.n
  · exact .cons k .nil
  · exact .cons k (.cons k .nil)
theorem dp_state1 {K : PySem.W.Frag} {H : Hp} {b : Bits} {l : Addr} {v : V} (h : H l = some (.lst [v])) (d : Dh H v (stateP b)) : Dp K H (.ref l) (.list [stateP b]) := .lst (SqL.of h) (.cons (Dh.dp _ _ d) .nil)
/-- the classes of answers -/
inductive W3
  | sa | ha | si
  deriving DecidableEq
def W3.word : W3 → Str
  | .sa => "safe"
  | .ha => "harmed"
  | .si => "sight"
def kOld : Key := .inr "old"
def kWorn : Key := .inr "worn"
def seenK (v : V) : List (Key × V) := [(kOld, v)]
def unseenK (b : Bits) (v : V) : List (Key × V) := if b.w then [(kWorn, v)] else []
/-- at p a list of the parts of an answer: xs its items -/
inductive PartsAt (H : Hp) (p : Addr) : W3 → Bits → List V → Prop
  | sa {b : Bits} {l : Addr} {v : V} : H p = some (.lst [.ref l]) → H l = some (.lst (statesV b v)) → Dh H v (stateP b) → PartsAt H p .sa b [.ref l]
  | ha {b : Bits} {v : V} : H p = some (.lst [v]) → Dh H v (histP b) → PartsAt H p .ha b [v]
  | si {b : Bits} {l s u : Addr} {v h : V} : H p = some (.lst [.ref l, .ref s, .ref u]) → H l = some (.lst [v]) → Dh H v (stateP b) → H s = some (.dK (seenK h)) → H u = some (.dK (unseenK b h)) → Dh H h (histP b) → PartsAt H p .si b [.ref l, .ref s, .ref u]
/-- the classes -/
structure C3 where
  sa : Addr
  ha : Addr
  si : Addr
/-- at p an answer of a class -/
inductive AnsAt (C : C3) (H : Hp) (p : Addr) : W3 → Bits → Prop
  | sa {b : Bits} {dx l : Addr} {v : V} : H p = some (.ins C.sa dx [("states", .ref l)]) → H l = some (.lst (statesV b v)) → Dh H v (stateP b) → AnsAt C H p .sa b
  | ha {b : Bits} {dx : Addr} {v : V} : H p = some (.ins C.ha dx [("history", v)]) → Dh H v (histP b) → AnsAt C H p .ha b
  | si {b : Bits} {dx l s u : Addr} {v h : V} : H p = some (.ins C.si dx [("states", .ref l), ("seen", .ref s), ("unseen", .ref u)]) → H l = some (.lst [v]) → Dh H v (stateP b) → H s = some (.dK (seenK h)) → H u = some (.dK (unseenK b h)) → Dh H h (histP b) → AnsAt C H p .si b
theorem Dh.same {H H' : Hp} {v : V} {d : PyData} (s : Same H H') (h : Dh H v d) : Dh H' v d := Dh.mono (.of s) _ _ h
theorem PartsAt.same {H H' : Hp} {p : Addr} {w : W3} {b : Bits} {xs : List V} (s : Same H H') (h : PartsAt H p w b xs) : PartsAt H' p w b xs := by
  cases h with
  | sa a1 a2 a3 => exact .sa (s _ _ a1) (s _ _ a2) (a3.same s)
  | ha a1 a2 => exact .ha (s _ _ a1) (a2.same s)
  | si a1 a2 a3 a4 a5 a6 => exact .si (s _ _ a1) (s _ _ a2) (a3.same s) (s _ _ a4) (s _ _ a5) (a6.same s)
theorem AnsAt.same {C : C3} {H H' : Hp} {p : Addr} {w : W3} {b : Bits} (s : Same H H') (h : AnsAt C H p w b) : AnsAt C H' p w b := by
  cases h with
  | sa a1 a2 a3 => exact .sa (s _ _ a1) (s _ _ a2) (a3.same s)
  | ha a1 a2 => exact .ha (s _ _ a1) (a2.same s)
  | si a1 a2 a3 a4 a5 a6 => exact .si (s _ _ a1) (s _ _ a2) (a3.same s) (s _ _ a4) (s _ _ a5) (a6.same s)
/-! ## what == tells of two of one class -/
def eqH (b c : Bits) : Bool := PyData.eqv (histP b) (histP c)
def eqS1 (b c : Bits) : Bool := PyData.eqv (.list [stateP b]) (.list [stateP c])
def eqSs (b c : Bits) : Bool := PyData.eqv (statesP b) (statesP c)
def eqU (b c : Bits) : Bool := match b.w, c.w with
  | true, true => eqH b c
  | false, false => true
  | _, _ => false
def eqW : W3 → Bits → Bits → Bool
  | .sa, b, c => eqSs b c
  | .ha, b, c => eqH b c
  | .si, b, c => eqS1 b c && (eqH b c && eqU b c)
theorem eqH_refl (b : Bits) : eqH b b = true := eqv_refl _ (SeqAt.canLay_of_shaped (sh_hist b))
theorem eqSs_refl (b : Bits) : eqSs b b = true := eqv_refl _ (SeqAt.canLay_of_shaped (sh_states b))
theorem eqS1_refl (b : Bits) : eqS1 b b = true := eqv_refl _ (SeqAt.canLay_of_shaped (sh_state1 b))
theorem eqU_refl (b : Bits) : eqU b b = true := by
  unfold eqU
  cases b.w
  · rfl
  · exact eqH_refl b
theorem eqW_refl (w : W3) (b : Bits) : eqW w b b = true := by
  cases w
  · exact eqSs_refl b
  · exact eqH_refl b
  · show (eqS1 b b && (eqH b b && eqU b b)) = true
    rw [eqS1_refl, eqH_refl, eqU_refl]
    rfl
theorem dh_seen {K : PySem.W.Frag} {H : Hp} {b c : Bits} {x y : V} (hx : Dh H x (histP b)) (hy : Dh H y (histP c)) : DHit K H (seenK y) (seenK x) (eqH b c) := by
  have k := DHit.hit (K := K) (H := H) (ls := seenK y) (k := kOld) (v := x) (u := y) (r := []) (valV_pos rfl) (Dh.dp _ _ hx) (Dh.dp _ _ hy) (sh_hist b) (sh_hist c) .nil
  rw [Bool.and_true] at k
  exact k
theorem dh_unseen {K : PySem.W.Frag} {H : Hp} {b c : Bits} {x y : V} (hx : Dh H x (histP b)) (hy : Dh H y (histP c)) : ∃ r, DHit K H (unseenK c y) (unseenK b x) r ∧ ((unseenK b x).length == (unseenK c y).length && r) = eqU b c := by
  unfold unseenK eqU
  cases b.w with
  | false =>
    cases c.w with
    | false => exact ⟨true, .nil, rfl⟩
    | true => exact ⟨true, .nil, rfl⟩
  | true =>
    cases c.w with
    | false => exact ⟨false, .miss rfl, rfl⟩
    | true =>
      have k := DHit.hit (K := K) (H := H) (ls := [(kWorn, y)]) (k := kWorn) (v := x) (u := y) (r := []) (valV_pos rfl) (Dh.dp _ _ hx) (Dh.dp _ _ hy) (sh_hist b) (sh_hist c) .nil
      rw [Bool.and_true] at k
      exact ⟨_, k, rfl⟩
theorem unseen_inj {b c : Bits} {x : V} {y : V} (e : unseenK b x = unseenK c y) (h : x = y) : b.w = c.w := by
  unfold unseenK at e
  cases p : b.w <;> cases q : c.w <;> first | rfl | (rw [p, q] at e; cases e)
theorem eqU_same {H : Hp} {b c : Bits} {x y : V} (hx : Dh H x (histP b)) (hy : Dh H y (histP c)) (e : unseenK b x = unseenK c y) : eqU b c = true := by
  unfold unseenK at e
  unfold eqU
  cases p : b.w with
  | false =>
    cases q : c.w with
    | false => rfl
    | true => rw [p, q] at e; cases e
  | true =>
    cases q : c.w with
    | false => rw [p, q] at e; cases e
    | true =>
      rw [p, q] at e
      have e1 : x = y := by
        have := (List.cons.inj e).1
        exact (Prod.mk.inj this).2
      subst e1
      have := Dh.fn _ _ _ hx hy
      show PyData.eqv (histP b) (histP c) = true
      rw [← this]
      exact eqv_refl _ (SeqAt.canLay_of_shaped (sh_hist b))
/-- two dicts as items -/
theorem ei_seen {K : PySem.W.Frag} {H : Hp} {b c : Bits} {p q : Addr} {x y : V} (hp : H p = some (.dK (seenK x))) (hq : H q = some (.dK (seenK y))) (hx : Dh H x (histP b)) (hy : Dh H y (histP c)) : EqI K H (.ref p) (.ref q) (eqH b c) := by
  by_cases e : p = q
  · subst e
    rw [hp] at hq
    have e1 : x = y := by
      have := HO.dK.inj (Option.some.inj hq)
      exact (Prod.mk.inj (List.cons.inj this).1).2
    subst e1
    have := Dh.fn _ _ _ hx hy
    have k : eqH b c = true := by
      unfold eqH
      rw [← this]
      exact eqv_refl _ (SeqAt.canLay_of_shaped (sh_hist b))
    rw [k]
    exact .same
  · exact .dic (ks := seenK x) (ls := seenK y) e hp hq (dh_seen hx hy)
theorem ei_unseen {K : PySem.W.Frag} {H : Hp} {b c : Bits} {p q : Addr} {x y : V} (hp : H p = some (.dK (unseenK b x))) (hq : H q = some (.dK (unseenK c y))) (hx : Dh H x (histP b)) (hy : Dh H y (histP c)) : EqI K H (.ref p) (.ref q) (eqU b c) := by
  by_cases e : p = q
  · subst e
    rw [hp] at hq
    rw [eqU_same hx hy (HO.dK.inj (Option.some.inj hq))]
    exact .same
  · obtain ⟨r, k, e2⟩ := dh_unseen (K := K) hx hy
    rw [← e2]
    exact .dic e hp hq k
/-- parts == others -/
theorem parts_eq {K : PySem.W.Frag} {H : Hp} {p q : Addr} {w : W3} {b c : Bits} {xs ys : List V} (hp : PartsAt H p w b xs) (hq : PartsAt H q w c ys) : SqL K H p xs ∧ SqL K H q ys ∧ EqIs K H xs ys (eqW w b c) := by
  cases hp with
  | sa a1 a2 a3 =>
    cases hq with
    | sa c1 c2 c3 =>
      refine ⟨SqL.of a1, SqL.of c1, ?_⟩
      have k := EqIs.cons (EqI.dat (K := K) (dp_states a2 a3) (dp_states c2 c3) (sh_states b) (sh_states c)) .nil
      rw [Bool.and_true] at k
      exact k
  | ha a1 a2 =>
    cases hq with
    | ha c1 c2 =>
      refine ⟨SqL.of a1, SqL.of c1, ?_⟩
      have k := EqIs.cons (EqI.dat (K := K) (Dh.dp _ _ a2) (Dh.dp _ _ c2) (sh_hist b) (sh_hist c)) .nil
      rw [Bool.and_true] at k
      exact k
  | si a1 a2 a3 a4 a5 a6 =>
    cases hq with
    | si c1 c2 c3 c4 c5 c6 =>
      refine ⟨SqL.of a1, SqL.of c1, ?_⟩
      have k := EqIs.cons (EqI.dat (K := K) (dp_state1 a2 a3) (dp_state1 c2 c3) (sh_state1 b) (sh_state1 c)) (.cons (ei_seen a4 c4 a6 c6) (.cons (ei_unseen a5 c5 a6 c6) .nil))
      rw [Bool.and_true] at k
      exact k
end KW

set_option Elab.async false
set_option linter.all false
set_option maxRecDepth 100000
set_option maxHeartbeats 2000000
namespace KW
open PySem PySem.Spec PyProof.Rows L2 LamX OwnOp
/-! ## the law's drawing -/
theorem okInts (ns : List Int) : (ns.map V.int).all okV = true := okV_map ns
def cellsOf (ns : List Int) : List Int := match ns with | [] => [5] | n :: r => n :: r
def tCells (K : PySem.W.Frag) : TE := fun σ H Q => ∃ (a : Addr) (ns : List Int), σ[0]? = some (some (.ref a)) ∧ SqL K H a (ns.map V.int) ∧ ns.length ≤ 63 ∧ ∀ (H' : Hp) (c : Addr) (ns2 : List Int), Same H H' → SqL K H' c (ns2.map V.int) → ns2 = cellsOf ns → ns2 ≠ [] → ns2.length ≤ 63 → Q (.ref c) H'
theorem cut63 {xs : List V} (h : xs.length ≤ 63) : cutV xs none (some 63) = xs := by
  unfold cutV
  have e : HT.sIx xs.length xs.length (some 63) = xs.length := by
    show (if (63 : Int) < 0 then ((63 : Int) + (xs.length : Int)).toNat else min (63 : Int).toNat xs.length) = xs.length
    rw [if_neg (by decide)]
    show min 63 xs.length = xs.length
    omega
  rw [e, HT.sIx_none, List.drop_zero, Nat.sub_zero, List.take_length]
theorem cells_imp {X : Cx} {e : Expr} (h : PE X e (tIf (tTest (tOp (rNeD X.K) (tVar 0) (tLst tNil))) (tSl (rSlL X.K) (tVar 0) tNoPart (tPart (tC (.int 63)))) (tLst (tCons (tC (.int 5)) tNil)))) : PE X e (tCells X.K) := by
  refine ⟨fun pins s σ H Q I hh => h.run pins s σ H Q I ?_⟩
  obtain ⟨a, ns, h0, ha, hl, k⟩ := hh
  refine ⟨_, h0, by decide, fun p hp => ?_⟩
  have s1 := same_upd (o := HO.lst []) hp
  refine ⟨.list ((ns.map V.int).map toPy), .list (([] : List V).map toPy), .lst (s1.seq ha) (dpAll_ok (okInts ns)), .lst (SqL.of upd_same) .nil, shaped_lst (okInts ns), shaped_lst rfl, _, rfl, ?_⟩
  rw [eqv_lst (okInts ns) rfl]
  cases ns with
  | nil =>
    refine iteF ?_
    refine ⟨by decide, fun c hc => ?_⟩
    exact k _ c [5] (s1.trans (same_upd hc)) (SqL.of upd_same) rfl (by simp) (by decide)
  | cons n ns =>
    refine iteT ?_
    refine ⟨_, h0, 63, rfl, a, _, rfl, s1.seq ha, fun c hc => ?_⟩
    have e := cut63 (xs := (n :: ns).map V.int) (by rw [List.length_map]; exact hl)
    exact k _ c (n :: ns) (s1.trans (same_upd hc)) (by rw [e]; exact SqL.of upd_same) rfl (by simp) hl
def mixOf (cell total i : Int) : Int :=
  let blend := ((cell % 1000003 + 977 * i) * 48271 + 31 * (cell / 1000003 % 999983) + total) % 2147483647
  (blend * (blend + 31 * i + 7)) % 2147483629 * 65537 + cell / 1000003 % 999983
/-- what _law_number tells -/
def numOf (ns : List Int) (i : Int) : Int := mixOf ((cellsOf ns).getD (i % ((cellsOf ns).length : Int)).toNat 0 + 13 * (i / ((cellsOf ns).length : Int))) ((cellsOf ns).sum % 65521) i
def spNumber (K : PySem.W.Frag) : Sp := fun vs H Q _ => ∃ (a : Addr) (ns : List Int) (i : Int), vs = [.ref a, .int i] ∧ SqL K H a (ns.map V.int) ∧ ns.length ≤ 63 ∧ 0 ≤ i ∧ i < 10000 ∧ ∀ (H' : Hp), Same H H' → Q (.int (numOf ns i)) H'
section
variable {P : Program} {w : World} {K : PySem.W.Frag} {mg : Str → Option Value} {base : Heap} {f : Addr} {fd : FuncData}
abbrev nsN : List Str := ["script", "index", "cells", "cell", "low", "high", "total", "blend"]
theorem scNumber : FnScope nsN ["script", "index"] (defScope sNumber) := ⟨rfl, rfl, rfl, by decide +kernel, rfl, by decide +kernel, by decide +kernel⟩
theorem ok_number (F : Fun K "_law_number" "_law_number" sNumber f fd) (B : Blt mg) : FnOk P w K mg base CX0 1 f fd ["script", "index"] (spNumber K) := by
  refine F.ok scNumber (fun vs H Q E h => ?_) (fun cdv A outer s H vs Q E hr h => ?_)
  · obtain ⟨a, ns, i, rfl, _⟩ := h
    rfl
  · obtain ⟨a, ns, i, rfl, ha, hl, i0, i1, k⟩ := h
    refine ⟨_, pss_cons (ps_set (i := 2) scNumber.nd rfl (Or.inl rfl) (cells_imp (pe_ifExp (pt_cmpR (op_neD hr.units) (pv 0) (pe_lst pa_nil) (nomark _)) (pe_slice sl_list (pv 0) po_none (po_some pe_int)) (pe_lst (pa_cons pe_int pa_nil)))))
      (pss_cons (ps_set (i := 3) scNumber.nd rfl (Or.inl rfl) (pe_op op_add (pe_ix ix_list (pv 2) (pe_op op_mod (pe_callTy call_int1 (by rfl) B.int PyProof.Rows.boot_int (pa_cons (pv 1) pa_nil)) (pe_callB call_len_seq (by rfl) B.len PySem.boot_len (pa_cons (pv 2) pa_nil))) (fun _ _ => rfl))
          (pe_op op_mul pe_int (pe_op op_fdiv (pv 1) (pe_callB call_len_seq (by rfl) B.len PySem.boot_len (pa_cons (pv 2) pa_nil))))))
      (pss_cons (ps_par (i := 4) (j := 5) rfl scNumber.nd rfl rfl (by decide) rfl rfl (pa_cons (pe_op op_mod (pe_callTy call_int1 (by rfl) B.int PyProof.Rows.boot_int (pa_cons (pv 3) pa_nil)) pe_int) (pa_cons (pe_op op_mod (pe_callTy call_int1 (by rfl) B.int PyProof.Rows.boot_int (pa_cons (pe_op op_fdiv (pv 3) pe_int) pa_nil)) pe_int) pa_nil)) (by rfl))
      (pss_cons (ps_set (i := 6) scNumber.nd rfl (Or.inl rfl) (pe_op op_mod (pe_callTy call_int1 (by rfl) B.int PyProof.Rows.boot_int (pa_cons (pe_callB (cr_sum rfl) (by rfl) B.sum (by decide +kernel) (pa_cons (pv 2) pa_nil)) pa_nil)) pe_int))
      (pss_cons (ps_set (i := 7) scNumber.nd rfl (Or.inl rfl) (pe_op op_mod (pe_callTy call_int1 (by rfl) B.int PyProof.Rows.boot_int (pa_cons (pe_op op_add (pe_op op_add (pe_op op_mul (pe_op op_add (pv 4) (pe_op op_mul pe_int (pv 1))) pe_int) (pe_op op_mul pe_int (pv 5))) (pv 6)) pa_nil)) pe_int))
      (pss_one (ps_ret (pe_op op_add (pe_op op_mul (pe_op op_mod (pe_callTy call_int1 (by rfl) B.int PyProof.Rows.boot_int (pa_cons (pe_op op_mul (pv 7) (pe_op op_add (pe_op op_add (pv 7) (pe_op op_mul pe_int (pv 1))) pe_int)) pa_nil)) pe_int) pe_int) (pv 5)))))))), ?_⟩
    refine ⟨a, ns, rfl, ha, hl, fun H1 c cs s1 hc hcs hne hlc => ?_⟩
    have hpos : (0 : Int) < ((cs.map V.int).length : Int) := by
      rw [List.length_map]
      cases cs with
      | nil => exact absurd rfl hne
      | cons _ _ => simp
    have hsm : ((cs.map V.int).length : Int) < 1073741824 := by
      rw [List.length_map]
      omega
    obtain ⟨j, hj⟩ : ∃ j : Nat, i % ((cs.map V.int).length : Int) = (j : Int) := ⟨_, (Int.toNat_of_nonneg (Int.emod_nonneg _ (by omega))).symm⟩
    have hjl : j < cs.length := by
      have := Int.emod_lt_of_pos i hpos
      rw [hj, List.length_map] at this
      omega
    have hat : atI (cs.map V.int) (i % ((cs.map V.int).length : Int)) = some (.int cs[j]) := by
      rw [hj]
      refine atI_nat ?_
      rw [List.getElem?_map, List.getElem?_eq_getElem hjl]
      rfl
    refine ⟨_, rfl, _, rfl, .inl ⟨_, rfl, ?_⟩⟩
    refine ⟨_, rfl, c, _, rfl, .inl hc, _, _, rfl, rfl, hpos, c, _, _, _, rfl, rfl, hc, hat, ?_⟩
    refine ⟨_, rfl, _, rfl, c, _, rfl, .inl hc, _, _, rfl, rfl, ⟨hpos, hsm⟩, _, _, rfl, rfl, .inl ⟨by decide, by decide⟩, _, _, rfl, rfl, ?_⟩
    generalize hcell : cs[j] + 13 * (i / ((cs.map V.int).length : Int)) = cell
    -- low, high
    refine ⟨_, rfl, .inl ⟨_, rfl, _, _, rfl, rfl, (by show (0 : Int) < 1000003; decide), ?_⟩⟩
    refine ⟨_, rfl, _, _, rfl, rfl, ⟨by decide, by decide⟩, .inl ⟨_, rfl, _, _, rfl, rfl, (by show (0 : Int) < 999983; decide), _, _, rfl, ?_⟩⟩
    generalize hlow : cell % 1000003 = low
    generalize hhigh : cell / 1000003 % 999983 = high
    -- total
    refine ⟨_, rfl, c, cs, rfl, hc, .inl ⟨_, rfl, _, _, rfl, rfl, (by show (0 : Int) < 65521; decide), ?_⟩⟩
    generalize htotal : cs.sum % 65521 = total
    -- blend
    refine ⟨_, rfl, _, rfl, _, _, rfl, rfl, .inl ⟨by decide, by decide⟩, _, _, rfl, rfl, _, _, rfl, rfl, .inr ⟨by decide, by decide⟩, ?_⟩
    refine ⟨_, rfl, _, _, rfl, rfl, .inl ⟨by decide, by decide⟩, _, _, rfl, rfl, _, rfl, _, _, rfl, rfl, .inl ⟨_, rfl, _, _, rfl, rfl, (by show (0 : Int) < 2147483647; decide), ?_⟩⟩
    generalize hblend : ((low + 977 * i) * 48271 + 31 * high + total) % 2147483647 = blend
    have hb0 : 0 ≤ blend := by
      rw [← hblend]
      exact Int.emod_nonneg _ (by decide)
    have hb1 : blend < 2147483647 := by
      rw [← hblend]
      exact Int.emod_lt_of_pos _ (by decide)
    refine ⟨_, rfl, _, rfl, _, rfl, _, _, rfl, rfl, .inl ⟨by decide, by decide⟩, _, _, rfl, rfl, _, _, rfl, rfl, _, _, rfl, rfl, .inl ⟨by omega, by omega⟩, .inl ⟨_, rfl, _, _, rfl, rfl, (by show (0 : Int) < 2147483629; decide), ?_⟩⟩
    refine ⟨_, _, rfl, rfl, .inr ⟨by decide, by decide⟩, _, rfl, _, _, rfl, rfl, ?_⟩
    have e : numOf ns i = mixOf (cs[j] + 13 * (i / ((cs.map V.int).length : Int))) (cs.sum % 65521) i := by
      unfold numOf
      rw [← hcs]
      have hj2 : (i % (cs.length : Int)).toNat = j := by
        rw [List.length_map] at hj
        omega
      have hg : cs.getD j 0 = cs[j] := by
        rw [List.getD_eq_getElem?_getD, List.getElem?_eq_getElem hjl]
        rfl
      rw [hj2, hg, List.length_map]
    rw [e] at k
    subst hblend htotal hhigh hlow hcell
    exact k _ s1
end
end KW

set_option Elab.async false
set_option linter.all false
set_option maxRecDepth 100000
set_option maxHeartbeats 4000000
namespace KW
open PySem PySem.Spec PyProof.Rows L2 LamX OwnOp EqX MulX
/-! ## the parts that are drawn -/
def spParts (K : PySem.W.Frag) : Sp := fun vs H Q _ => ∃ (a : Addr) (ns : List Int) (i : Int) (w : W3), vs = [.ref a, .int i, .str w.word] ∧ SqL K H a (ns.map V.int) ∧ ns.length ≤ 63 ∧ 0 ≤ i ∧ i < 10000 ∧
  ∀ H' p xs, Same H H' → H p = none → PartsAt H' p w (bitsOf (numOf ns i)) xs → (∀ q, V.ref q ∈ xs → H q = none) → Q (.ref p) H'
theorem tup_new {H : Hp} {p : Addr} {xs : List V} {ds : List PyData} (hp : H p = none) (h : Dhs H xs ds) : Dh (upd H p (.tup xs)) (.ref p) (.tuple ds) := .tup upd_same (Dhs.mono (.of (same_upd hp)) _ _ h)
theorem int_mod2 (z : Int) : z % 2 = 0 ∨ z % 2 = 1 := by omega
section
variable {P : Program} {w : World} {K : PySem.W.Frag} {mg : Str → Option Value} {base : Heap} {f : Addr} {fd : FuncData}
abbrev nsPa : List Str := ["script", "at", "word", "seed", "cell", "state", "history", "seen", "unseen"]
theorem scPa : FnScope nsPa ["script", "at", "word"] (defScope sParts) := ⟨rfl, rfl, rfl, by decide +kernel, rfl, by decide +kernel, by decide +kernel⟩
theorem ok_parts (F : Fun K "_law_parts" "_law_parts" sParts f fd) (Nu : DefAt K mg "_law_number" "_law_number" sNumber) (B : Blt mg) : FnOk P w K mg base CX0 2 f fd ["script", "at", "word"] (spParts K) := by
  have bN := Nu.F.binds (ps := ["script", "index"]) fun _ _ _ _ _ _ us hl => match us, hl with | [_, _], _ => rfl
  refine F.ok scPa (fun vs H Q E h => ?_) (fun cdv A outer s H vs Q E hr h => ?_)
  · obtain ⟨a, ns, i, wd, rfl, _⟩ := h
    rfl
  · obtain ⟨a, ns, i, wd, rfl, ha, hl, i0, i1, k⟩ := h
    refine ⟨_, pss_cons (ps_set (i := 3) scPa.nd rfl (Or.inl rfl) (pe_callTy call_int1 (by rfl) B.int PyProof.Rows.boot_int (pa_cons (pe_call (ok_number Nu.F B) hr rfl Nu.g Nu.F.kp bN .nil pass0 (pa_cons (pv 0) (pa_cons (pv 1) pa_nil))) pa_nil)))
      (pss_cons (ps_set (i := 4) scPa.nd rfl (Or.inl rfl) (pe_tup (pa_cons (pe_tup (pa_cons pe_int (pa_cons (pe_op op_mod (pe_callTy call_int1 (by rfl) B.int PyProof.Rows.boot_int (pa_cons (pv 3) pa_nil)) pe_int) pa_nil))) (pa_cons (pe_tup (pa_cons pe_int (pa_cons pe_int pa_nil))) (pa_cons pe_non (pa_cons pe_non pa_nil))))))
      (C8.pss_cut (ps_set (i := 5) scPa.nd rfl (Or.inl rfl) (pe_tup (pa_cons (pe_tup (pa_cons (pe_tup (pa_cons (pe_tup (pa_cons (pv 4) pa_nil)) (pa_cons pe_int pa_nil))) pa_nil)) (pa_cons (pe_op op_mod (pe_callTy call_int1 (by rfl) B.int PyProof.Rows.boot_int (pa_cons (pe_op op_fdiv (pv 3) pe_int) pa_nil)) pe_int) (pa_cons (pe_tup (pa_cons pe_bl pa_nil)) pa_nil)))))
      (C8.pss_cut (ps_set (i := 6) scPa.nd rfl (Or.inl rfl) (pe_op op_rep01 (pe_tup (pa_cons (pe_tup (pa_cons pe_str pa_nil)) pa_nil)) (pe_op op_mod (pe_callTy call_int1 (by rfl) B.int PyProof.Rows.boot_int (pa_cons (pe_op op_fdiv (pv 3) pe_int) pa_nil)) pe_int)))
      (pss_cons (ps_if (pt_cmpR op_eq (pv 2) pe_str (nomark _)) (pss_one (ps_ret (pe_lst (pa_cons (pe_op op_repL (pe_lst (pa_cons (pv 5) pa_nil)) (pe_op op_add pe_int (pe_op op_mod (pe_callTy call_int1 (by rfl) B.int PyProof.Rows.boot_int (pa_cons (pe_op op_fdiv (pv 3) pe_int) pa_nil)) pe_int))) pa_nil)))) pss_nil)
      (pss_cons (ps_if (pt_cmpR op_eq (pv 2) pe_str (nomark _)) (pss_one (ps_ret (pe_lst (pa_cons (pv 6) pa_nil)))) pss_nil)
      (pss_cons (ps_par (i := 7) (j := 8) rfl scPa.nd rfl rfl (by decide) rfl rfl (pa_cons (pe_disp (pps_cons pe_str (pv 6) pps_nil) rfl rfl (by simp) (by decide)) (pa_cons pe_dnewK pa_nil)) (by rfl))
      (pss_cons (ps_if (pt_cmpR op_eq (pe_op op_mod (pe_callTy call_int1 (by rfl) B.int PyProof.Rows.boot_int (pa_cons (pe_op op_fdiv (pv 3) pe_int) pa_nil)) pe_int) pe_int (nomark _)) (pss_one (ps_dput (hu_of hr) (pv 8) pe_str (pv 6) rfl)) pss_nil)
      (pss_one (ps_ret (pe_lst (pa_cons (pe_lst (pa_cons (pv 5) pa_nil)) (pa_cons (pv 7) (pa_cons (pv 8) pa_nil))))))))))))), ?_⟩
    refine ⟨_, rfl, _, rfl, a, ns, i, rfl, ha, hl, i0, i1, fun H1 s1 => ?_⟩
    generalize numOf ns i = z at k ⊢
    refine .inl ⟨_, rfl, ?_⟩
    -- cell
    refine ⟨_, rfl, .inl ⟨_, rfl, _, _, rfl, rfl, (by show (0 : Int) < 2; decide), ⟨(by show 2 ≤ sizeLine; decide), fun t1 n1 => ?_⟩⟩⟩
    refine ⟨(by show 2 ≤ sizeLine; decide), fun t2 n2 => ?_⟩
    refine ⟨(by show 4 ≤ sizeLine; decide), fun t3 n3 => ?_⟩
    -- state
    have b3 := tup_new n3 (.cons ((tup_new n1 (.cons (.int 0) (.cons (.int (z % 2)) .nil))).same (same_upd n2)) (.cons (tup_new n2 (.cons (.int 0) (.cons (.int 0) .nil))) (.cons .non (.cons .non .nil))))
    have q3 := ((s1.trans (same_upd n1)).trans (same_upd n2)).trans (same_upd (o := HO.tup [V.ref t1, V.ref t2, V.non, V.non]) n3)
    refine ⟨fun σ H' => ∃ T, σ = [some (.ref a), some (.int i), some (.str wd.word), some (.int z), some (.ref t3), some (.ref T), none, none, none] ∧ Same H H' ∧ Dh H' (.ref T) (stateP (bitsOf z)), ?_, ?_⟩
    · refine ⟨_, rfl, ⟨(by show 1 ≤ sizeLine; decide), fun t4 n4 => ?_⟩⟩
      refine ⟨(by show 2 ≤ sizeLine; decide), fun t5 n5 => ?_⟩
      refine ⟨(by show 1 ≤ sizeLine; decide), fun t6 n6 => ?_⟩
      refine ⟨_, rfl, _, _, rfl, rfl, ⟨by decide, by decide⟩, .inl ⟨_, rfl, _, _, rfl, rfl, (by show (0 : Int) < 2; decide), ?_⟩⟩
      refine ⟨(by show 1 ≤ sizeLine; decide), fun t7 n7 => ?_⟩
      refine ⟨(by show 3 ≤ sizeLine; decide), fun t8 n8 => ?_⟩
      have b4 := tup_new n4 (.cons b3 .nil)
      have b5 := tup_new n5 (.cons b4 (.cons (.int 0) .nil))
      have b6 := tup_new n6 (.cons b5 .nil)
      have b7 := tup_new n7 (.cons (.bl false) .nil)
      have b8 := tup_new n8 (.cons (b6.same (same_upd n7)) (.cons (.int (z / 2 % 2)) (.cons b7 .nil)))
      exact ⟨t8, rfl, ((((q3.trans (same_upd n4)).trans (same_upd n5)).trans (same_upd n6)).trans (same_upd n7)).trans (same_upd n8), b8⟩
    rintro σ2 H2 ⟨T, rfl, s2, bT⟩
    -- history
    refine ⟨fun σ H' => ∃ hv, σ = [some (.ref a), some (.int i), some (.str wd.word), some (.int z), some (.ref t3), some (.ref T), some hv, none, none] ∧ Same H H' ∧ Dh H' (.ref T) (stateP (bitsOf z)) ∧ Dh H' hv (histP (bitsOf z)) ∧ ∃ u, hv = .ref u ∧ H u = none, ?_, ?_⟩
    · refine ⟨(by show 1 ≤ sizeLine; decide), fun u1 m1 => ?_⟩
      refine ⟨(by show 1 ≤ sizeLine; decide), fun u2 m2 => ?_⟩
      refine ⟨_, rfl, _, _, rfl, rfl, ⟨by decide, by decide⟩, .inl ⟨_, rfl, _, _, rfl, rfl, (by show (0 : Int) < 2; decide), ?_⟩⟩
      have c1 := tup_new m1 (.cons (.str sRound) .nil)
      have c2 := tup_new m2 (.cons c1 .nil)
      have sm := (same_upd (o := HO.tup [V.str sRound]) m1).trans (same_upd (o := HO.tup [V.ref u1]) m2)
      refine ⟨u2, _, rfl, SqT.of upd_same, (by simp), ?_⟩
      rcases int_mod2 (z / 4) with e | e
      · refine .inr ⟨congrArg V.int e, fun u3 m3 => ?_⟩
        refine ⟨.ref u3, rfl, (s2.trans sm).trans (same_upd m3), bT.same (sm.trans (same_upd m3)), ?_, u3, rfl, (s2.trans sm).free m3⟩
        have hb : (bitsOf z).h = false := decide_eq_false (by omega)
        unfold histP
        rw [hb]
        exact tup_new m3 .nil
      · refine .inl ⟨congrArg V.int e, ?_⟩
        refine ⟨.ref u2, rfl, s2.trans sm, bT.same sm, ?_, u2, rfl, (s2.trans (same_upd (o := HO.tup [V.str sRound]) m1)).free m2⟩
        have hb : (bitsOf z).h = true := decide_eq_true e
        unfold histP
        rw [hb]
        exact c2
    rintro σ3 H3 ⟨hv, rfl, s3, bT, bH, uh, eh, fh⟩
    cases wd with
    | sa =>
      refine ⟨_, rfl, rfl, _, rfl, ?_⟩
      refine iteB (c := decide (V.str (W3.word .sa) = V.str "safe")) (decide_eq_true rfl) ?_
      refine ⟨_, rfl, (by show 1 ≤ sizeLine; decide), fun l0 m0 => ?_⟩
      refine ⟨_, rfl, _, _, rfl, rfl, ⟨by decide, by decide⟩, .inl ⟨_, rfl, _, _, rfl, rfl, (by show (0 : Int) < 2; decide), ?_⟩⟩
      refine ⟨_, _, rfl, rfl, ?_⟩
      have e2 := int_mod2 (z / 8)
      refine ⟨l0, 1 + z / 8 % 2, [.ref T], rfl, rfl, SqL.of upd_same, (by simp), (by omega), (by omega), (by show 1 ≤ 1000; decide), fun l ml => ?_⟩
      refine ⟨(by show 1 ≤ sizeLine; decide), fun p mp => ?_⟩
      have q0 := same_upd (o := HO.lst [V.ref T]) m0
      have q1 := same_upd (o := HO.lst (List.replicate (1 + z / 8 % 2).toNat [V.ref T]).flatten) ml
      have q2 := same_upd (o := HO.lst [V.ref l]) mp
      refine k _ p [.ref l] ((s3.trans q0).trans (q1.trans q2)) ((s3.trans (q0.trans q1)).free mp) (.sa upd_same (v := .ref T) (q2 _ _ ?_) (bT.same (q0.trans (q1.trans q2)))) (fun q hq => ?_)
      · rw [upd_same]
        unfold statesV
        rcases e2 with e2 | e2
        · have hb : (bitsOf z).n = false := decide_eq_false (by omega)
          rw [hb, e2]
          rfl
        · have hb : (bitsOf z).n = true := decide_eq_true e2
          rw [hb, e2]
          rfl
      · obtain rfl : q = l := V.ref.inj (List.mem_singleton.mp hq)
        exact (s3.trans q0).free ml
    | ha =>
      refine ⟨_, rfl, rfl, _, rfl, ?_⟩
      refine iteBF (c := decide (V.str (W3.word .ha) = V.str "safe")) (by decide +kernel) ?_
      refine ⟨_, rfl, rfl, _, rfl, ?_⟩
      refine iteB (c := decide (V.str (W3.word .ha) = V.str "harmed")) (decide_eq_true rfl) ?_
      refine ⟨_, rfl, (by show 1 ≤ sizeLine; decide), fun p mp => ?_⟩
      have q2 := same_upd (o := HO.lst [hv]) mp
      refine k _ p [hv] (s3.trans q2) (s3.free mp) (.ha upd_same (bH.same q2)) (fun q hq => ?_)
      rw [eh] at hq
      obtain rfl : q = uh := V.ref.inj (List.mem_singleton.mp hq)
      exact fh
    | si =>
      refine ⟨_, rfl, rfl, _, rfl, ?_⟩
      refine iteBF (c := decide (V.str (W3.word .si) = V.str "safe")) (by decide +kernel) ?_
      refine ⟨_, rfl, rfl, _, rfl, ?_⟩
      refine iteBF (c := decide (V.str (W3.word .si) = V.str "harmed")) (by decide +kernel) ?_
      have fin : ∀ (d1 d2 : Addr) (H6 : Hp), H d1 = none → H d2 = none → Same H3 H6 → H6 d1 = some (.dK (seenK hv)) → H6 d2 = some (.dK (unseenK (bitsOf z) hv)) → tRet (tLst (tCons (tLst (tCons (tVar 5) tNil)) (tCons (tVar 7) (tCons (tVar 8) tNil)))) { nx := fun x H' => Q V.non H', rt := Q }
          [some (V.ref a), some (V.int i), some (V.str W3.si.word), some (V.int z), some (V.ref t3), some (V.ref T), some hv, some (.ref d1), some (.ref d2)] H6 := fun d1 d2 H6 f1 f2 q6 g1 g2 => by
        refine ⟨_, rfl, (by show 1 ≤ sizeLine; decide), fun l ml => ⟨_, rfl, _, rfl, (by show 3 ≤ sizeLine; decide), fun p mp => ?_⟩⟩
        have w1 := same_upd (o := HO.lst [V.ref T]) ml
        have w2 := same_upd (o := HO.lst [V.ref l, V.ref d1, V.ref d2]) mp
        refine k _ p [.ref l, .ref d1, .ref d2] ((s3.trans q6).trans (w1.trans w2)) (((s3.trans q6).trans w1).free mp) (.si upd_same (w2 _ _ upd_same) (bT.same (q6.trans (w1.trans w2))) (w2 _ _ (w1 _ _ g1)) (w2 _ _ (w1 _ _ g2)) (bH.same (q6.trans (w1.trans w2)))) (fun q hq => ?_)
        rcases List.mem_cons.mp hq with e | hq
        · cases e
          exact (s3.trans q6).free ml
        · rcases List.mem_cons.mp hq with e | hq
          · cases e
            exact f1
          · cases List.mem_singleton.mp hq
            exact f2
      refine fun d1 md1 => ⟨_, rfl, upd_same, [(kOld, hv)], rfl, (by show 1 ≤ 15; decide), ?_⟩
      refine fun d2 md2 => ?_
      rw [upd_upd] at md2
      refine ⟨_, _, rfl, ?_⟩
      refine ⟨_, rfl, _, _, rfl, rfl, ⟨by decide, by decide⟩, .inl ⟨_, rfl, _, _, rfl, rfl, (by show (0 : Int) < 2; decide), rfl, _, rfl, ?_⟩⟩
      have v1 := same_upd (o := HO.dK (seenK hv)) md1
      have v2 := same_upd (H := upd H3 d1 (.dK (seenK hv))) (o := HO.dK []) md2
      have fd1 : H d1 = none := s3.free md1
      have fd2 : H d2 = none := (s3.trans v1).free md2
      rcases int_mod2 (z / 16) with e | e
      · refine iteB (c := decide (V.int (z / 16 % 2) = V.int 0)) (decide_eq_true (congrArg V.int e)) ?_
        refine ⟨_, rfl, _, rfl, d2, _, rfl, DPut.k (k := kWorn) upd_same (by show 0 < sizeLine; decide), ?_⟩
        have hb : (bitsOf z).w = true := decide_eq_true e
        have ne : d1 ≠ d2 := fun q => by
          rw [q, upd_same] at md2
          cases md2
        rw [upd_upd, upd_upd]
        refine fin d1 d2 _ fd1 fd2 (fun b o q => ?_) ?_ ?_
        · have n1 : b ≠ d1 := ne_of_none q md1
          have n2 : b ≠ d2 := ne_of_none (v1 _ _ q) md2
          rw [upd_ne n2]
          exact v1 _ _ q
        · rw [upd_ne ne, upd_same]
          rfl
        · rw [upd_same]
          unfold unseenK
          rw [hb]
          rfl
      · refine iteBF (c := decide (V.int (z / 16 % 2) = V.int 0)) (decide_eq_false fun q => by have := V.int.inj q; omega) ?_
        have hb : (bitsOf z).w = false := decide_eq_false (by omega)
        rw [upd_upd]
        refine fin d1 d2 _ fd1 fd2 (v1.trans v2) (v2 _ _ upd_same) ?_
        rw [upd_same]
        unfold unseenK
        rw [hb]
        rfl
end
end KW

set_option Elab.async false
set_option linter.all false
set_option maxRecDepth 100000
set_option maxHeartbeats 4000000
namespace KW
open PySem PySem.Spec PyProof.Rows L2 LamX OwnOp EqX MulX
/-! ## the classes of answers -/
structure MethD (K : PySem.W.Frag) (C : Addr) (x qual : Str) (st : Stmt) where
  f : Addr
  fd : FuncData
  F : Fun K x qual st f fd
  m : Spm K C x f
  kp : PySem.W.keepIn K (.ref f) = true
structure ClsD (K : PySem.W.Frag) (mg : Str → Option Value) (nm : Str) where
  C : Addr
  g : mg nm = some (.ref C)
  cl : Cls K C
  KI : KIsi K C
  hn : PySem.W.findIn K (.ref C) "__ne__" = some (some (.builtin "object.__ne__"))
structure InitD (K : PySem.W.Frag) (C : Addr) (qual : Str) (st : Stmt) where
  f : Addr
  fd : FuncData
  F : Fun K "__init__" qual st f fd
  M : Mk K C f
/-- a y of class D beside a class C -/
structure Ap (K : PySem.W.Frag) (C D : Addr) : Prop where
  kit : PySem.W.kitOne K (.ref D) (.ref C) = some false
  nf : PySem.W.notFirst K C (.ref D) = true
  cl : Cls K D
  KI : KIsi K D
def C3.of (C : C3) : W3 → Addr
  | .sa => C.sa
  | .ha => C.ha
  | .si => C.si
theorem AnsAt.ins {C : C3} {H : Hp} {p : Addr} {w : W3} {b : Bits} (h : AnsAt C H p w b) : ∃ dx fs, H p = some (.ins (C.of w) dx fs) := by
  cases h with
  | sa a1 => exact ⟨_, _, a1⟩
  | ha a1 => exact ⟨_, _, a1⟩
  | si a1 => exact ⟨_, _, a1⟩
def spEqA (K : PySem.W.Frag) (C : C3) (w : W3) : Sp := fun vs H Q _ => ∃ a b, vs = [.ref a, .ref b] ∧
  ((∃ x y, AnsAt C H a w x ∧ AnsAt C H b w y ∧ Q (.bl (eqW w x y)) H) ∨ ∃ D dy gs, H b = some (.ins D dy gs) ∧ Ap K (C.of w) D ∧ Q (.bl false) H)
/-- one field -/
theorem one_fld (n : Str) (v : V) : [(n, v)].lookup n = some v := by simp [List.lookup]
theorem si1 (a b c : V) : ([("states", a), ("seen", b), ("unseen", c)] : List (Str × V)).lookup ("states" : Str) = some a := by simp [List.lookup]
theorem si2 (a b c : V) : ([("states", a), ("seen", b), ("unseen", c)] : List (Str × V)).lookup ("seen" : Str) = some b := by
  have e1 : (("seen" : Str) == "states") = false := by decide +kernel
  simp [List.lookup, e1]
theorem si3 (a b c : V) : ([("states", a), ("seen", b), ("unseen", c)] : List (Str × V)).lookup ("unseen" : Str) = some c := by
  have e1 : (("unseen" : Str) == "states") = false := by decide +kernel
  have e2 : (("unseen" : Str) == "seen") = false := by decide +kernel
  simp [List.lookup, e1, e2]
section
variable {P : Program} {w : World} {K : PySem.W.Frag} {mg : Str → Option Value} {base : Heap} {f : Addr} {fd : FuncData}
theorem scSaEq : FnScope ["self", "other"] ["self", "other"] (defScope sSaEq) := ⟨rfl, rfl, rfl, by decide +kernel, rfl, by decide +kernel, by decide +kernel⟩
theorem ok_saEq (F : Fun K "__eq__" "Safe.__eq__" sSaEq f fd) (B : Blt mg) (C : C3) (D : ClsD K mg "Safe") (hC : D.C = C.sa) (n1 : NoAttr K C.sa "states") (hk : PySem.W.kitOne K (.ref C.sa) (.ref C.sa) = some true) :
    FnOk P w K mg base CX0 1 f fd ["self", "other"] (spEqA K C .sa) := by
  have cl : Cls K C.sa := hC ▸ D.cl
  have KI : KIsi K C.sa := hC ▸ D.KI
  have g : mg "Safe" = some (.ref C.sa) := hC ▸ D.g
  refine F.ok scSaEq (fun vs H Q E h => ?_) (fun cdv A outer s H vs Q E hr h => ?_)
  · obtain ⟨a, b, rfl, _⟩ := h
    rfl
  · obtain ⟨a, b, rfl, h⟩ := h
    refine ⟨_, pss_one (ps_ret (pe_and (pe_callB call_isi (by rfl) B.isi PyProof.Rows.boot_isinstance (pa_cons (pv 1) (pa_cons (pe_glob (v := .ref C.sa) (by rfl) g rfl) pa_nil)))
      (pe_one (pe_cmpR (op_eqD hr.units) (pe_fld (pv 0) rfl) (pe_fld (pv 1) rfl) (nomark _))))), ?_⟩
    rcases h with ⟨x, y, h1, h2, k⟩ | ⟨D2, dy, gs, h2, ap, k⟩
    · cases h1 with
      | @sa _ dx l v a1 a2 a3 =>
        cases h2 with
        | @sa _ dy m u b1 b2 b3 =>
          refine ⟨_, rfl, _, _, _, _, _, rfl, .own C.sa, .base (.ins b1 cl KI.ha KI.hn KI.ht KI.hm), hk, _, rfl, ?_⟩
          refine iteT ?_
          refine ⟨_, rfl, a, C.sa, dx, _, _, rfl, a1, cl, n1, one_fld _ _, _, rfl, b, C.sa, dy, _, _, rfl, b1, cl, n1, one_fld _ _, ?_⟩
          exact ⟨_, _, dp_states a2 a3, dp_states b2 b3, sh_states x, sh_states y, k⟩
    · refine ⟨_, rfl, _, _, _, _, _, rfl, .own C.sa, .base (.ins h2 ap.cl ap.KI.ha ap.KI.hn ap.KI.ht ap.KI.hm), ap.kit, _, rfl, ?_⟩
      exact iteF k
theorem scHaEq : FnScope ["self", "other"] ["self", "other"] (defScope sHaEq) := ⟨rfl, rfl, rfl, by decide +kernel, rfl, by decide +kernel, by decide +kernel⟩
theorem ok_haEq (F : Fun K "__eq__" "Harmed.__eq__" sHaEq f fd) (B : Blt mg) (C : C3) (D : ClsD K mg "Harmed") (hC : D.C = C.ha) (n1 : NoAttr K C.ha "history") (hk : PySem.W.kitOne K (.ref C.ha) (.ref C.ha) = some true) :
    FnOk P w K mg base CX0 1 f fd ["self", "other"] (spEqA K C .ha) := by
  have cl : Cls K C.ha := hC ▸ D.cl
  have KI : KIsi K C.ha := hC ▸ D.KI
  have g : mg "Harmed" = some (.ref C.ha) := hC ▸ D.g
  refine F.ok scHaEq (fun vs H Q E h => ?_) (fun cdv A outer s H vs Q E hr h => ?_)
  · obtain ⟨a, b, rfl, _⟩ := h
    rfl
  · obtain ⟨a, b, rfl, h⟩ := h
    refine ⟨_, pss_one (ps_ret (pe_and (pe_callB call_isi (by rfl) B.isi PyProof.Rows.boot_isinstance (pa_cons (pv 1) (pa_cons (pe_glob (v := .ref C.ha) (by rfl) g rfl) pa_nil)))
      (pe_one (pe_cmpR (op_eqD hr.units) (pe_fld (pv 0) rfl) (pe_fld (pv 1) rfl) (nomark _))))), ?_⟩
    rcases h with ⟨x, y, h1, h2, k⟩ | ⟨D2, dy, gs, h2, ap, k⟩
    · cases h1 with
      | @ha _ dx v a1 a2 =>
        cases h2 with
        | @ha _ dy u b1 b2 =>
          refine ⟨_, rfl, _, _, _, _, _, rfl, .own C.ha, .base (.ins b1 cl KI.ha KI.hn KI.ht KI.hm), hk, _, rfl, ?_⟩
          refine iteT ?_
          refine ⟨_, rfl, a, C.ha, dx, _, _, rfl, a1, cl, n1, one_fld _ _, _, rfl, b, C.ha, dy, _, _, rfl, b1, cl, n1, one_fld _ _, ?_⟩
          exact ⟨_, _, Dh.dp _ _ a2, Dh.dp _ _ b2, sh_hist x, sh_hist y, k⟩
    · refine ⟨_, rfl, _, _, _, _, _, rfl, .own C.ha, .base (.ins h2 ap.cl ap.KI.ha ap.KI.hn ap.KI.ht ap.KI.hm), ap.kit, _, rfl, ?_⟩
      exact iteF k
theorem scSiEq : FnScope ["self", "other"] ["self", "other"] (defScope sSiEq) := ⟨rfl, rfl, rfl, by decide +kernel, rfl, by decide +kernel, by decide +kernel⟩
theorem ok_siEq (F : Fun K "__eq__" "Sight.__eq__" sSiEq f fd) (B : Blt mg) (C : C3) (D : ClsD K mg "Sight") (hC : D.C = C.si) (n1 : NoAttr K C.si "states") (n2 : NoAttr K C.si "seen") (n3 : NoAttr K C.si "unseen") (hk : PySem.W.kitOne K (.ref C.si) (.ref C.si) = some true) :
    FnOk P w K mg base CX0 1 f fd ["self", "other"] (spEqA K C .si) := by
  have cl : Cls K C.si := hC ▸ D.cl
  have KI : KIsi K C.si := hC ▸ D.KI
  have g : mg "Sight" = some (.ref C.si) := hC ▸ D.g
  refine F.ok scSiEq (fun vs H Q E h => ?_) (fun cdv A outer s H vs Q E hr h => ?_)
  · obtain ⟨a, b, rfl, _⟩ := h
    rfl
  · obtain ⟨a, b, rfl, h⟩ := h
    have hu : (A.deeper (envOfC "Sight.__eq__" (defScope sSiEq) s.heap.objs.size f cdv)).units + 70 < cLine := by
      have := hr.un
      omega
    refine ⟨_, pss_one (ps_ret (pe_and (pe_callB call_isi (by rfl) B.isi PyProof.Rows.boot_isinstance (pa_cons (pv 1) (pa_cons (pe_glob (v := .ref C.si) (by rfl) g rfl) pa_nil)))
      (pe_and (pe_cmpR (op_eqD hr.units) (pe_fld (pv 0) rfl) (pe_fld (pv 1) rfl) (nomark _)) (pe_and (pe_cmpR (op_eqDic hu) (pe_fld (pv 0) rfl) (pe_fld (pv 1) rfl) (nomark _))
      (pe_one (pe_cmpR (op_eqDic hu) (pe_fld (pv 0) rfl) (pe_fld (pv 1) rfl) (nomark _))))))), ?_⟩
    rcases h with ⟨x, y, h1, h2, k⟩ | ⟨D2, dy, gs, h2, ap, k⟩
    · cases h1 with
      | @si _ dx l s1 u1 v hv a1 a2 a3 a4 a5 a6 =>
        cases h2 with
        | @si _ dy m s2 u2 v' hv' b1 b2 b3 b4 b5 b6 =>
          refine ⟨_, rfl, _, _, _, _, _, rfl, .own C.si, .base (.ins b1 cl KI.ha KI.hn KI.ht KI.hm), hk, _, rfl, ?_⟩
          refine iteT ?_
          have kk : Q (.bl (eqS1 x y && (eqH x y && eqU x y))) H := k
          refine ⟨_, rfl, a, C.si, dx, _, _, rfl, a1, cl, n1, si1 _ _ _, _, rfl, b, C.si, dy, _, _, rfl, b1, cl, n1, si1 _ _ _, ?_⟩
          refine ⟨_, _, dp_state1 a2 a3, dp_state1 b2 b3, sh_state1 x, sh_state1 y, _, rfl, ?_⟩
          refine ite2 (fun c1 => ?_) (fun c1 => ?_)
          · have c1' : eqS1 x y = true := c1
            rw [c1', Bool.true_and] at kk
            refine ⟨_, rfl, a, C.si, dx, _, _, rfl, a1, cl, n2, si2 _ _ _, _, rfl, b, C.si, dy, _, _, rfl, b1, cl, n2, si2 _ _ _, ?_⟩
            refine ⟨s1, s2, _, _, _, rfl, rfl, a4, b4, dh_seen a6 b6, _, rfl, ?_⟩
            refine ite2 (fun c2 => ?_) (fun c2 => ?_)
            · have c2' : eqH x y = true := c2
              rw [c2', Bool.true_and] at kk
              refine ⟨_, rfl, a, C.si, dx, _, _, rfl, a1, cl, n3, si3 _ _ _, _, rfl, b, C.si, dy, _, _, rfl, b1, cl, n3, si3 _ _ _, ?_⟩
              obtain ⟨r, d1, d2⟩ := dh_unseen (K := K) a6 b6
              rw [← d2] at kk
              exact ⟨u1, u2, _, _, _, rfl, rfl, a5, b5, d1, kk⟩
            · have c2' : eqH x y = false := eq_false_of_ne_true c2
              rw [c2', Bool.false_and] at kk
              exact kk
          · have c1' : eqS1 x y = false := eq_false_of_ne_true c1
            rw [c1', Bool.false_and] at kk
            exact kk
    · refine ⟨_, rfl, _, _, _, _, _, rfl, .own C.si, .base (.ins h2 ap.cl ap.KI.ha ap.KI.hn ap.KI.ht ap.KI.hm), ap.kit, _, rfl, ?_⟩
      exact iteF k
end
end KW

set_option Elab.async false
set_option linter.all false
set_option maxRecDepth 100000
set_option maxHeartbeats 4000000
namespace KW
open PySem PySem.Spec PyProof.Rows L2 LamX OwnOp EqX MulX
/-! ## what is new beside an older heap, and all tuples -/
def vis (H0 H : Hp) : Hp := fun b => match H b with
  | some (.tup xs) => some (.tup xs)
  | o => if (H0 b).isNone then o else none
theorem vis_new {H0 H : Hp} {b : Addr} (h : H0 b = none) : vis H0 H b = H b := by
  unfold vis
  split
  · rename_i e; rw [e]
  · rw [h]; rfl
theorem vis_tup {H0 H : Hp} {b : Addr} {xs : List V} (h : H b = some (.tup xs)) : vis H0 H b = some (.tup xs) := by
  unfold vis
  rw [h]
theorem vis_case {H0 H : Hp} {b : Addr} {o : HO} (h : vis H0 H b = some o) : H b = some o ∧ (H0 b = none ∨ ∃ xs, o = .tup xs) := by
  unfold vis at h
  split at h
  · rename_i xs e
    cases h
    exact ⟨e, .inr ⟨xs, rfl⟩⟩
  · split at h
    · rename_i e
      exact ⟨h, .inl (Option.isNone_iff_eq_none.mp e)⟩
    · cases h
theorem vis_same {H0 H : Hp} : Same (vis H0 H) H := fun b o e => (vis_case e).1
theorem vis_ts {H0 H : Hp} : TSame H (vis H0 H) := fun b xs e => vis_tup e
/-- newer beside the older of two heaps, and later -/
theorem vis_up {H0 H1 H H' : Hp} (s0 : Same H0 H1) (s : Same H H') : Same (vis H1 H) (vis H0 H') := fun b o e => by
  obtain ⟨e1, e2⟩ := vis_case e
  rcases e2 with e2 | ⟨xs, rfl⟩
  · rw [vis_new (s0.free e2)]
    exact s _ _ e1
  · exact vis_tup (s _ _ e1)
theorem PartsAt.vis {H H' : Hp} {p : Addr} {w : W3} {b : Bits} {xs : List V} (h : PartsAt H' p w b xs) (hp : H p = none) (hx : ∀ q, V.ref q ∈ xs → H q = none) : PartsAt (vis H H') p w b xs := by
  cases h with
  | sa a1 a2 a3 =>
    refine .sa ((vis_new hp).trans a1) ((vis_new (hx _ (List.mem_singleton.mpr rfl))).trans a2) (Dh.mono vis_ts _ _ a3)
  | ha a1 a2 => exact .ha ((vis_new hp).trans a1) (Dh.mono vis_ts _ _ a2)
  | si a1 a2 a3 a4 a5 a6 =>
    refine .si ((vis_new hp).trans a1) ((vis_new (hx _ (by simp))).trans a2) (Dh.mono vis_ts _ _ a3) ((vis_new (hx _ (by simp))).trans a4) ((vis_new (hx _ (by simp))).trans a5) (Dh.mono vis_ts _ _ a6)
/-! ## made -/
def spSaInit (K : PySem.W.Frag) (C : Addr) : Sp := fun vs H Q _ => ∃ p dx l xs, vs = [.ref p, .ref l] ∧ H p = some (.ins C dx []) ∧ SqL K H l xs ∧
  ∀ H' m, (∀ c o, H c = some o → c ≠ p → H' c = some o) → H' p = some (.ins C dx [("states", .ref m)]) → H' m = some (.lst xs) → H m = none → Q .non H'
def spHaInit (K : PySem.W.Frag) (C : Addr) : Sp := fun vs H Q _ => ∃ p dx l xs, vs = [.ref p, .ref l] ∧ H p = some (.ins C dx []) ∧ SqT K H l xs ∧
  ∀ H', (∀ c o, H c = some o → c ≠ p → H' c = some o) → H' p = some (.ins C dx [("history", .ref l)]) → Q .non H'
def dictOk (K : PySem.W.Frag) (H : Hp) (kvs : List (Key × V)) : Prop := kvs = [] ∨ ∃ k q xs, kvs = [(k, .ref q)] ∧ SqT K H q xs
def spSiInit (K : PySem.W.Frag) (C : Addr) : Sp := fun vs H Q _ => ∃ p dx l xs d ks e ls, vs = [.ref p, .ref l, .ref d, .ref e] ∧ H p = some (.ins C dx []) ∧ SqL K H l xs ∧ H d = some (.dK ks) ∧ dictOk K H ks ∧ H e = some (.dK ls) ∧ dictOk K H ls ∧
  ∀ H' m d' e', (∀ c o, H c = some o → c ≠ p → H' c = some o) → H' p = some (.ins C dx [("states", .ref m), ("seen", .ref d'), ("unseen", .ref e')]) → H' m = some (.lst xs) → H' d' = some (.dK ks) → H' e' = some (.dK ls) → H m = none → H d' = none → H e' = none → Q .non H'
/-- tuple(x) of a tuple -/
def rTupT (K : PySem.W.Frag) : List V → Hp → VK → Prop := fun xs H Q => ∃ p ys, xs = [.ref p] ∧ SqT K H p ys ∧ Q (.ref p) H
theorem call_tupT {X : Cx} {K : PySem.W.Frag} (e : X.K = K) : CallR X (.type "tuple") (rTupT K) := by
  subst e
  intro pins s σ H xs us Q I r h
  obtain ⟨p, ys, rfl, ht, q⟩ := h
  exact call_tuple_of pins s σ H _ us Q I r ⟨p, ys, rfl, .inr ⟨ht, q⟩⟩
theorem si_put (a b c : V) : putF "unseen" c (putF "seen" b (putF "states" a [])) = ([("states", a), ("seen", b), ("unseen", c)] : List (Str × V)) := by
  have n1 : ¬ (("states" : Str) = "seen") := by decide +kernel
  have n2 : ¬ (("states" : Str) = "unseen") := by decide +kernel
  have n3 : ¬ (("seen" : Str) = "unseen") := by decide +kernel
  simp only [putF, n1, n2, n3, if_false]
theorem frz_back {H : Hp} {d D : Addr} {kvs ks : List (Key × V)} {od : Obj} (hd : H d = some (.dK kvs)) (hD : H D = none) : upd (upd (upd H d (.frz od (.dK kvs))) D (.dK ks)) d (.dK kvs) = upd H D (.dK ks) := by
  have hne : d ≠ D := ne_of_none hd hD
  funext b
  by_cases e : b = d
  · subst e
    rw [upd_same, upd_ne hne, hd]
  · rw [upd_ne e]
    by_cases e2 : b = D
    · subst e2
      rw [upd_same, upd_same]
    · rw [upd_ne e2, upd_ne e2, upd_ne e]
theorem sqT_frz {K : PySem.W.Frag} {H : Hp} {d q : Addr} {kvs : List (Key × V)} {od : Obj} {xs : List V} (hd : H d = some (.dK kvs)) (h : SqT K H q xs) : SqT K (upd H d (.frz od (.dK kvs))) q xs := by
  by_cases e : q = d
  · subst e
    rcases h with (h | ⟨o, h⟩) | h
    · rw [hd] at h; cases h
    · rw [hd] at h; cases h
    · exact .inr h
  · rcases h with (h | ⟨o, h⟩) | h
    · exact .inl (.inl ((upd_ne e).trans h))
    · exact .inl (.inr ⟨o, (upd_ne e).trans h⟩)
    · exact .inr h
theorem rd_dcopy {K : PySem.W.Frag} {i : Nat} {H : Hp} {Q : VK} {p l d e dd : Addr} {kvs : List (Key × V)} (hi : (i = 2 ∧ dd = d) ∨ (i = 3 ∧ dd = e)) (hd : H dd = some (.dK kvs)) (ok : dictOk K H kvs) (k : ∀ D, H D = none → Q (.ref D) (upd H D (.dK kvs))) :
    tLockE (tDc (iKeys (tVar i)) (gName 4) tYes (tVar 4) (tCB (rTupT K) (tCons (tDGet (tVar i) (tVar 4)) tNil)) [4]) [some (.ref p), some (.ref l), some (.ref d), some (.ref e), none] H Q := by
  have h0 : ([some (.ref p), some (.ref l), some (.ref d), some (.ref e), none] : L2.St)[i]? = some (some (.ref dd)) := by
    rcases hi with ⟨rfl, rfl⟩ | ⟨rfl, rfl⟩ <;> rfl
  refine ⟨dd, .dK kvs, hd, trivial, fun od => ?_⟩
  refine ⟨_, h0, dd, od, rfl, .inl ⟨kvs, upd_same, fun D nD => ?_⟩⟩
  have hne : dd ≠ D := fun q => by
    rw [← q, upd_same] at nD
    cases nD
  have hD : H D = none := by
    rw [upd_ne (Ne.symm hne)] at nD
    exact nD
  have fin : (upd (upd H dd (.frz od (.dK kvs))) D (.dK kvs)) dd = some (.frz od (.dK kvs)) ∧ Q (.ref D) (upd (upd (upd H dd (.frz od (.dK kvs))) D (.dK kvs)) dd (.dK kvs)) := by
    refine ⟨by rw [upd_ne hne, upd_same], ?_⟩
    rw [frz_back hd hD]
    exact k D hD
  rcases ok with rfl | ⟨key, q, xs, rfl, hq⟩
  · refine ⟨fun j m G => j = 0 ∧ m = 0 ∧ G = upd (upd H dd (.frz od (.dK []))) D (.dK []), ⟨0, rfl, rfl, rfl⟩, ?_⟩
    rintro j m G ⟨rfl, rfl, rfl⟩
    exact .inl ⟨⟨fin.1, Nat.le_refl _⟩, fin⟩
  · refine ⟨fun j m G => (j = 0 ∧ m = 1 ∧ G = upd (upd H dd (.frz od (.dK [(key, .ref q)]))) D (.dK [])) ∨ (j = 1 ∧ m = 0 ∧ G = upd (upd H dd (.frz od (.dK [(key, .ref q)]))) D (.dK [(key, .ref q)])), ⟨1, .inl ⟨rfl, rfl, rfl⟩⟩, ?_⟩
    rintro j m G (⟨rfl, rfl, rfl⟩ | ⟨rfl, rfl, rfl⟩)
    · refine .inr ⟨⟨by rw [upd_ne hne, upd_same], Nat.zero_lt_one⟩, fun H' => H' = upd (upd H dd (.frz od (.dK [(key, .ref q)]))) D (.dK [(key, .ref q)]), fun H' e => ⟨0, Nat.zero_lt_one, .inr ⟨rfl, rfl, e⟩⟩, ?_⟩
      rintro x H' ⟨rfl, k2, v2, e1, rfl⟩
      cases e1
      have hT : SqT K (upd (upd H dd (.frz od (.dK [(key, .ref q)]))) D (.dK [])) q xs := KW.Same.sqT (same_upd nD) (sqT_frz hd hq)
      have hG : DGet (upd (upd H dd (.frz od (.dK [(key, .ref q)]))) D (.dK [])) dd (kV key) (some (.ref q)) := .inl ⟨[(key, .ref q)], key, .inr ⟨od, by rw [upd_ne hne, upd_same]⟩, rfl, (valV_pos (p := (key, V.ref q)) rfl).symm⟩
      have tail : ∃ kvs k, kV key = kV k ∧ upd (upd H dd (.frz od (.dK [(key, .ref q)]))) D (.dK []) D = some (.dK kvs) ∧ kvs.length < sizeLine ∧ upd (upd (upd H dd (.frz od (.dK [(key, .ref q)]))) D (.dK [])) D (.dK (putK kvs k (.ref q))) = upd (upd H dd (.frz od (.dK [(key, .ref q)]))) D (.dK [(key, .ref q)]) :=
        ⟨[], key, rfl, upd_same, (by show 0 < sizeLine; decide), by rw [upd_upd]; rfl⟩
      rcases hi with ⟨rfl, rfl⟩ | ⟨rfl, rfl⟩
      · refine ⟨rfl, ?_⟩
        unfold tYes
        refine Eq.mpr (if_pos rfl) ?_
        exact ⟨_, rfl, _, rfl, _, rfl, dd, _, rfl, hG, q, xs, rfl, hT, tail⟩
      · refine ⟨rfl, ?_⟩
        unfold tYes
        refine Eq.mpr (if_pos rfl) ?_
        exact ⟨_, rfl, _, rfl, _, rfl, dd, _, rfl, hG, q, xs, rfl, hT, tail⟩
    · exact .inl ⟨⟨fin.1, Nat.le_refl _⟩, fin⟩
section
variable {P : Program} {w : World} {K : PySem.W.Frag} {mg : Str → Option Value} {base : Heap} {f : Addr} {fd : FuncData}
theorem scSaI : FnScope ["self", "states"] ["self", "states"] (defScope sSaInit) := ⟨rfl, rfl, rfl, by decide +kernel, rfl, by decide +kernel, by decide +kernel⟩
theorem ok_saI (F : Fun K "__init__" "Safe.__init__" sSaInit f fd) (B : Blt mg) (C : Addr) (cl : Cls K C) (n1 : NoAttr K C "states") : FnOk P w K mg base CX0 1 f fd ["self", "states"] (spSaInit K C) := by
  refine F.ok scSaI (fun vs H Q E h => ?_) (fun cdv A outer s H vs Q E hr h => ?_)
  · obtain ⟨p, dx, l, xs, rfl, _⟩ := h
    rfl
  · obtain ⟨p, dx, l, xs, rfl, hp, hl, k⟩ := h
    refine ⟨_, pss_one (ps_fld (pv 0) (pe_callTy call_list_of (by rfl) B.list PyProof.Rows.boot_list (pa_cons (pv 1) pa_nil)) rfl), ?_⟩
    refine ⟨_, rfl, l, xs, rfl, .inl hl, fun m hm => ?_⟩
    have hne : p ≠ m := ne_of_none hp hm
    refine ⟨_, rfl, p, C, dx, [], rfl, (by rw [upd_ne hne]; exact hp), cl, n1, (by show 0 < 1000; decide), ?_⟩
    refine k _ m (fun c o e ne => ?_) upd_same ?_ hm
    · rw [upd_ne ne, upd_ne (ne_of_none e hm)]
      exact e
    · rw [upd_ne (Ne.symm hne), upd_same]
theorem scHaI : FnScope ["self", "history"] ["self", "history"] (defScope sHaInit) := ⟨rfl, rfl, rfl, by decide +kernel, rfl, by decide +kernel, by decide +kernel⟩
theorem ok_haI (F : Fun K "__init__" "Harmed.__init__" sHaInit f fd) (B : Blt mg) (C : Addr) (cl : Cls K C) (n1 : NoAttr K C "history") : FnOk P w K mg base CX0 1 f fd ["self", "history"] (spHaInit K C) := by
  refine F.ok scHaI (fun vs H Q E h => ?_) (fun cdv A outer s H vs Q E hr h => ?_)
  · obtain ⟨p, dx, l, xs, rfl, _⟩ := h
    rfl
  · obtain ⟨p, dx, l, xs, rfl, hp, hl, k⟩ := h
    refine ⟨_, pss_one (ps_fld (pv 0) (pe_callTy call_tuple_of (by rfl) B.tuple PyProof.Rows.boot_tuple (pa_cons (pv 1) pa_nil)) rfl), ?_⟩
    refine ⟨_, rfl, l, xs, rfl, .inr ⟨hl, ?_⟩⟩
    refine ⟨_, rfl, p, C, dx, [], rfl, hp, cl, n1, (by show 0 < 1000; decide), ?_⟩
    refine k _ (fun c o e ne => ?_) upd_same
    rw [upd_ne ne]
    exact e
abbrev nsSi : List Str := ["self", "states", "seen", "unseen", "shape"]
theorem scSiI : FnScope nsSi ["self", "states", "seen", "unseen"] (defScope sSiInit) := ⟨rfl, rfl, rfl, by decide +kernel, rfl, by decide +kernel, by decide +kernel⟩
theorem ok_siI (F : Fun K "__init__" "Sight.__init__" sSiInit f fd) (B : Blt mg) (C : Addr) (cl : Cls K C) (n1 : NoAttr K C "states") (n2 : NoAttr K C "seen") (n3 : NoAttr K C "unseen") : FnOk P w K mg base CX0 1 f fd ["self", "states", "seen", "unseen"] (spSiInit K C) := by
  refine F.ok scSiI (fun vs H Q E h => ?_) (fun cdv A outer s H vs Q E hr h => ?_)
  · obtain ⟨p, dx, l, xs, d, ks, e, ls, rfl, _⟩ := h
    rfl
  · obtain ⟨p, dx, l, xs, d, ks, e, ls, rfl, hp, hl, hd, od, he, oe, k⟩ := h
    refine ⟨_, pss_cons (ps_fld (pv 0) (pe_callTy call_list_of (by rfl) B.list PyProof.Rows.boot_list (pa_cons (pv 1) pa_nil)) rfl)
      (pss_cons (ps_fld (pv 0) (pe_lock (pe_dc (own := [("shape", 4)]) (g := gName 4) (by rfl) scSiI.nd (pi_keys (pv 2))
        (blkOk_by (own := [("shape", 4)]) (N := nsSi) (sc := defScope sSiInit) (by decide +kernel)) (fun _ _ _ _ _ => pg_name (i := 4) scSiI.nd rfl (Or.inl rfl)) (fun _ _ _ _ _ => pts_nil)
        (fun _ _ _ _ _ => pv 4) (fun _ _ _ _ _ => pe_callTy (call_tupT (K := K) rfl) (by rfl) B.tuple PyProof.Rows.boot_tuple (pa_cons (pe_dget (hu_of hr) (pv 2) (pv 4) (fun _ _ => rfl)) pa_nil)))) rfl)
      (pss_one (ps_fld (pv 0) (pe_lock (pe_dc (own := [("shape", 4)]) (g := gName 4) (by rfl) scSiI.nd (pi_keys (pv 3))
        (blkOk_by (own := [("shape", 4)]) (N := nsSi) (sc := defScope sSiInit) (by decide +kernel)) (fun _ _ _ _ _ => pg_name (i := 4) scSiI.nd rfl (Or.inl rfl)) (fun _ _ _ _ _ => pts_nil)
        (fun _ _ _ _ _ => pv 4) (fun _ _ _ _ _ => pe_callTy (call_tupT (K := K) rfl) (by rfl) B.tuple PyProof.Rows.boot_tuple (pa_cons (pe_dget (hu_of hr) (pv 3) (pv 4) (fun _ _ => rfl)) pa_nil)))) rfl))), ?_⟩
    refine ⟨_, rfl, l, xs, rfl, .inl hl, fun m hm => ?_⟩
    have hne : p ≠ m := ne_of_none hp hm
    refine ⟨_, rfl, p, C, dx, [], rfl, (by rw [upd_ne hne]; exact hp), cl, n1, (by show 0 < 1000; decide), ?_⟩
    have st : ∀ {G : Hp} {b : Addr} {u : HO}, G b = none → ∀ c o, G c = some o → upd G b u c = some o := fun hb c o q => by
      rw [upd_ne (ne_of_none q hb)]
      exact q
    have sqt : ∀ {G : Hp} {q : Addr} {ts : List V} {ox : HO}, (∀ ys, ox ≠ .tup ys) → G p = some ox → (∀ o u, ox ≠ .frz o u) → SqT K G q ts → ∀ u, SqT K (upd G p u) q ts := @fun G q ts ox nt gp nf h u => by
      by_cases e : q = p
      · subst e
        rcases h with (h | ⟨o, h⟩) | h
        · rw [gp] at h
          exact absurd (Option.some.inj h) (nt _)
        · rw [gp] at h
          exact absurd (Option.some.inj h) (nf _ _)
        · exact .inr h
      · rcases h with (h | ⟨o, h⟩) | h
        · exact .inl (.inl ((upd_ne e).trans h))
        · exact .inl (.inr ⟨o, (upd_ne e).trans h⟩)
        · exact .inr h
    have ok1 : ∀ {G : Hp} {kvs : List (Key × V)} {fs : List (Str × V)}, G p = some (.ins C dx fs) → dictOk K G kvs → ∀ u, dictOk K (upd G p u) kvs := fun gp h u => by
      rcases h with h | ⟨k2, q, ts, e1, e2⟩
      · exact .inl h
      · exact .inr ⟨k2, q, ts, e1, sqt (fun _ => by simp) gp (fun _ _ => by simp) e2 u⟩
    have ok2 : ∀ {G G' : Hp} {kvs : List (Key × V)}, Same G G' → dictOk K G kvs → dictOk K G' kvs := fun s h => by
      rcases h with h | ⟨k2, q, ts, e1, e2⟩
      · exact .inl h
      · exact .inr ⟨k2, q, ts, e1, KW.Same.sqT s e2⟩
    -- the first heap
    have s1 := same_upd (o := HO.lst xs) hm
    have hp1 : upd H m (.lst xs) p = some (.ins C dx []) := s1 _ _ hp
    have nd : d ≠ p := fun q => by rw [q, hp] at hd; cases hd
    have ne : e ≠ p := fun q => by rw [q, hp] at he; cases he
    generalize hG1 : upd (upd H m (.lst xs)) p (.ins C dx (putF "states" (V.ref m) [])) = G1
    have d1 : G1 d = some (.dK ks) := by
      rw [← hG1, upd_ne nd]
      exact s1 _ _ hd
    have e1 : G1 e = some (.dK ls) := by
      rw [← hG1, upd_ne ne]
      exact s1 _ _ he
    have od1 : dictOk K G1 ks := by
      rw [← hG1]
      exact ok1 hp1 (ok2 s1 od) _
    have oe1 : dictOk K G1 ls := by
      rw [← hG1]
      exact ok1 hp1 (ok2 s1 oe) _
    have p1 : G1 p = some (.ins C dx (putF "states" (V.ref m) [])) := by
      rw [← hG1, upd_same]
    have m1 : G1 m = some (.lst xs) := by
      rw [← hG1, upd_ne (Ne.symm hne), upd_same]
    have old1 : ∀ c o, H c = some o → c ≠ p → G1 c = some o := fun c o q n => by
      rw [← hG1, upd_ne n]
      exact s1 _ _ q
    change tLockE (tDc (iKeys (tVar 2)) (gName 4) tYes (tVar 4) (tCB (rTupT K) (tCons (tDGet (tVar 2) (tVar 4)) tNil)) [4]) [some (.ref p), some (.ref l), some (.ref d), some (.ref e), none] G1 (fun y H1 => tVar 0 [some (.ref p), some (.ref l), some (.ref d), some (.ref e), none] H1 fun x H2 => ∃ a C dx fs, x = .ref a ∧ H2 a = some (.ins C dx fs) ∧ Cls K C ∧ NoAttr K C "seen" ∧ fs.length < 1000 ∧ sFld K (tVar 0) (tLockE (tDc (iKeys (tVar 3)) (gName 4) tYes (tVar 4) (tCB (rTupT K) (tCons (tDGet (tVar 3) (tVar 4)) tNil)) [4])) "unseen" { nx := fun _ H' => Q V.non H', rt := Q } [some (.ref p), some (.ref l), some (.ref d), some (.ref e), none] (upd H2 a (.ins C dx (putF "seen" y fs))))
    refine rd_dcopy (dd := d) (.inl ⟨rfl, rfl⟩) d1 od1 fun D hD => ?_
    have s2 := same_upd (o := HO.dK ks) hD
    have nDp : D ≠ p := fun q => by rw [q, p1] at hD; cases hD
    refine ⟨_, rfl, p, C, dx, _, rfl, s2 _ _ p1, cl, n2, lt1, ?_⟩
    generalize hG2 : upd (upd G1 D (.dK ks)) p (.ins C dx (putF "seen" (V.ref D) (putF "states" (V.ref m) []))) = G2
    have hD0 : H D = none := by
      cases q : H D with
      | none => rfl
      | some o =>
        rw [old1 _ _ q nDp] at hD
        cases hD
    have e2 : G2 e = some (.dK ls) := by
      rw [← hG2, upd_ne ne]
      exact s2 _ _ e1
    have oe2 : dictOk K G2 ls := by
      rw [← hG2]
      exact ok1 (s2 _ _ p1) (ok2 s2 oe1) _
    have p2 : G2 p = some (.ins C dx (putF "seen" (V.ref D) (putF "states" (V.ref m) []))) := by
      rw [← hG2, upd_same]
    have m2 : G2 m = some (.lst xs) := by
      rw [← hG2, upd_ne (Ne.symm hne)]
      exact s2 _ _ m1
    have dd2 : G2 D = some (.dK ks) := by
      rw [← hG2, upd_ne nDp, upd_same]
    have old2 : ∀ c o, H c = some o → c ≠ p → G2 c = some o := fun c o q n => by
      rw [← hG2, upd_ne n]
      exact s2 _ _ (old1 c o q n)
    change tLockE (tDc (iKeys (tVar 3)) (gName 4) tYes (tVar 4) (tCB (rTupT K) (tCons (tDGet (tVar 3) (tVar 4)) tNil)) [4]) [some (.ref p), some (.ref l), some (.ref d), some (.ref e), none] G2 (fun y H1 => tVar 0 [some (.ref p), some (.ref l), some (.ref d), some (.ref e), none] H1 fun x H2 => ∃ a C dx fs, x = .ref a ∧ H2 a = some (.ins C dx fs) ∧ Cls K C ∧ NoAttr K C "unseen" ∧ fs.length < 1000 ∧ Q .non (upd H2 a (.ins C dx (putF "unseen" y fs))))
    refine rd_dcopy (dd := e) (.inr ⟨rfl, rfl⟩) e2 oe2 fun D2 hD2 => ?_
    have s3 := same_upd (o := HO.dK ls) hD2
    have nDp2 : D2 ≠ p := fun q => by rw [q, p2] at hD2; cases hD2
    refine ⟨_, rfl, p, C, dx, _, rfl, s3 _ _ p2, cl, n3, lt2, ?_⟩
    have hD20 : H D2 = none := by
      cases q : H D2 with
      | none => rfl
      | some o =>
        rw [old2 _ _ q nDp2] at hD2
        cases hD2
    refine k _ m D D2 (fun c o q n => ?_) (by rw [upd_same, si_put]) ?_ ?_ ?_ hm hD0 hD20
    · rw [upd_ne n]
      exact s3 _ _ (old2 c o q n)
    · rw [upd_ne (Ne.symm hne)]
      exact s3 _ _ m2
    · rw [upd_ne nDp]
      exact s3 _ _ dd2
    · rw [upd_ne nDp2, upd_same]
end
end KW

set_option Elab.async false
set_option linter.all false
set_option maxRecDepth 100000
set_option maxHeartbeats 4000000
namespace KW
open PySem PySem.Spec PyProof.Rows L2 LamX OwnOp EqX MulX
theorem Dh.sqT {K : PySem.W.Frag} {H : Hp} {v : V} {ds : List PyData} (h : Dh H v (.tuple ds)) : ∃ a xs, v = .ref a ∧ SqT K H a xs := by
  cases h with
  | tup e _ => exact ⟨_, _, rfl, SqT.of e⟩
theorem dict_seen {K : PySem.W.Frag} {H : Hp} {b : Bits} {v : V} (h : Dh H v (histP b)) : dictOk K H (seenK v) := by
  obtain ⟨a, xs, rfl, t⟩ := Dh.sqT (K := K) h
  exact .inr ⟨kOld, a, xs, rfl, t⟩
theorem dict_unseen {K : PySem.W.Frag} {H : Hp} {b : Bits} {v : V} (h : Dh H v (histP b)) : dictOk K H (unseenK b v) := by
  obtain ⟨a, xs, rfl, t⟩ := Dh.sqT (K := K) h
  unfold unseenK
  cases b.w
  · exact .inl rfl
  · exact .inr ⟨kWorn, a, xs, rfl, t⟩
section
variable {K : PySem.W.Frag} {C : Addr} {H : Hp} {Q : VK} {E : XK}
theorem same_own {x dx : Addr} (hx : H x = none) (hdx : H dx = none) {o1 o2 : HO} : Same H (upd (upd H dx o1) x o2) := fun c o e => by
  rw [upd_ne (ne_of_none e hx), upd_ne (ne_of_none e hdx)]
  exact e
theorem free_of {H1 : Hp} (s : Same H H1) {b : Addr} (h : H1 b = none) : H b = none := s.free h
theorem sa_mkG {l : Addr} {xs : List V} (hl : SqL K H l xs) (k : ∀ p H' m dx, Same H H' → H p = none → H' p = some (.ins C dx [("states", .ref m)]) → H' m = some (.lst xs) → H m = none → Q (.ref p) H') :
    ∀ x dx, H x = none → H dx = none → dx ≠ x → spSaInit K C [.ref x, .ref l] (upd (upd H dx (.own x)) x (.ins C dx [])) (fun v H3 => v = .non ∧ Q (.ref x) H3) E := by
  intro x dx hx hdx hne
  have s0 : Same H (upd (upd H dx (.own x)) x (.ins C dx [])) := same_own hx hdx
  refine ⟨x, dx, l, xs, rfl, upd_same, s0.seq hl, fun H' m old hp hm fm => ⟨rfl, ?_⟩⟩
  exact k x H' m dx (fun c o e => old c o (s0 c o e) (ne_of_none e hx)) hx hp hm (s0.free fm)
theorem ha_mkG {l : Addr} {xs : List V} (hl : SqT K H l xs) (k : ∀ p H' dx, Same H H' → H p = none → H' p = some (.ins C dx [("history", .ref l)]) → Q (.ref p) H') :
    ∀ x dx, H x = none → H dx = none → dx ≠ x → spHaInit K C [.ref x, .ref l] (upd (upd H dx (.own x)) x (.ins C dx [])) (fun v H3 => v = .non ∧ Q (.ref x) H3) E := by
  intro x dx hx hdx hne
  have s0 : Same H (upd (upd H dx (.own x)) x (.ins C dx [])) := same_own hx hdx
  refine ⟨x, dx, l, xs, rfl, upd_same, KW.Same.sqT s0 hl, fun H' old hp => ⟨rfl, ?_⟩⟩
  exact k x H' dx (fun c o e => old c o (s0 c o e) (ne_of_none e hx)) hx hp
theorem si_mkG {l d e : Addr} {xs : List V} {ks ls : List (Key × V)} (hl : SqL K H l xs) (hd : H d = some (.dK ks)) (od : dictOk K H ks) (he : H e = some (.dK ls)) (oe : dictOk K H ls)
    (k : ∀ p H' m d' e' dx, Same H H' → H p = none → H' p = some (.ins C dx [("states", .ref m), ("seen", .ref d'), ("unseen", .ref e')]) → H' m = some (.lst xs) → H' d' = some (.dK ks) → H' e' = some (.dK ls) → H m = none → H d' = none → H e' = none → Q (.ref p) H') :
    ∀ x dx, H x = none → H dx = none → dx ≠ x → spSiInit K C [.ref x, .ref l, .ref d, .ref e] (upd (upd H dx (.own x)) x (.ins C dx [])) (fun v H3 => v = .non ∧ Q (.ref x) H3) E := by
  intro x dx hx hdx hne
  have s0 : Same H (upd (upd H dx (.own x)) x (.ins C dx [])) := same_own hx hdx
  have ok2 : ∀ {kvs : List (Key × V)}, dictOk K H kvs → dictOk K (upd (upd H dx (.own x)) x (.ins C dx [])) kvs := fun h => by
    rcases h with h | ⟨k2, q, ts, e1, e2⟩
    · exact .inl h
    · exact .inr ⟨k2, q, ts, e1, KW.Same.sqT s0 e2⟩
  refine ⟨x, dx, l, xs, d, ks, e, ls, rfl, upd_same, s0.seq hl, s0 _ _ hd, ok2 od, s0 _ _ he, ok2 oe, fun H' m d' e' old hp hm hd' he' fm fd fe => ⟨rfl, ?_⟩⟩
  exact k x H' m d' e' dx (fun c o q => old c o (s0 c o q) (ne_of_none q hx)) hx hp hm hd' he' (s0.free fm) (s0.free fd) (s0.free fe)
end
/-- the facts of the law's own -/
structure LawD (K : PySem.W.Frag) (mg : Str → Option Value) where
  B : Blt mg
  Nu : DefAt K mg "_law_number" "_law_number" sNumber
  Pa : DefAt K mg "_law_parts" "_law_parts" sParts
  An : DefAt K mg "_law_answer" "_law_answer" sAnswer
  Se : DefAt K mg "_law_seen" "_law_seen" sSeen
  SA : ClsD K mg "Safe"
  HA : ClsD K mg "Harmed"
  SI : ClsD K mg "Sight"
  saI : InitD K SA.C "Safe.__init__" sSaInit
  haI : InitD K HA.C "Harmed.__init__" sHaInit
  siI : InitD K SI.C "Sight.__init__" sSiInit
  saE : MethD K SA.C "__eq__" "Safe.__eq__" sSaEq
  haE : MethD K HA.C "__eq__" "Harmed.__eq__" sHaEq
  siE : MethD K SI.C "__eq__" "Sight.__eq__" sSiEq
  nA : NoAttr K SA.C "states"
  nH : NoAttr K HA.C "history"
  n1 : NoAttr K SI.C "states"
  n2 : NoAttr K SI.C "seen"
  n3 : NoAttr K SI.C "unseen"
  ah : Ap K SA.C HA.C
  ai : Ap K SA.C SI.C
  ha : Ap K HA.C SA.C
  hi : Ap K HA.C SI.C
  ia : Ap K SI.C SA.C
  ih : Ap K SI.C HA.C
section
variable {P : Program} {w : World} {K : PySem.W.Frag} {mg : Str → Option Value} {base : Heap} {f : Addr} {fd : FuncData}
def LawD.C (L : LawD K mg) : C3 := ⟨L.SA.C, L.HA.C, L.SI.C⟩
theorem LawD.okSaI (L : LawD K mg) : FnOk P w K mg base CX0 1 L.saI.f L.saI.fd ["self", "states"] (spSaInit K L.SA.C) := ok_saI L.saI.F L.B L.SA.C L.SA.cl L.nA
theorem LawD.okHaI (L : LawD K mg) : FnOk P w K mg base CX0 1 L.haI.f L.haI.fd ["self", "history"] (spHaInit K L.HA.C) := ok_haI L.haI.F L.B L.HA.C L.HA.cl L.nH
theorem LawD.okSiI (L : LawD K mg) : FnOk P w K mg base CX0 1 L.siI.f L.siI.fd ["self", "states", "seen", "unseen"] (spSiInit K L.SI.C) := ok_siI L.siI.F L.B L.SI.C L.SI.cl L.n1 L.n2 L.n3
theorem LawD.okSaE (L : LawD K mg) : FnOk P w K mg base CX0 1 L.saE.f L.saE.fd ["self", "other"] (spEqA K L.C .sa) := ok_saEq L.saE.F L.B L.C L.SA rfl L.nA L.SA.KI.kit
theorem LawD.okHaE (L : LawD K mg) : FnOk P w K mg base CX0 1 L.haE.f L.haE.fd ["self", "other"] (spEqA K L.C .ha) := ok_haEq L.haE.F L.B L.C L.HA rfl L.nH L.HA.KI.kit
theorem LawD.okSiE (L : LawD K mg) : FnOk P w K mg base CX0 1 L.siE.f L.siE.fd ["self", "other"] (spEqA K L.C .si) := ok_siEq L.siE.F L.B L.C L.SI rfl L.n1 L.n2 L.n3 L.SI.KI.kit
theorem LawD.bSaI (L : LawD K mg) : Binds K L.saI.fd ["self", "states"] [] := L.saI.F.binds (ps := ["self", "states"]) fun _ _ _ _ _ _ us hl => match us, hl with | [_, _], _ => rfl
theorem LawD.bHaI (L : LawD K mg) : Binds K L.haI.fd ["self", "history"] [] := L.haI.F.binds (ps := ["self", "history"]) fun _ _ _ _ _ _ us hl => match us, hl with | [_, _], _ => rfl
theorem LawD.bSiI (L : LawD K mg) : Binds K L.siI.fd ["self", "states", "seen", "unseen"] [] := L.siI.F.binds (ps := ["self", "states", "seen", "unseen"]) fun _ _ _ _ _ _ us hl => match us, hl with | [_, _, _, _], _ => rfl
theorem LawD.bSaE (L : LawD K mg) : Binds K L.saE.fd ["self", "other"] [] := L.saE.F.binds (ps := ["self", "other"]) fun _ _ _ _ _ _ us hl => match us, hl with | [_, _], _ => rfl
theorem LawD.bHaE (L : LawD K mg) : Binds K L.haE.fd ["self", "other"] [] := L.haE.F.binds (ps := ["self", "other"]) fun _ _ _ _ _ _ us hl => match us, hl with | [_, _], _ => rfl
theorem LawD.bSiE (L : LawD K mg) : Binds K L.siE.fd ["self", "other"] [] := L.siE.F.binds (ps := ["self", "other"]) fun _ _ _ _ _ _ us hl => match us, hl with | [_, _], _ => rfl
theorem LawD.ap (L : LawD K mg) {w v : W3} (h : w ≠ v) : Ap K (L.C.of w) (L.C.of v) := by
  cases w <;> cases v <;> first | exact absurd rfl h | exact L.ah | exact L.ai | exact L.ha | exact L.hi | exact L.ia | exact L.ih
/-! ## _law_answer, _law_seen -/
def spAnswer (C : C3) : Sp := fun vs H Q _ => ∃ (w : W3) (p : Addr) (b : Bits) (xs : List V), vs = [.str w.word, .ref p] ∧ PartsAt H p w b xs ∧ ∀ H' q, Same H H' → H q = none → AnsAt C (vis H H') q w b → Q (.ref q) H'
def spSeen (C : C3) : Sp := fun vs H Q _ => ∃ (w : W3) (p : Addr) (b : Bits), vs = [.str w.word, .ref p] ∧ AnsAt C H p w b ∧ ∀ H' q xs, Same H H' → PartsAt H' q w b xs → Q (.ref q) H'
theorem scAn : FnScope ["word", "parts"] ["word", "parts"] (defScope sAnswer) := ⟨rfl, rfl, rfl, by decide +kernel, rfl, by decide +kernel, by decide +kernel⟩
theorem scSe : FnScope ["word", "found"] ["word", "found"] (defScope sSeen) := ⟨rfl, rfl, rfl, by decide +kernel, rfl, by decide +kernel, by decide +kernel⟩
theorem ok_answer (F : Fun K "_law_answer" "_law_answer" sAnswer f fd) (L : LawD K mg) : FnOk P w K mg base CX0 3 f fd ["word", "parts"] (spAnswer L.C) := by
  refine F.ok scAn (fun vs H Q E h => ?_) (fun cdv A outer s H vs Q E hr h => ?_)
  · obtain ⟨wd, p, b, xs, rfl, _⟩ := h
    rfl
  · obtain ⟨wd, p, b, xs, rfl, hp, k⟩ := h
    refine ⟨_, pss_cons (ps_if (pt_cmpR op_eq (pv 0) pe_str (nomark _)) (pss_one (ps_ret (pe_make L.saI.M L.okSaI hr rfl L.SA.g L.bSaI .nil pass0 (pa_cons (pe_ix ix_list (pv 1) pe_int (fun _ _ => rfl)) pa_nil)))) pss_nil)
      (pss_one (ps_ret (pe_ifExp (pt_cmpR op_eq (pv 0) pe_str (nomark _)) (pe_make L.haI.M L.okHaI hr rfl L.HA.g L.bHaI .nil pass0 (pa_cons (pe_ix ix_list (pv 1) pe_int (fun _ _ => rfl)) pa_nil))
        (pe_make L.siI.M L.okSiI hr rfl L.SI.g L.bSiI .nil pass0 (pa_cons (pe_ix ix_list (pv 1) pe_int (fun _ _ => rfl)) (pa_cons (pe_ix ix_list (pv 1) pe_int (fun _ _ => rfl)) (pa_cons (pe_ix ix_list (pv 1) pe_int (fun _ _ => rfl)) pa_nil))))))), ?_⟩
    cases hp with
    | @sa _ l v a1 a2 a3 =>
      refine ⟨_, rfl, rfl, _, rfl, ?_⟩
      refine iteB (c := decide (V.str (W3.word .sa) = V.str "safe")) (decide_eq_true rfl) ?_
      refine ⟨_, rfl, p, _, _, _, rfl, rfl, SqL.of a1, rfl, ?_⟩
      refine sa_mkG (SqL.of a2) fun q H' m dx s hq e1 e2 fm => ?_
      exact k H' q s hq (.sa ((vis_new hq).trans e1) ((vis_new fm).trans e2) (Dh.mono vis_ts _ _ (a3.same s)))
    | @ha _ v a1 a2 =>
      refine ⟨_, rfl, rfl, _, rfl, ?_⟩
      refine iteBF (c := decide (V.str (W3.word .ha) = V.str "safe")) (by decide +kernel) ?_
      refine ⟨_, rfl, rfl, _, rfl, ?_⟩
      refine iteB (c := decide (V.str (W3.word .ha) = V.str "harmed")) (decide_eq_true rfl) ?_
      obtain ⟨a, ts, rfl, t⟩ := Dh.sqT (K := K) a2
      refine ⟨_, rfl, p, _, _, _, rfl, rfl, SqL.of a1, rfl, ?_⟩
      refine ha_mkG t fun q H' dx s hq e1 => ?_
      exact k H' q s hq (.ha ((vis_new hq).trans e1) (Dh.mono vis_ts _ _ (a2.same s)))
    | @si _ l d e v h a1 a2 a3 a4 a5 a6 =>
      refine ⟨_, rfl, rfl, _, rfl, ?_⟩
      refine iteBF (c := decide (V.str (W3.word .si) = V.str "safe")) (by decide +kernel) ?_
      refine ⟨_, rfl, rfl, _, rfl, ?_⟩
      refine iteBF (c := decide (V.str (W3.word .si) = V.str "harmed")) (by decide +kernel) ?_
      refine ⟨_, rfl, p, _, _, _, rfl, rfl, SqL.of a1, rfl, ?_⟩
      refine ⟨_, rfl, p, _, _, _, rfl, rfl, SqL.of a1, rfl, ?_⟩
      refine ⟨_, rfl, p, _, _, _, rfl, rfl, SqL.of a1, rfl, ?_⟩
      refine si_mkG (SqL.of a2) a4 (dict_seen a6) a5 (dict_unseen a6) fun q H' m d' e' dx s hq e1 e2 e3 e4 fm fd fe => ?_
      exact k H' q s hq (.si ((vis_new hq).trans e1) ((vis_new fm).trans e2) (Dh.mono vis_ts _ _ (a3.same s)) ((vis_new fd).trans e3) ((vis_new fe).trans e4) (Dh.mono vis_ts _ _ (a6.same s)))
theorem ok_seen (F : Fun K "_law_seen" "_law_seen" sSeen f fd) (L : LawD K mg) : FnOk P w K mg base CX0 1 f fd ["word", "found"] (spSeen L.C) := by
  refine F.ok scSe (fun vs H Q E h => ?_) (fun cdv A outer s H vs Q E hr h => ?_)
  · obtain ⟨wd, p, b, rfl, _⟩ := h
    rfl
  · obtain ⟨wd, p, b, rfl, hp, k⟩ := h
    refine ⟨_, pss_cons (ps_if (pt_cmpR op_eq (pv 0) pe_str (nomark _)) (pss_one (ps_ret (pe_lst (pa_cons (pe_fld (pv 1) rfl) pa_nil)))) pss_nil)
      (pss_one (ps_ret (pe_ifExp (pt_cmpR op_eq (pv 0) pe_str (nomark _)) (pe_lst (pa_cons (pe_fld (pv 1) rfl) pa_nil)) (pe_lst (pa_cons (pe_fld (pv 1) rfl) (pa_cons (pe_fld (pv 1) rfl) (pa_cons (pe_fld (pv 1) rfl) pa_nil))))))), ?_⟩
    cases hp with
    | @sa _ dx l v a1 a2 a3 =>
      refine ⟨_, rfl, rfl, _, rfl, ?_⟩
      refine iteB (c := decide (V.str (W3.word .sa) = V.str "safe")) (decide_eq_true rfl) ?_
      refine ⟨_, rfl, p, _, dx, _, _, rfl, a1, L.SA.cl, L.nA, one_fld _ _, (by show 1 ≤ sizeLine; decide), fun q hq => ?_⟩
      have s := same_upd (o := HO.lst [V.ref l]) hq
      exact k _ q _ s (.sa upd_same (s _ _ a2) (a3.same s))
    | @ha _ dx v a1 a2 =>
      refine ⟨_, rfl, rfl, _, rfl, ?_⟩
      refine iteBF (c := decide (V.str (W3.word .ha) = V.str "safe")) (by decide +kernel) ?_
      refine ⟨_, rfl, rfl, _, rfl, ?_⟩
      refine iteB (c := decide (V.str (W3.word .ha) = V.str "harmed")) (decide_eq_true rfl) ?_
      refine ⟨_, rfl, p, _, dx, _, _, rfl, a1, L.HA.cl, L.nH, one_fld _ _, (by show 1 ≤ sizeLine; decide), fun q hq => ?_⟩
      have s := same_upd (o := HO.lst [v]) hq
      exact k _ q _ s (.ha upd_same (a2.same s))
    | @si _ dx l d e v h a1 a2 a3 a4 a5 a6 =>
      refine ⟨_, rfl, rfl, _, rfl, ?_⟩
      refine iteBF (c := decide (V.str (W3.word .si) = V.str "safe")) (by decide +kernel) ?_
      refine ⟨_, rfl, rfl, _, rfl, ?_⟩
      refine iteBF (c := decide (V.str (W3.word .si) = V.str "harmed")) (by decide +kernel) ?_
      refine ⟨_, rfl, p, _, dx, _, _, rfl, a1, L.SI.cl, L.n1, si1 _ _ _, ?_⟩
      refine ⟨_, rfl, p, _, dx, _, _, rfl, a1, L.SI.cl, L.n2, si2 _ _ _, ?_⟩
      refine ⟨_, rfl, p, _, dx, _, _, rfl, a1, L.SI.cl, L.n3, si3 _ _ _, (by show 3 ≤ sizeLine; decide), fun q hq => ?_⟩
      have s := same_upd (o := HO.lst [V.ref l, V.ref d, V.ref e]) hq
      exact k _ q _ s (.si upd_same (s _ _ a2) (a3.same s) (s _ _ a4) (s _ _ a5) (a6.same s))
end
end KW

set_option Elab.async false
set_option linter.all false
set_option maxRecDepth 100000
set_option maxHeartbeats 4000000
namespace KW
open PySem PySem.Spec PyProof.Rows L2 LamX OwnOp EqX MulX
/-! ## a keep beside a plan -/
def spOther (K : PySem.W.Frag) (C : Addr) : Sp := fun vs H Q _ => ∃ a b D dy gs, vs = [.ref a, .ref b] ∧ H b = some (.ins D dy gs) ∧ Ap K C D ∧ Q (.bl false) H
section
variable {P : Program} {w : World} {K : PySem.W.Frag} {mg : Str → Option Value} {base : Heap} {f : Addr} {fd : FuncData}
theorem ok_kOther (F : Fun K "__eq__" "Keep.__eq__" sKEq f fd) (B : Blt mg) (KC : KCls K mg) : FnOk P w K mg base CX0 1 f fd ["self", "other"] (spOther K KC.C) := by
  refine F.ok scKEq (fun vs H Q E h => ?_) (fun cdv A outer s H vs Q E hr h => ?_)
  · obtain ⟨a, b, D, dy, gs, rfl, _⟩ := h
    rfl
  · obtain ⟨a, b, D, dy, gs, rfl, h2, ap, k⟩ := h
    refine ⟨_, pss_one (ps_ret (pe_and (pe_callB call_isi (by rfl) B.isi PyProof.Rows.boot_isinstance (pa_cons (pv 1) (pa_cons (pe_glob (v := .ref KC.C) (by rfl) KC.g rfl) pa_nil)))
      (pe_and (pe_cmpR op_eq (pe_fld (pv 0) rfl) (pe_fld (pv 1) rfl) (nomark _)) (pe_and (pe_cmpR op_eq (pe_fld (pv 0) rfl) (pe_fld (pv 1) rfl) (nomark _)) (pe_and (pe_cmpR (op_eqD hr.units) (pe_fld (pv 0) rfl) (pe_fld (pv 1) rfl) (nomark _))
      (pe_one (pe_cmpR op_eq (pe_fld (pv 0) rfl) (pe_fld (pv 1) rfl) (nomark _)))))))), ?_⟩
    refine ⟨_, rfl, _, _, _, _, _, rfl, .own KC.C, .base (.ins h2 ap.cl ap.KI.ha ap.KI.hn ap.KI.ht ap.KI.hm), ap.kit, _, rfl, ?_⟩
    exact iteF k
theorem ok_pOther (F : Fun K "__eq__" "Plan.__eq__" sPEq f fd) (B : Blt mg) (PC : PCls K mg) : FnOk P w K mg base CX0 1 f fd ["self", "other"] (spOther K PC.C) := by
  refine F.ok scPEq (fun vs H Q E h => ?_) (fun cdv A outer s H vs Q E hr h => ?_)
  · obtain ⟨a, b, D, dy, gs, rfl, _⟩ := h
    rfl
  · obtain ⟨a, b, D, dy, gs, rfl, h2, ap, k⟩ := h
    refine ⟨_, pss_one (ps_ret (pe_and (pe_callB call_isi (by rfl) B.isi PyProof.Rows.boot_isinstance (pa_cons (pv 1) (pa_cons (pe_glob (v := .ref PC.C) (by rfl) PC.g rfl) pa_nil)))
      (pe_and (pe_cmpR (op_eqD hr.units) (pe_fld (pv 0) rfl) (pe_fld (pv 1) rfl) (nomark _)) (pe_and (pe_cmpR (op_eqD hr.units) (pe_fld (pv 0) rfl) (pe_fld (pv 1) rfl) (nomark _)) (pe_and (pe_cmpR op_eq (pe_fld (pv 0) rfl) (pe_fld (pv 1) rfl) (nomark _))
      (pe_and (pe_cmpR op_eq (pe_fld (pv 0) rfl) (pe_fld (pv 1) rfl) (nomark _)) (pe_one (pe_cmpR op_eq (pe_fld (pv 0) rfl) (pe_fld (pv 1) rfl) (nomark _))))))))), ?_⟩
    refine ⟨_, rfl, _, _, _, _, _, rfl, .own PC.C, .base (.ins h2 ap.cl ap.KI.ha ap.KI.hn ap.KI.ht ap.KI.hm), ap.kit, _, rfl, ?_⟩
    exact iteF k
/-- Keep and Plan, as the law uses them -/
structure KPD (K : PySem.W.Frag) (mg : Str → Option Value) where
  T : Parts K mg
  KC : KCls K mg
  KM : KMk K mg KC.C
  PC : PCls K mg
  PM : PMkr K mg PC.C
  kE : MethD K KC.C "__eq__" "Keep.__eq__" sKEq
  pE : MethD K PC.C "__eq__" "Plan.__eq__" sPEq
  kp : Ap K KC.C PC.C
  pk : Ap K PC.C KC.C
  hk : PySem.W.findIn K (.ref KC.C) "__ne__" = some (some (.builtin "object.__ne__"))
  hp : PySem.W.findIn K (.ref PC.C) "__ne__" = some (some (.builtin "object.__ne__"))
theorem KPD.opNeK (D : KPD K mg) {X : Cx} (e1 : X.K = K) (e2 : X.mg = mg) (hr : Room 2 X.A) : OpR X (compareOp .NotEq) (rOwn2 K D.KC.C (spOther K D.KC.C) E0 not) := by
  subst e1 e2
  exact op_ne_own2 (ok_kOther D.kE.F D.T.B D.KC) hr D.kE.m (D.kE.F.binds (ps := ["self", "other"]) fun _ _ _ _ _ _ us hl => match us, hl with | [_, _], _ => rfl) pass0 D.pk.KI.hm D.hk
theorem KPD.opNeP (D : KPD K mg) {X : Cx} (e1 : X.K = K) (e2 : X.mg = mg) (hr : Room 2 X.A) : OpR X (compareOp .NotEq) (rOwn2 K D.PC.C (spOther K D.PC.C) E0 not) := by
  subst e1 e2
  exact op_ne_own2 (ok_pOther D.pE.F D.T.B D.PC) hr D.pE.m (D.pE.F.binds (ps := ["self", "other"]) fun _ _ _ _ _ _ us hl => match us, hl with | [_, _], _ => rfl) pass0 D.kp.KI.hm D.hp
/-! ## == and != of answers -/
def rAny (K : PySem.W.Frag) (C : C3) (g : Bool → Bool) : R2 := fun x y H Q => ∃ w, rOwn2 K (C.of w) (spEqA K C w) E0 g x y H Q
theorem LawD.opEq (L : LawD K mg) {X : Cx} (e1 : X.K = K) (e2 : X.mg = mg) (hr : Room 1 X.A) : OpR X (compareOp .Eq) (rAny K L.C id) := by
  subst e1 e2
  intro pins s σ H x y v u Q I rx ry h
  obtain ⟨w, h⟩ := h
  cases w with
  | sa => exact op_eq_own2 L.okSaE hr L.saE.m L.bSaE pass0 pins s σ H x y v u Q I rx ry h
  | ha => exact op_eq_own2 L.okHaE hr L.haE.m L.bHaE pass0 pins s σ H x y v u Q I rx ry h
  | si => exact op_eq_own2 L.okSiE hr L.siE.m L.bSiE pass0 pins s σ H x y v u Q I rx ry h
theorem LawD.opNe (L : LawD K mg) {X : Cx} (e1 : X.K = K) (e2 : X.mg = mg) (hr : Room 2 X.A) : OpR X (compareOp .NotEq) (rAny K L.C not) := by
  subst e1 e2
  intro pins s σ H x y v u Q I rx ry h
  obtain ⟨w, h⟩ := h
  cases w with
  | sa => exact op_ne_own2 L.okSaE hr L.saE.m L.bSaE pass0 L.SA.KI.hm L.SA.hn pins s σ H x y v u Q I rx ry h
  | ha => exact op_ne_own2 L.okHaE hr L.haE.m L.bHaE pass0 L.HA.KI.hm L.HA.hn pins s σ H x y v u Q I rx ry h
  | si => exact op_ne_own2 L.okSiE hr L.siE.m L.bSiE pass0 L.SI.KI.hm L.SI.hn pins s σ H x y v u Q I rx ry h
/-- what == tells of two answers -/
def eqA (w v : W3) (x y : Bits) : Bool := decide (w = v) && eqW w x y
theorem rd_any {C : C3} {K : PySem.W.Frag} {H : Hp} {Q : VK} {g : Bool → Bool} {a b : Addr} {w v : W3} {x y : Bits} (ap : w ≠ v → Ap K (C.of w) (C.of v)) (h1 : AnsAt C H a w x) (h2 : AnsAt C H b v y) (k : Q (.bl (g (eqA w v x y))) H) :
    rAny K C g (.ref a) (.ref b) H Q := by
  obtain ⟨dx, fs, e1⟩ := h1.ins
  obtain ⟨dy, gs, e2⟩ := h2.ins
  by_cases e : w = v
  · subst e
    refine ⟨w, a, b, dx, fs, C.of w, dy, gs, rfl, rfl, e1, e2, notFirst_self, a, b, rfl, .inl ⟨x, y, h1, h2, _, rfl, ?_⟩⟩
    have e3 : eqA w w x y = eqW w x y := by
      unfold eqA
      rw [decide_eq_true rfl, Bool.true_and]
    rw [e3] at k
    exact k
  · refine ⟨w, a, b, dx, fs, C.of v, dy, gs, rfl, rfl, e1, e2, (ap e).nf, a, b, rfl, .inr ⟨C.of v, dy, gs, e2, ap e, _, rfl, ?_⟩⟩
    have e3 : eqA w v x y = false := by
      unfold eqA
      rw [decide_eq_false e, Bool.false_and]
    rw [e3] at k
    exact k
end
end KW

set_option Elab.async false
set_option linter.all false
set_option maxRecDepth 100000
set_option maxHeartbeats 4000000
namespace KW
open PySem PySem.Spec PyProof.Rows L2 LamX OwnOp EqX MulX
theorem keep_mkR {K : PySem.W.Frag} {C CB : Addr} {H : Hp} {R : Addr → VK} {E : XK} {s b h m : V} {ds db dh dm : Dat} (hs : Is K H s ds) (hb : Is K H b db) (hh : Is K H h dh) (hm : Is K H m dm) (hsh : short dh)
    (hE : ∀ wd, keepBad ds db dh dm = some wd → ∀ d H', Same H H' → H' d = some (.xd [("part", .str wd)]) → E (.ref CB) (some d) H')
    (hQ : ∀ d : KD, s = .int d.s → b = .int d.b → dh = .tup d.hs → m = .int d.m → ∀ p H', Same H H' → H p = none → KeepAt K C H' p d → R p .non H') :
    ∀ x dx, H x = none → H dx = none → dx ≠ x → spKInit K C CB [.ref x, s, b, h, m] (upd (upd H dx (.own x)) x (.ins C dx [])) (R x) E := by
  intro x dx hx hdx hne
  have s0 : Same H (upd (upd H dx (.own x)) x (.ins C dx [])) := fun c o e => by
    rw [upd_ne (ne_of_none e hx), upd_ne (ne_of_none e hdx)]
    exact e
  refine ⟨x, dx, s, b, h, m, ds, db, dh, dm, rfl, upd_same, KW.Same.is s0 hs, KW.Same.is s0 hb, KW.Same.is s0 hh, KW.Same.is s0 hm, hsh, fun wd k d H' s1 hd => hE wd k d H' (s0.trans s1) hd, fun k H' old new => ?_⟩
  have s1 : Same H H' := fun c o e => old c o (s0 c o e) (ne_of_none e hx)
  obtain ⟨d, hr, rfl, rfl, rfl, rfl, t, bad, e1, e2, e3, e4⟩ := keep_parts hs hb hh hm k
  exact hQ d rfl rfl e3 rfl x H' s1 hx ⟨⟨dx, hr, new, KW.Same.sqT s1 t⟩, bad⟩
theorem plan_mkR {K : PySem.W.Frag} {C CB : Addr} {H : Hp} {R : Addr → VK} {E : XK} {u r c m l : V} {du dr dc dm dl : Dat} (hu : Is K H u du) (hr : Is K H r dr) (hc : Is K H c dc) (hm : Is K H m dm) (hl : Is K H l dl) (su : short du) (sr : short dr)
    (hE : ∀ wd, planBad du dr dc dm dl = some wd → ∀ d H', Same H H' → H' d = some (.xd [("part", .str wd)]) → E (.ref CB) (some d) H')
    (hQ : ∀ d : PD, du = .tup d.u → dr = .tup d.r → dc = .fl d.c → dm = .fl d.m → dl = .fl d.l → ∀ p H', Same H H' → H p = none → PlanAt K C H' p d → R p .non H') :
    ∀ x dx, H x = none → H dx = none → dx ≠ x → spPInit K C CB [.ref x, u, r, c, m, l] (upd (upd H dx (.own x)) x (.ins C dx [])) (R x) E := by
  intro x dx hx hdx hne
  have s0 : Same H (upd (upd H dx (.own x)) x (.ins C dx [])) := fun c o e => by
    rw [upd_ne (ne_of_none e hx), upd_ne (ne_of_none e hdx)]
    exact e
  refine ⟨x, dx, u, r, c, m, l, du, dr, dc, dm, dl, rfl, upd_same, KW.Same.is s0 hu, KW.Same.is s0 hr, KW.Same.is s0 hc, KW.Same.is s0 hm, KW.Same.is s0 hl, su, sr, fun wd k d H' s1 hd => hE wd k d H' (s0.trans s1) hd, fun k H' old new => ?_⟩
  have s1 : Same H H' := fun c o e => old c o (s0 c o e) (ne_of_none e hx)
  obtain ⟨d, pu, pr, rfl, rfl, rfl, rfl, rfl, t1, t2, bad, e1, e2, e3, e4, e5⟩ := plan_parts hu hr hc hm hl k
  exact hQ d e1 e2 e3 e4 e5 x H' s1 hx ⟨⟨dx, pu, pr, new, KW.Same.sqT s1 t1, KW.Same.sqT s1 t2⟩, bad⟩
theorem sa_mkR {K : PySem.W.Frag} {C : Addr} {H : Hp} {R : Addr → VK} {E : XK} {l : Addr} {xs : List V} (hl : SqL K H l xs) (k : ∀ p H' m dx, Same H H' → H p = none → H' p = some (.ins C dx [("states", .ref m)]) → R p .non H') :
    ∀ x dx, H x = none → H dx = none → dx ≠ x → spSaInit K C [.ref x, .ref l] (upd (upd H dx (.own x)) x (.ins C dx [])) (R x) E := by
  intro x dx hx hdx hne
  have s0 : Same H (upd (upd H dx (.own x)) x (.ins C dx [])) := same_own hx hdx
  exact ⟨x, dx, l, xs, rfl, upd_same, s0.seq hl, fun H' m old hp _ _ => k x H' m dx (fun c o e => old c o (s0 c o e) (ne_of_none e hx)) hx hp⟩
theorem ha_mkR {K : PySem.W.Frag} {C : Addr} {H : Hp} {R : Addr → VK} {E : XK} {l : Addr} {xs : List V} (hl : SqT K H l xs) (k : ∀ p H' dx, Same H H' → H p = none → H' p = some (.ins C dx [("history", .ref l)]) → R p .non H') :
    ∀ x dx, H x = none → H dx = none → dx ≠ x → spHaInit K C [.ref x, .ref l] (upd (upd H dx (.own x)) x (.ins C dx [])) (R x) E := by
  intro x dx hx hdx hne
  have s0 : Same H (upd (upd H dx (.own x)) x (.ins C dx [])) := same_own hx hdx
  exact ⟨x, dx, l, xs, rfl, upd_same, KW.Same.sqT s0 hl, fun H' old hp => k x H' dx (fun c o e => old c o (s0 c o e) (ne_of_none e hx)) hx hp⟩
/-! ## all but one address -/
def hide (H : Hp) (R : Addr) : Hp := fun b => if b = R then none else H b
theorem hide_ne {H : Hp} {R b : Addr} (h : b ≠ R) : hide H R b = H b := by
  unfold hide
  rw [if_neg h]
theorem hide_case {H : Hp} {R b : Addr} {o : HO} (h : hide H R b = some o) : b ≠ R ∧ H b = some o := by
  unfold hide at h
  split at h
  · cases h
  · rename_i e
    exact ⟨e, h⟩
theorem hide_same {H : Hp} {R : Addr} : Same (hide H R) H := fun b o e => (hide_case e).2
theorem hide_up {H H' : Hp} {R : Addr} (s : Same H H') : Same (hide H R) (hide H' R) := fun b o e => by
  obtain ⟨n, e⟩ := hide_case e
  rw [hide_ne n]
  exact s _ _ e
theorem hide_upd {H : Hp} {R : Addr} {o : HO} : hide (upd H R o) R = hide H R := by
  funext b
  unfold hide
  split
  · rfl
  · rename_i e
    exact upd_ne e
/-! ## rows -/
def RowAt (C : C3) (H : Hp) (t : Addr) : Prop := ∃ (w : W3) (pa po : Addr) (b : Bits) (xs : List V), H t = some (.tup [.str w.word, .ref pa, .ref po]) ∧ PartsAt H pa w b xs ∧ AnsAt C H po w b
theorem RowAt.same {C : C3} {H H' : Hp} {t : Addr} (s : Same H H') (h : RowAt C H t) : RowAt C H' t := by
  obtain ⟨w, pa, po, b, xs, h1, h2, h3⟩ := h
  exact ⟨w, pa, po, b, xs, s _ _ h1, h2.same s, h3.same s⟩
/-- an item of a list of parts -/
def Item (G : Hp) (x : V) : Prop := (∃ a vs, x = .ref a ∧ G a = some (.lst vs)) ∨ (∃ a kvs, x = .ref a ∧ G a = some (.dK kvs)) ∨ ∃ a vs, x = .ref a ∧ G a = some (.tup vs)
theorem Item.alloc {G : Hp} {q : Addr} (h : Item G (.ref q)) : ∃ o, G q = some o := by
  rcases h with ⟨a, vs, e, h⟩ | ⟨a, vs, e, h⟩ | ⟨a, vs, e, h⟩ <;> (cases e; exact ⟨_, h⟩)
theorem Item.same {G G' : Hp} {x : V} (s : Same G G') (h : Item G x) : Item G' x := by
  rcases h with ⟨a, vs, e, h⟩ | ⟨a, vs, e, h⟩ | ⟨a, vs, e, h⟩
  · exact .inl ⟨a, vs, e, s _ _ h⟩
  · exact .inr (.inl ⟨a, vs, e, s _ _ h⟩)
  · exact .inr (.inr ⟨a, vs, e, s _ _ h⟩)
theorem PartsAt.items {H : Hp} {p : Addr} {w : W3} {b : Bits} {xs : List V} (h : PartsAt H p w b xs) : ∀ x ∈ xs, Item H x := by
  intro x hx
  cases h with
  | sa a1 a2 a3 =>
    cases List.mem_singleton.mp hx
    exact .inl ⟨_, _, rfl, a2⟩
  | ha a1 a2 =>
    cases List.mem_singleton.mp hx
    cases a2 with
    | tup e _ => exact .inr (.inr ⟨_, _, rfl, e⟩)
  | si a1 a2 a3 a4 a5 a6 =>
    rcases List.mem_cons.mp hx with e | hx
    · subst e
      exact .inl ⟨_, _, rfl, a2⟩
    · rcases List.mem_cons.mp hx with e | hx
      · subst e
        exact .inr (.inl ⟨_, _, rfl, a4⟩)
      · cases List.mem_singleton.mp hx
        exact .inr (.inl ⟨_, _, rfl, a5⟩)
theorem PartsAt.lst {H : Hp} {p : Addr} {w : W3} {b : Bits} {xs : List V} (h : PartsAt H p w b xs) : H p = some (.lst xs) := by
  cases h with
  | sa a1 => exact a1
  | ha a1 => exact a1
  | si a1 => exact a1
theorem PartsAt.notin {H : Hp} {p : Addr} {w : W3} {b : Bits} {xs : List V} (h : PartsAt H p w b xs) : V.ref p ∉ xs := by
  intro hx
  cases h with
  | @sa _ l v a1 a2 a3 =>
    cases List.mem_singleton.mp hx
    rw [a1] at a2
    have e := HO.lst.inj (Option.some.inj a2)
    have e1 : v = .ref p := by
      unfold statesV at e
      cases q : b.n with
      | true => rw [q] at e; cases e
      | false => rw [q] at e; exact (List.cons.inj e).1.symm
    subst e1
    cases a3 with
    | tup e2 _ => rw [a1] at e2; cases e2
  | ha a1 a2 =>
    cases List.mem_singleton.mp hx
    cases a2 with
    | tup e2 _ => rw [a1] at e2; cases e2
  | si a1 a2 a3 a4 a5 a6 =>
    rcases List.mem_cons.mp hx with e | hx
    · cases e
      rw [a1] at a2
      cases a2
    · rcases List.mem_cons.mp hx with e | hx
      · cases e
        rw [a1] at a4
        cases a4
      · cases List.mem_singleton.mp hx
        rw [a1] at a5
        cases a5
/-- while the items of a list of parts are cleared -/
def Clr (xs : List V) (H G : Hp) : Prop := (∀ b o, H b = some o → (V.ref b ∉ xs ∨ ∃ ts, o = .tup ts) → G b = some o) ∧ ∀ x ∈ xs, Item G x
theorem Clr.upd {xs : List V} {H G : Hp} {a : Addr} {o' : HO} (h : Clr xs H G) (ha : V.ref a ∈ xs) (hg : ∀ ts, G a ≠ some (.tup ts)) (ho : (∃ vs, o' = .lst vs) ∨ ∃ kvs, o' = .dK kvs) : Clr xs H (upd G a o') := by
  refine ⟨fun b o e c => ?_, fun x hx => ?_⟩
  · have k := h.1 b o e c
    have n : b ≠ a := fun q => by
      subst q
      rcases c with c | ⟨ts, rfl⟩
      · exact c ha
      · exact hg _ k
    rw [upd_ne n]
    exact k
  · by_cases e : x = .ref a
    · subst e
      rcases ho with ⟨vs, rfl⟩ | ⟨kvs, rfl⟩
      · exact .inl ⟨a, vs, rfl, upd_same⟩
      · exact .inr (.inl ⟨a, kvs, rfl, upd_same⟩)
    · rcases h.2 x hx with ⟨c, vs, q, g⟩ | ⟨c, vs, q, g⟩ | ⟨c, vs, q, g⟩
      · refine .inl ⟨c, vs, q, ?_⟩
        rw [upd_ne (fun z => e (by rw [q, z]))]
        exact g
      · refine .inr (.inl ⟨c, vs, q, ?_⟩)
        rw [upd_ne (fun z => e (by rw [q, z]))]
        exact g
      · refine .inr (.inr ⟨c, vs, q, ?_⟩)
        rw [upd_ne (fun z => e (by rw [q, z]))]
        exact g
/-- what a turn leaves -/
theorem turn_keeps {H0 H1 H3 G : Hp} {xs : List V} (s03 : Same H0 H3) (f0 : ∀ q, V.ref q ∈ xs → H0 q = none) (i1 : ∀ x ∈ xs, Item H1 x) (s01 : Same H0 H1) (c : Clr xs H3 G) : Same H0 G ∧ Same (vis H1 H3) (vis H0 G) := by
  constructor
  · intro b o e
    refine c.1 b o (s03 _ _ e) (.inl fun hx => ?_)
    rw [f0 b hx] at e
    cases e
  · intro b o e
    obtain ⟨e1, e2⟩ := vis_case e
    have g : G b = some o := c.1 b o e1 (by
      rcases e2 with e2 | e2
      · refine .inl fun hx => ?_
        obtain ⟨o2, k⟩ := (i1 _ hx).alloc
        rw [e2] at k
        cases k
      · exact .inr e2)
    rcases e2 with e2 | ⟨ts, rfl⟩
    · rw [vis_new (s01.free e2)]
      exact g
    · exact vis_tup g
theorem vis_hide {H0 G : Hp} {R : Addr} {rs : List V} (hR : H0 R = some (.lst rs)) (gR : G R = some (.lst rs)) : Same (vis H0 G) (hide G R) := fun b o e => by
  obtain ⟨e1, e2⟩ := vis_case e
  have n : b ≠ R := fun q => by
    subst q
    rcases e2 with e2 | ⟨ts, rfl⟩
    · rw [hR] at e2
      cases e2
    · rw [gR] at e1
      cases e1
  rw [hide_ne n]
  exact e1
/-- the words of the law -/
def wordsV : List V := [.str "safe", .str "harmed", .str "sight"]
theorem word_at (n : Nat) : ∃ w : W3, atI wordsV ((0 + (n : Int)) % 3) = some (.str w.word) := by
  have h : (0 + (n : Int)) % 3 = 0 ∨ (0 + (n : Int)) % 3 = 1 ∨ (0 + (n : Int)) % 3 = 2 := by omega
  rcases h with h | h | h
  · exact ⟨.sa, by rw [h]; rfl⟩
  · exact ⟨.ha, by rw [h]; rfl⟩
  · exact ⟨.si, by rw [h]; rfl⟩
theorem word_ne {w v : W3} (h : w ≠ v) : decide (V.str w.word = V.str v.word) = false := by
  cases w <;> cases v <;> first | exact absurd rfl h | decide +kernel
/-- the law's lists, while the rows grow -/
structure LI (K : PySem.W.Frag) (C : C3) (R W a : Addr) (ns : List Int) (H : Hp) (n : Nat) : Prop where
  scr : SqL K (hide H R) a (ns.map V.int)
  wds : hide H R W = some (.tup wordsV)
  rows : ∃ ts : List Addr, H R = some (.lst (ts.map V.ref)) ∧ ts.length = n ∧ ∀ t ∈ ts, RowAt C (hide H R) t
end KW

set_option Elab.async false
set_option linter.all false
set_option maxRecDepth 100000
set_option maxHeartbeats 4000000
namespace KW
open PySem PySem.Spec PyProof.Rows L2 LamX OwnOp EqX MulX
/-! ## law -/
abbrev nsLw : List Str := ["script", "words", "rows", "turn", "word", "parts", "again", "found", "part", "one", "other_word", "others", "two", "due", "keep", "plan"]
def spLaw (K : PySem.W.Frag) : Sp := fun vs H Q _ => ∃ (a : Addr) (ns : List Int), vs = [.ref a] ∧ SqL K H a (ns.map V.int) ∧ ns.length ≤ 63 ∧ ∀ H', Q (.bl true) H'
section
variable {P : Program} {w : World} {K : PySem.W.Frag} {mg : Str → Option Value} {base : Heap} {f : Addr} {fd : FuncData}
theorem scLaw : FnScope nsLw ["script"] (defScope sLaw) := ⟨rfl, rfl, rfl, by decide +kernel, rfl, by decide +kernel, by decide +kernel⟩
theorem ok_law (F : Fun K "law" "law" sLaw f fd) (L : LawD K mg) (D : KPD K mg) : FnOk P w K mg base CX0 13 f fd ["script"] (spLaw K) := by
  have bPa := L.Pa.F.binds (ps := ["script", "at", "word"]) fun _ _ _ _ _ _ us hl => match us, hl with | [_, _, _], _ => rfl
  have bAn := L.An.F.binds (ps := ["word", "parts"]) fun _ _ _ _ _ _ us hl => match us, hl with | [_, _], _ => rfl
  have bSe := L.Se.F.binds (ps := ["word", "found"]) fun _ _ _ _ _ _ us hl => match us, hl with | [_, _], _ => rfl
  have B := L.B
  refine F.ok scLaw (fun vs H Q E h => ?_) (fun cdv A outer s H vs Q E hr h => ?_)
  · obtain ⟨a, ns, rfl, _⟩ := h
    rfl
  · obtain ⟨a, ns, rfl, ha, hl, kQ⟩ := h
    have hr6 : Room 6 _ := hr.mono (by decide)
    have hr3 : Room 3 _ := hr.mono (by decide)
    have hr2 : Room 2 _ := hr.mono (by decide)
    have hr1 : Room 1 _ := hr.mono (by decide)
    have hu : (A.deeper (envOfC "law" (defScope sLaw) s.heap.objs.size f cdv)).units + 70 < cLine := by
      have := hr.un
      omega
    obtain ⟨d2, k2v, k2b⟩ := kb2 D.KM.F
    obtain ⟨dP, p2v, p2b⟩ := pb2 D.PM.F
    refine ⟨_, (C8.pss_cut (ps_par (i := 1) (j := 2) rfl scLaw.nd rfl rfl (by decide) rfl rfl (pa_cons (pe_tup (pa_cons pe_str (pa_cons pe_str (pa_cons pe_str pa_nil)))) (pa_cons (pe_lst pa_nil) pa_nil)) (by rfl))
      (C8.pss_cut (ps_for PassesOwn.never rfl (pi_range1 (by rfl) B.range (pa_cons pe_int pa_nil)) (pg_name (i := 3) scLaw.nd rfl (Or.inl rfl))
      (pss_cons (ps_set (i := 4) scLaw.nd rfl (Or.inl rfl) (pe_ix ix_tup (pv 1) (pe_op op_mod (pv 3) pe_int) (fun _ _ => rfl)))
      (C8.pss_cut (ps_par (i := 5) (j := 6) rfl scLaw.nd rfl rfl (by decide) rfl rfl (pa_cons (pe_call (ok_parts L.Pa.F L.Nu B) hr2 rfl L.Pa.g L.Pa.F.kp bPa .nil pass0 (pa_cons (pv 0) (pa_cons (pe_op op_mul pe_int (pv 3)) (pa_cons (pv 4) pa_nil)))) (pa_cons (pe_call (ok_parts L.Pa.F L.Nu B) hr2 rfl L.Pa.g L.Pa.F.kp bPa .nil pass0 (pa_cons (pv 0) (pa_cons (pe_op op_mul pe_int (pv 3)) (pa_cons (pv 4) pa_nil)))) pa_nil)) (by rfl))
      (C8.pss_cut (ps_set (i := 7) scLaw.nd rfl (Or.inl rfl) (pe_call (ok_answer L.An.F L) hr3 rfl L.An.g L.An.F.kp bAn .nil pass0 (pa_cons (pv 4) (pa_cons (pv 5) pa_nil))))
      (C8.pss_cut (ps_for PassesOwn.never rfl (pi_list (pv 5)) (pg_name (i := 8) scLaw.nd rfl (Or.inl rfl)) (pss_one (ps_if (pt_not (pt_val (pe_callB call_isi (by rfl) B.isi PyProof.Rows.boot_isinstance (pa_cons (pv 8) (pa_cons (pe_bltn (v := .ty "tuple") (by rfl) B.tuple PyProof.Rows.boot_tuple rfl) pa_nil))))) (pss_one (ps_expr (pe_or2 (pe_bm0 PySem.F.plainAttrs_list PySem.F.slot_list_clear PySem.F.type_list_clear mt_clear (pv 8)) (pe_dclear (pv 8))))) pss_nil)))
      (pss_cons (ps_if (pt_cmpR (op_neI hu) (pe_call (ok_seen L.Se.F L) hr1 rfl L.Se.g L.Se.F.kp bSe .nil pass0 (pa_cons (pv 4) (pa_cons (pv 7) pa_nil))) (pv 6) (nomark _)) (pss_one (ps_ret pe_bl)) pss_nil)
      (pss_one (ps_expr (pe_bm PySem.F.plainAttrs_list PySem.F.slot_list_append PySem.F.type_list_append mt_append (pv 2) (pa_cons (pe_tup (pa_cons (pv 4) (pa_cons (pv 6) (pa_cons (pv 7) pa_nil)))) pa_nil))))))))))
      (C8.pss_cut (ps_for PassesOwn.never rfl (pi_list (pv 2)) (pg_tup rfl (pgs_cons (pg_name (i := 4) scLaw.nd rfl (Or.inl rfl)) (pgs_cons (pg_name (i := 5) scLaw.nd rfl (Or.inl rfl)) (pgs_cons (pg_name (i := 9) scLaw.nd rfl (Or.inl rfl)) pgs_nil))))
      (pss_cons (ps_if (PW.pt (pw_or (pt_not (pt_cmpR (L.opEq rfl rfl hr1) (pv 9) (pe_call (ok_answer L.An.F L) hr3 rfl L.An.g L.An.F.kp bAn .nil pass0 (pa_cons (pv 4) (pa_cons (pv 5) pa_nil))) (nomark _))) (pw_or1 (pt_cmpR (L.opNe rfl rfl hr2) (pv 9) (pe_call (ok_answer L.An.F L) hr3 rfl L.An.g L.An.F.kp bAn .nil pass0 (pa_cons (pv 4) (pa_cons (pv 5) pa_nil))) (nomark _))))) (pss_one (ps_ret pe_bl)) pss_nil)
      (pss_one (ps_for PassesOwn.never rfl (pi_list (pv 2)) (pg_tup rfl (pgs_cons (pg_name (i := 10) scLaw.nd rfl (Or.inl rfl)) (pgs_cons (pg_name (i := 11) scLaw.nd rfl (Or.inl rfl)) (pgs_cons (pg_name (i := 12) scLaw.nd rfl (Or.inl rfl)) pgs_nil))))
      (C8.pss_cut (ps_set (i := 13) scLaw.nd rfl (Or.inl rfl) (pe_and (pe_cmpR op_eq (pv 4) (pv 10) (nomark _)) (pe_one (pe_cmpR (op_eqI hu) (pv 5) (pv 11) (nomark _)))))
      (pss_one (ps_if (PW.pt (pw_or (pt_cmpR op_ne (pe_cmpR (L.opEq rfl rfl hr1) (pv 9) (pv 12) (nomark _)) (pv 13) (nomark _)) (pw_or1 (pt_cmpR op_eq (pe_cmpR (L.opNe rfl rfl hr2) (pv 9) (pv 12) (nomark _)) (pv 13) (nomark _))))) (pss_one (ps_ret pe_bl)) pss_nil)))))))
      (C8.pss_cut (ps_par (i := 14) (j := 15) rfl scLaw.nd rfl rfl (by decide) rfl rfl (pa_cons (pe_make D.KM.M (ok_kI D.T D.KC D.KM) hr6 rfl D.KC.g k2b k2v passL (pa_cons pe_int (pa_cons pe_int pa_nil))) (pa_cons (pe_make D.PM.M (ok_pI D.T D.PC D.PM) hr6 rfl D.PC.g p2b p2v passL (pa_cons (pe_tup (pa_cons pe_str pa_nil)) (pa_cons (pe_tup (pa_cons pe_int pa_nil)) pa_nil))) pa_nil)) (by rfl))
      (pss_one (ps_ret (pe_and (pe_cmpR (D.opNeK rfl rfl hr2) (pv 14) (pv 15) (nomark _)) (pe_and (pe_cmpR (D.opNeP rfl rfl hr2) (pv 15) (pv 14) (nomark _)) (pe_one (pe_not (pe_cmpR (L.opEq rfl rfl hr1) (pe_make L.saI.M (L.okSaI) hr2 rfl L.SA.g L.bSaI .nil pass0 (pa_cons (pe_lst pa_nil) pa_nil)) (pe_make L.haI.M (L.okHaI) hr2 rfl L.HA.g L.bHaI .nil pass0 (pa_cons (pe_tup pa_nil) pa_nil)) (nomark _)))))))))))), ?_⟩
    -- words, rows
    refine ⟨fun σ H' => ∃ W R, σ = [some (.ref a), some (.ref W), some (.ref R), none, none, none, none, none, none, none, none, none, none, none, none, none] ∧ LI K L.C R W a ns H' 0, ?_, ?_⟩
    · refine ⟨(by show 3 ≤ sizeLine; decide), fun W hW => ⟨(by show 0 ≤ sizeLine; decide), fun R hR => ⟨_, _, rfl, W, R, rfl, ?_⟩⟩⟩
      have s1 := same_upd (o := HO.tup wordsV) hW
      have s2 := same_upd (H := upd H W (.tup wordsV)) (o := HO.lst []) hR
      have nW : W ≠ R := ne_of_none (H := upd H W (.tup wordsV)) upd_same hR
      have sh : Same H (hide (upd (upd H W (.tup wordsV)) R (.lst [])) R) := fun b o e => by
        rw [hide_ne (ne_of_none (s1 _ _ e) hR)]
        exact s2 _ _ (s1 _ _ e)
      exact ⟨sh.seq ha, by rw [hide_ne nW]; exact s2 _ _ upd_same, [], upd_same, rfl, fun t ht => by cases ht⟩
    rintro σ1 H1 ⟨W, R, rfl, li0⟩
    -- the rows grow
    refine ⟨fun σ H' => ∃ o3 o4 o5 o6 o7 o8 : Option V, σ = [some (.ref a), some (.ref W), some (.ref R), o3, o4, o5, o6, o7, o8, none, none, none, none, none, none, none] ∧ LI K L.C R W a ns H' 18, ?_, ?_⟩
    · refine ⟨18, rfl, by decide, by decide, ?_⟩
      refine for_range (lo := 0) (n := 18) (fun n σ H' => ∃ o3 o4 o5 o6 o7 o8 : Option V, σ = [some (.ref a), some (.ref W), some (.ref R), o3, o4, o5, o6, o7, o8, none, none, none, none, none, none, none] ∧ LI K L.C R W a ns H' n) ⟨none, none, none, none, none, none, rfl, li0⟩ ?_ (fun σ H' h => h)
      rintro n σ H0 hn ⟨o3, o4, o5, o6, o7, o8, rfl, li⟩
      obtain ⟨wd, hwd⟩ := word_at n
      have hWt : H0 W = some (.tup wordsV) := hide_same _ _ li.wds
      have hA0 : SqL K H0 a (ns.map V.int) := hide_same.seq li.scr
      obtain ⟨ts, hR0, htl, hts⟩ := li.rows
      refine ⟨_, rfl, _, rfl, _, _, rfl, rfl, (by show (0 : Int) < 3; decide), W, _, _, _, rfl, rfl, SqT.of hWt, hwd, ?_⟩
      -- parts, again
      refine ⟨fun σ H' => ∃ p1 p2 b xs1 xs2 H1, σ = [some (.ref a), some (.ref W), some (.ref R), some (.int (0 + (n : Int))), some (.str wd.word), some (.ref p1), some (.ref p2), o7, o8, none, none, none, none, none, none, none] ∧
        Same H0 H1 ∧ PartsAt H1 p1 wd b xs1 ∧ (∀ q, V.ref q ∈ xs1 → H0 q = none) ∧ Same H1 H' ∧ H1 p2 = none ∧ PartsAt H' p2 wd b xs2 ∧ (∀ q, V.ref q ∈ xs2 → H1 q = none), ?_, ?_⟩
      · refine ⟨_, rfl, _, rfl, 5, 0 + (n : Int), rfl, rfl, .inl ⟨by decide, by decide⟩, _, rfl, a, ns, 5 * (0 + (n : Int)), wd, rfl, hA0, hl, by omega, by omega, fun H1 p1 xs1 s1 f1 P1 fx1 => ?_⟩
        refine ⟨_, rfl, _, rfl, 5, 0 + (n : Int), rfl, rfl, .inl ⟨by decide, by decide⟩, _, rfl, a, ns, 5 * (0 + (n : Int)), wd, rfl, s1.seq hA0, hl, by omega, by omega, fun H2 p2 xs2 s2 f2 P2 fx2 => ?_⟩
        exact ⟨_, _, rfl, p1, p2, _, xs1, xs2, H1, rfl, s1, P1, fx1, s2, f2, P2, fx2⟩
      rintro σ2 H2 ⟨p1, p2, b, xs1, xs2, H1, rfl, s1, P1, fx1, s2, f2, P2, fx2⟩
      -- found
      refine ⟨fun σ H' => ∃ q, σ = [some (.ref a), some (.ref W), some (.ref R), some (.int (0 + (n : Int))), some (.str wd.word), some (.ref p1), some (.ref p2), some (.ref q), o8, none, none, none, none, none, none, none] ∧ Same H2 H' ∧ H2 q = none ∧ AnsAt L.C (vis H2 H') q wd b, ?_, ?_⟩
      · refine ⟨_, rfl, _, rfl, wd, p1, b, xs1, rfl, P1.same s2, fun H3 q s3 f3 A3 => ?_⟩
        exact ⟨q, rfl, s3, f3, A3⟩
      rintro σ3 H3 ⟨q, rfl, s3, f3, A3⟩
      -- cleared
      have P13 : PartsAt H3 p1 wd b xs1 := P1.same (s2.trans s3)
      refine ⟨fun σ H' => ∃ o8 : Option V, σ = [some (.ref a), some (.ref W), some (.ref R), some (.int (0 + (n : Int))), some (.str wd.word), some (.ref p1), some (.ref p2), some (.ref q), o8, none, none, none, none, none, none, none] ∧ Clr xs1 H3 H', ?_, ?_⟩
      · refine ⟨_, rfl, p1, rfl, ⟨xs1, SqL.of P13.lst⟩, ?_⟩
        refine for_it (walk_list (K := K) (a := p1) (xs := xs1)) (fun _ σ H' => ∃ o8 : Option V, σ = [some (.ref a), some (.ref W), some (.ref R), some (.int (0 + (n : Int))), some (.str wd.word), some (.ref p1), some (.ref p2), some (.ref q), o8, none, none, none, none, none, none, none] ∧ Clr xs1 H3 H')
          ⟨o8, rfl, fun b o e _ => e, P13.items⟩ (fun m σ H' _ g => by obtain ⟨_, _, c⟩ := g; exact SqL.of (c.1 _ _ P13.lst (.inl P13.notin))) ?_ (fun σ H' g => g)
        rintro m x σ G G' hm ⟨o8', rfl, c⟩ ⟨rfl, hx⟩
        have hxm : x ∈ xs1 := List.mem_of_getElem? hx
        rcases c.2 x hxm with ⟨e, vs, rfl, g⟩ | ⟨e, kvs, rfl, g⟩ | ⟨e, vs, rfl, g⟩
        · refine ⟨_, rfl, _, _, _, _, _, rfl, .ty "tuple", .base (.lst g), kit_ty (show kitB "list" "tuple" = some false by decide +kernel), _, rfl, ?_⟩
          refine iteT ?_
          refine .inl ⟨_, rfl, .inl ⟨rfl, vs, SqL.of g⟩, e, vs, rfl, rfl, g, ?_⟩
          exact ⟨_, rfl, c.upd hxm (fun ts z => by rw [g] at z; cases z) (.inl ⟨[], rfl⟩)⟩
        · refine ⟨_, rfl, _, _, _, _, _, rfl, .ty "tuple", .base (.dK g), kit_ty (show kitB "dict" "tuple" = some false by decide +kernel), _, rfl, ?_⟩
          refine iteT ?_
          refine .inr ⟨_, rfl, .inr (.inr (.inl ⟨rfl, .inl ⟨kvs, g⟩⟩)), e, kvs, rfl, rfl, g, ?_⟩
          exact ⟨_, rfl, c.upd hxm (fun ts z => by rw [g] at z; cases z) (.inr ⟨[], rfl⟩)⟩
        · refine ⟨_, rfl, _, _, _, _, _, rfl, .ty "tuple", .base (.tup g), kit_ty (show kitB "tuple" "tuple" = some true by decide +kernel), _, rfl, ?_⟩
          refine iteF ?_
          exact ⟨_, rfl, c⟩
      rintro σ4 G ⟨o8', rfl, c⟩
      obtain ⟨k0, k1⟩ := turn_keeps ((s1.trans s2).trans s3) fx1 P1.items s1 c
      have Pv : PartsAt (vis H0 G) p2 wd b xs2 := (P2.vis f2 fx2).same ((vis_up (Same.refl H1) s3).trans k1)
      have Av : AnsAt L.C (vis H0 G) q wd b := A3.same ((vis_up s2 (Same.refl H3)).trans k1)
      have PG := Pv.same vis_same
      have AG := Av.same vis_same
      -- seen
      refine ⟨_, rfl, _, rfl, wd, q, b, rfl, AG, fun G2 r xs3 g2 Pr => ?_⟩
      obtain ⟨l1, l2, le⟩ := parts_eq (K := K) Pr (PG.same g2)
      rw [eqW_refl] at le
      refine ⟨_, rfl, r, p2, xs3, xs2, rfl, rfl, l1, l2, le, _, rfl, ?_⟩
      refine iteF ?_
      -- rows.append
      have gR : G R = some (.lst (ts.map V.ref)) := k0 _ _ hR0
      have g2R := g2 _ _ gR
      refine ⟨_, rfl, .inl ⟨rfl, _, SqL.of g2R⟩, ?_⟩
      refine ⟨_, rfl, _, rfl, _, rfl, (by show 3 ≤ sizeLine; decide), fun t ht => ?_⟩
      have s5 := same_upd (o := HO.tup [V.str wd.word, .ref p2, .ref q]) ht
      have nt : t ≠ R := fun z => by rw [z, g2R] at ht; cases ht
      refine ⟨R, ts.map V.ref, .ref t, rfl, rfl, s5 _ _ g2R, ?_, ?_⟩
      · rw [List.length_map, htl]
        exact Nat.lt_of_lt_of_le hn (by show 18 ≤ sizeLine; decide)
      have up0 : Same (hide H0 R) (hide (upd G2 t (.tup [V.str wd.word, .ref p2, .ref q])) R) := hide_up ((k0.trans g2).trans s5)
      have upv : Same (vis H0 G) (hide (upd G2 t (.tup [V.str wd.word, .ref p2, .ref q])) R) := (vis_hide hR0 gR).trans (hide_up (g2.trans s5))
      refine ⟨_, _, _, _, _, _, rfl, ?_, ?_, ts ++ [t], ?_, ?_, ?_⟩
      · rw [hide_upd]
        exact up0.seq li.scr
      · rw [hide_upd]
        exact up0 _ _ li.wds
      · rw [upd_same, List.map_append]
        rfl
      · rw [List.length_append, htl]
        rfl
      · intro t' ht'
        rw [hide_upd]
        rcases List.mem_append.mp ht' with h1 | h1
        · exact (hts t' h1).same up0
        · cases List.mem_singleton.mp h1
          exact ⟨wd, p2, q, b, xs2, by rw [hide_ne nt, upd_same], Pv.same upv, Av.same upv⟩
    rintro σ2 H2 ⟨o3, o4, o5, o6, o7, o8, rfl, li⟩
    obtain ⟨ts, hR2, _, hts⟩ := li.rows
    have j0 : H2 R = some (.lst (ts.map V.ref)) ∧ ∀ t ∈ ts, RowAt L.C H2 t := ⟨hR2, fun t ht => (hts t ht).same hide_same⟩
    have jS : ∀ {G G' : Hp}, Same G G' → (G R = some (.lst (ts.map V.ref)) ∧ ∀ t ∈ ts, RowAt L.C G t) → G' R = some (.lst (ts.map V.ref)) ∧ ∀ t ∈ ts, RowAt L.C G' t := fun s g => ⟨s _ _ g.1, fun t ht => (g.2 t ht).same s⟩
    have row : ∀ {m : Nat} {x : V}, (ts.map V.ref)[m]? = some x → ∃ t, t ∈ ts ∧ x = .ref t := @fun m x h => by
      rw [List.getElem?_map] at h
      cases e : ts[m]? with
      | none => rw [e] at h; cases h
      | some t =>
        rw [e] at h
        exact ⟨t, List.mem_of_getElem? e, (Option.some.inj h).symm⟩
    refine ⟨fun σ H' => ∃ o3 o4 o5 o6 o7 o8 o9 o10 o11 o12 o13 : Option V, σ = [some (.ref a), some (.ref W), some (.ref R), o3, o4, o5, o6, o7, o8, o9, o10, o11, o12, o13, none, none], ?_, ?_⟩
    · refine ⟨_, rfl, R, rfl, ⟨_, SqL.of j0.1⟩, ?_⟩
      refine for_it (walk_list (K := K) (a := R) (xs := ts.map V.ref)) (fun _ σ H' => ∃ o3 o4 o5 o6 o7 o8 o9 o10 o11 o12 o13 : Option V, σ = [some (.ref a), some (.ref W), some (.ref R), o3, o4, o5, o6, o7, o8, o9, o10, o11, o12, o13, none, none] ∧ H' R = some (.lst (ts.map V.ref)) ∧ ∀ t ∈ ts, RowAt L.C H' t)
        ⟨o3, o4, o5, o6, o7, o8, none, none, none, none, none, rfl, j0⟩ (fun m σ H' _ g => by obtain ⟨_, _, _, _, _, _, _, _, _, _, _, _, g, _⟩ := g; exact SqL.of g) ?_ (fun σ H' g => by obtain ⟨o3, o4, o5, o6, o7, o8, o9, o10, o11, o12, o13, e, _⟩ := g; exact ⟨o3, o4, o5, o6, o7, o8, o9, o10, o11, o12, o13, e⟩)
      rintro m x σ G G' hm ⟨o3, o4, o5, o6, o7, o8, o9, o10, o11, o12, o13, rfl, j⟩ ⟨rfl, hx⟩
      obtain ⟨t, ht, rfl⟩ := row hx
      obtain ⟨w1, pa, po, b1, xs1, r1, r2, r3⟩ := j.2 t ht
      refine ⟨t, _, rfl, SqT.of r1, rfl, _, _, rfl, _, _, rfl, _, _, rfl, rfl, ?_⟩
      have e11 : eqA w1 w1 b1 b1 = true := by
        unfold eqA
        rw [decide_eq_true rfl, eqW_refl]
        rfl
      -- not one == .., one != ..
      refine ⟨_, rfl, _, rfl, _, rfl, w1, pa, b1, xs1, rfl, r2, fun G1 q1 s1 f1 A1 => rd_any (L.ap) (r3.same s1) (A1.same vis_same) ⟨_, rfl, ?_⟩⟩
      refine iteBF (c := !(eqA w1 w1 b1 b1)) (by rw [e11]; rfl) ?_
      refine ⟨_, rfl, _, rfl, _, rfl, w1, pa, b1, xs1, rfl, r2.same s1, fun G2 q2 s2 f2 A2 => rd_any (L.ap) (r3.same (s1.trans s2)) (A2.same vis_same) ⟨_, rfl, ?_⟩⟩
      refine iteBF (c := !(eqA w1 w1 b1 b1)) (by rw [e11]; rfl) ?_
      have j2 := jS (s1.trans s2) j
      have R2 := r2.same (s1.trans s2)
      have R3 := r3.same (s1.trans s2)
      clear r1 r2 r3 A1 A2 e11
      refine ⟨_, rfl, R, rfl, ⟨_, SqL.of j2.1⟩, ?_⟩
      refine for_it (walk_list (K := K) (a := R) (xs := ts.map V.ref)) (fun _ σ H' => ∃ p10 p11 p12 p13 : Option V, σ = [some (.ref a), some (.ref W), some (.ref R), o3, some (.str w1.word), some (.ref pa), o6, o7, o8, some (.ref po), p10, p11, p12, p13, none, none] ∧ (H' R = some (.lst (ts.map V.ref)) ∧ ∀ t ∈ ts, RowAt L.C H' t) ∧ PartsAt H' pa w1 b1 xs1 ∧ AnsAt L.C H' po w1 b1)
        ⟨_, _, _, _, rfl, j2, R2, R3⟩ (fun m σ H' _ g => by obtain ⟨_, _, _, _, _, g, _⟩ := g; exact SqL.of g.1) ?_ (fun σ H' g => by obtain ⟨_, _, _, _, e, g, _⟩ := g; exact ⟨_, _, _, _, _, _, _, _, _, _, _, e, g⟩)
      rintro m' x' σ' G3 G4 hm' ⟨p10, p11, p12, p13, rfl, j3, Q2, Q3⟩ ⟨rfl, hx'⟩
      obtain ⟨t', ht', rfl⟩ := row hx'
      obtain ⟨w2, pb, pq, b2, xs2, r1, r2, r3⟩ := j3.2 t' ht'
      refine ⟨t', _, rfl, SqT.of r1, rfl, _, _, rfl, _, _, rfl, _, _, rfl, rfl, ?_⟩
      -- due
      refine ⟨fun σ H' => σ = [some (.ref a), some (.ref W), some (.ref R), o3, some (.str w1.word), some (.ref pa), o6, o7, o8, some (.ref po), some (.str w2.word), some (.ref pb), some (.ref pq), some (.bl (eqA w1 w2 b1 b2)), none, none] ∧ (H' R = some (.lst (ts.map V.ref)) ∧ ∀ t ∈ ts, RowAt L.C H' t) ∧ PartsAt H' pa w1 b1 xs1 ∧ AnsAt L.C H' po w1 b1 ∧ AnsAt L.C H' pq w2 b2, ?_, ?_⟩
      · refine ⟨_, rfl, _, rfl, rfl, _, rfl, ?_⟩
        by_cases ew : w1 = w2
        · subst ew
          refine iteB (c := decide (V.str w1.word = V.str w1.word)) (decide_eq_true rfl) ?_
          obtain ⟨l1, l2, le⟩ := parts_eq (K := K) Q2 r2
          have e2 : eqA w1 w1 b1 b2 = eqW w1 b1 b2 := by
            unfold eqA
            rw [decide_eq_true rfl, Bool.true_and]
          refine ⟨_, rfl, _, rfl, pa, pb, xs1, xs2, _, rfl, rfl, l1, l2, le, ?_⟩
          rw [e2]
          exact ⟨rfl, j3, Q2, Q3, r3⟩
        · refine iteBF (c := decide (V.str w1.word = V.str w2.word)) (word_ne ew) ?_
          have e2 : eqA w1 w2 b1 b2 = false := by
            unfold eqA
            rw [decide_eq_false ew, Bool.false_and]
          rw [e2]
          exact ⟨rfl, j3, Q2, Q3, r3⟩
      rintro σ5 G5 ⟨rfl, j5, Q5, Q6, Q7⟩
      refine ⟨_, rfl, _, rfl, rd_any (L.ap) Q6 Q7 ⟨_, rfl, rfl, _, rfl, ?_⟩⟩
      refine iteBF ?_ ?_
      · show (!decide (V.bl (eqA w1 w2 b1 b2) = V.bl (eqA w1 w2 b1 b2))) = false
        rw [decide_eq_true rfl]
        rfl
      refine ⟨_, rfl, _, rfl, rd_any (L.ap) Q6 Q7 ⟨_, rfl, rfl, _, rfl, ?_⟩⟩
      refine iteBF ?_ ?_
      · show decide (V.bl (!(eqA w1 w2 b1 b2)) = V.bl (eqA w1 w2 b1 b2)) = false
        cases eqA w1 w2 b1 b2 <;> rfl
      exact ⟨_, _, _, _, rfl, j5, Q5, Q6⟩
    rintro σ3 H3 ⟨o3, o4, o5, o6, o7, o8, o9, o10, o11, o12, o13, rfl⟩
    have pbad : planBad (.tup [.str "bare"]) (.tup [.int 0]) (.fl (.str "first")) (.fl (.bl true)) (.fl .non) = none := by decide +kernel
    refine ⟨fun σ H' => ∃ kp pp dx fs dy gs, σ = [some (.ref a), some (.ref W), some (.ref R), o3, o4, o5, o6, o7, o8, o9, o10, o11, o12, o13, some (.ref kp), some (.ref pp)] ∧ H' kp = some (.ins D.KC.C dx fs) ∧ H' pp = some (.ins D.PC.C dy gs), ?_, ?_⟩
    · refine keep_mkR (ds := .fl (.int 1)) (db := .fl (.int 1)) (dh := .tup []) (dm := .fl (.int 1)) (.fl rfl) (.fl rfl) (.tup (D.KM.tE _) rfl) (.fl rfl) (by show 0 ≤ 1000; decide) (fun wd kk => ?_) (fun d0 q1 q2 q3 q4 kp H4 s4 hp0 k0 => ⟨rfl, ?_⟩)
      · rw [show keepBad (.fl (.int 1)) (.fl (.int 1)) (.tup []) (.fl (.int 1)) = none by decide +kernel] at kk
        cases kk
      refine ⟨(by show 1 ≤ sizeLine; decide), fun u0 hu0 => ⟨(by show 1 ≤ sizeLine; decide), fun r0 hr0 => ?_⟩⟩
      have s5 := same_upd (o := HO.tup [V.str "bare"]) hu0
      have s6 := same_upd (o := HO.tup [V.int 0]) hr0
      refine plan_mkR (du := .tup [.str "bare"]) (dr := .tup [.int 0]) (dc := .fl (.str "first")) (dm := .fl (.bl true)) (dl := .fl .non) (.tup (SqT.of (s6 _ _ upd_same)) (by decide +kernel)) (.tup (SqT.of upd_same) (by decide +kernel)) (.fl (by decide +kernel)) (.fl rfl) (.fl rfl) (by show 1 ≤ 1000; decide) (by show 1 ≤ 1000; decide) (fun wd kk => ?_) (fun d q1 q2 q3 q4 q5 pp H7 s7 hp kp2 => ⟨rfl, ?_⟩)
      · rw [pbad] at kk
        cases kk
      obtain ⟨dx, hr, h1, _⟩ := k0.ob
      obtain ⟨dy, hu', hr', h2, _⟩ := kp2.ob
      exact ⟨_, _, rfl, kp, pp, dx, _, dy, _, rfl, s7 _ _ (s6 _ _ (s5 _ _ h1)), h2⟩
    rintro σ4 H4 ⟨kp, pp, dx, fs, dy, gs, rfl, h1, h2⟩
    refine ⟨_, rfl, _, rfl, kp, pp, dx, fs, D.PC.C, dy, gs, rfl, rfl, h1, h2, D.kp.nf, kp, pp, D.PC.C, dy, gs, rfl, h2, D.kp, _, rfl, _, rfl, ?_⟩
    refine iteT ?_
    refine ⟨_, rfl, _, rfl, pp, kp, dy, gs, D.KC.C, dx, fs, rfl, rfl, h2, h1, D.pk.nf, pp, kp, D.KC.C, dx, fs, rfl, h1, D.pk, _, rfl, _, rfl, ?_⟩
    refine iteT ?_
    refine ⟨(by show 0 ≤ sizeLine; decide), fun l hl' => ?_⟩
    refine sa_mkR (SqL.of upd_same) fun q1 H5 m dx1 s5 f5 e1 => ⟨rfl, ?_⟩
    refine ⟨(by show 0 ≤ sizeLine; decide), fun u hu' => ?_⟩
    have su := same_upd (o := HO.tup []) hu'
    refine ha_mkR (SqT.of upd_same) fun q2 H6 dx2 s6 f6 e3 => ⟨rfl, ?_⟩
    exact ⟨.sa, q1, q2, dx1, _, L.HA.C, dx2, _, rfl, rfl, s6 _ _ (su _ _ e1), e3, L.ah.nf, q1, q2, rfl, .inr ⟨L.HA.C, dx2, _, e3, L.ah, _, rfl, _, rfl, kQ _⟩⟩
end
end KW

set_option Elab.async false
set_option linter.all false
set_option maxRecDepth 100000
set_option maxHeartbeats 4000000
namespace KW
open PySem PySem.Spec PyProof.Rows L2 LamX OwnOp EqX MulX
/-! ## the facts of the head -/
theorem mem3 {α : Type} {x a b c : α} (h : x ∈ [a, b, c]) : x = a ∨ x = b ∨ x = c := by simpa using h
theorem fun_mk {K : PySem.W.Frag} {x qual : Str} {st : Stmt} {f : Addr} {oc : Value} {od : Option Addr} {kV doc pm : Value} {an : Option Addr} {cdv ct : Value} {osl : Array (Option Value)}
    (l : K.lookup f = some ⟨oc, od, .func (PySem.W.fnOf x qual (defArgs st) (defBody st) (defScope st) .none kV doc pm an cdv ct), osl⟩) (c : PySem.W.codeIn K cdv qual = true) (k : PySem.W.keepIn K (.ref f) = true) :
    Fun K x qual st f (PySem.W.fnOf x qual (defArgs st) (defBody st) (defScope st) .none kV doc pm an cdv ct) := ⟨⟨oc, od, kV, doc, pm, an, cdv, ct, osl, rfl, l, c⟩, k⟩
theorem all_mk {l : PySem.W.OpenLaw} {w : World} {K : PySem.W.Frag} {h : Heap} {mg : Str → Option Value} {fa : Addr} (X : K.In h) (G : h.Ns mainGlobals mg) (hfa : mg "law" = some (.ref fa))
    {fII : Addr} {ocII dcII pmII ctII kvII cdII : Value} {odII anII : Option Addr} {slII : Array (Option Value)} {fBt : Addr} {ocBt dcBt pmBt ctBt kvBt cdBt : Value} {odBt anBt : Option Addr} {slBt : Array (Option Value)} {fOo : Addr} {ocOo dcOo pmOo ctOo kvOo cdOo : Value} {odOo anOo : Option Addr} {slOo : Array (Option Value)} {fPs : Addr} {ocPs dcPs pmPs ctPs kvPs cdPs : Value} {odPs anPs : Option Addr} {slPs : Array (Option Value)} {fAh : Addr} {ocAh dcAh pmAh ctAh kvAh cdAh : Value} {odAh anAh : Option Addr} {slAh : Array (Option Value)} {fAs : Addr} {ocAs dcAs pmAs ctAs kvAs cdAs : Value} {odAs anAs : Option Addr} {slAs : Array (Option Value)} {fIo : Addr} {ocIo dcIo pmIo ctIo kvIo cdIo : Value} {odIo anIo : Option Addr} {slIo : Array (Option Value)} {fNu : Addr} {ocNu dcNu pmNu ctNu kvNu cdNu : Value} {odNu anNu : Option Addr} {slNu : Array (Option Value)} {fPa : Addr} {ocPa dcPa pmPa ctPa kvPa cdPa : Value} {odPa anPa : Option Addr} {slPa : Array (Option Value)} {fAn : Addr} {ocAn dcAn pmAn ctAn kvAn cdAn : Value} {odAn anAn : Option Addr} {slAn : Array (Option Value)} {fSe : Addr} {ocSe dcSe pmSe ctSe kvSe cdSe : Value} {odSe anSe : Option Addr} {slSe : Array (Option Value)} {fLw : Addr} {ocLw dcLw pmLw ctLw kvLw cdLw : Value} {odLw anLw : Option Addr} {slLw : Array (Option Value)} {fTH : Addr} {odTH : Option Addr} {itsTH : Array Value} {nTH : Nat} {slTH : Array (Option Value)} {fTK : Addr} {odTK : Option Addr} {itsTK : Array Value} {nTK : Nat} {slTK : Array (Option Value)} {fTC : Addr} {odTC : Option Addr} {itsTC : Array Value} {nTC : Nat} {slTC : Array (Option Value)} {fTP : Addr} {odTP : Option Addr} {itsTP : Array Value} {nTP : Nat} {slTP : Array (Option Value)} {CBK fBK NBK : Addr} {nmBK qqBK : Str} {bsBK bmBK sbBK : List Value} {snBK : List Str} {abBK : Bool} {coBK : Option Bool} {ddBK : Option Addr} {k0BK k1BK k2BK k3BK k5BK : Option Value} {ocBK dcBK pmBK ctBK kvBK cdBK : Value} {odBK anBK : Option Addr} {slBK : Array (Option Value)} {CBP fBP NBP : Addr} {nmBP qqBP : Str} {bsBP bmBP sbBP : List Value} {snBP : List Str} {abBP : Bool} {coBP : Option Bool} {ddBP : Option Addr} {k0BP k1BP k2BP k3BP k5BP : Option Value} {ocBP dcBP pmBP ctBP kvBP cdBP : Value} {odBP anBP : Option Addr} {slBP : Array (Option Value)} {CK fKI DK TD aE : Addr} {ocKI dcKI pmKI ctKI cdKI : Value} {odKI anKI : Option Addr} {slKI : Array (Option Value)} {oTD : Obj} {nTD : Nat} {odE : Option Addr} {nE : Nat} {slE : Array (Option Value)} {fKeq : Addr} {ocKeq dcKeq pmKeq ctKeq kvKeq cdKeq : Value} {odKeq anKeq : Option Addr} {slKeq : Array (Option Value)} {CP fPI DP : Addr} {ocPI dcPI pmPI ctPI cdPI : Value} {odPI anPI : Option Addr} {slPI : Array (Option Value)} {fPeq : Addr} {ocPeq dcPeq pmPeq ctPeq kvPeq cdPeq : Value} {odPeq anPeq : Option Addr} {slPeq : Array (Option Value)} {CS fSI : Addr} {ocSI dcSI pmSI ctSI kvSI cdSI : Value} {odSI anSI : Option Addr} {slSI : Array (Option Value)} {fSeq : Addr} {ocSeq dcSeq pmSeq ctSeq kvSeq cdSeq : Value} {odSeq anSeq : Option Addr} {slSeq : Array (Option Value)} {CH fHI : Addr} {ocHI dcHI pmHI ctHI kvHI cdHI : Value} {odHI anHI : Option Addr} {slHI : Array (Option Value)} {fHeq : Addr} {ocHeq dcHeq pmHeq ctHeq kvHeq cdHeq : Value} {odHeq anHeq : Option Addr} {slHeq : Array (Option Value)} {CG fGI : Addr} {ocGI dcGI pmGI ctGI kvGI cdGI : Value} {odGI anGI : Option Addr} {slGI : Array (Option Value)} {fGeq : Addr} {ocGeq dcGeq pmGeq ctGeq kvGeq cdGeq : Value} {odGeq anGeq : Option Addr} {slGeq : Array (Option Value)} {tNB} {tNS} {tkm} {tpc}
    (aII : PySem.W.nsIn K mainGlobals "is_integer" = some (some (.ref fII)))
    (lII : K.lookup fII = some ⟨ocII, odII, .func (PySem.W.fnOf "is_integer" "is_integer" (defArgs sIsInt) (defBody sIsInt) (defScope sIsInt) .none kvII dcII pmII anII cdII ctII), slII⟩)
    (cII : PySem.W.codeIn K cdII "is_integer" = true)
    (kII : PySem.W.keepIn K (.ref fII) = true)
    (aBt : PySem.W.nsIn K mainGlobals "is_between" = some (some (.ref fBt)))
    (lBt : K.lookup fBt = some ⟨ocBt, odBt, .func (PySem.W.fnOf "is_between" "is_between" (defArgs sBetween) (defBody sBetween) (defScope sBetween) .none kvBt dcBt pmBt anBt cdBt ctBt), slBt⟩)
    (cBt : PySem.W.codeIn K cdBt "is_between" = true)
    (kBt : PySem.W.keepIn K (.ref fBt) = true)
    (aOo : PySem.W.nsIn K mainGlobals "is_one_of" = some (some (.ref fOo)))
    (lOo : K.lookup fOo = some ⟨ocOo, odOo, .func (PySem.W.fnOf "is_one_of" "is_one_of" (defArgs sOneOf) (defBody sOneOf) (defScope sOneOf) .none kvOo dcOo pmOo anOo cdOo ctOo), slOo⟩)
    (cOo : PySem.W.codeIn K cdOo "is_one_of" = true)
    (kOo : PySem.W.keepIn K (.ref fOo) = true)
    (aPs : PySem.W.nsIn K mainGlobals "possible_harms" = some (some (.ref fPs)))
    (lPs : K.lookup fPs = some ⟨ocPs, odPs, .func (PySem.W.fnOf "possible_harms" "possible_harms" (defArgs sPossible) (defBody sPossible) (defScope sPossible) .none kvPs dcPs pmPs anPs cdPs ctPs), slPs⟩)
    (cPs : PySem.W.codeIn K cdPs "possible_harms" = true)
    (kPs : PySem.W.keepIn K (.ref fPs) = true)
    (aAh : PySem.W.nsIn K mainGlobals "are_harms" = some (some (.ref fAh)))
    (lAh : K.lookup fAh = some ⟨ocAh, odAh, .func (PySem.W.fnOf "are_harms" "are_harms" (defArgs sAreHarms) (defBody sAreHarms) (defScope sAreHarms) .none kvAh dcAh pmAh anAh cdAh ctAh), slAh⟩)
    (cAh : PySem.W.codeIn K cdAh "are_harms" = true)
    (kAh : PySem.W.keepIn K (.ref fAh) = true)
    (aAs : PySem.W.nsIn K mainGlobals "are_sums" = some (some (.ref fAs)))
    (lAs : K.lookup fAs = some ⟨ocAs, odAs, .func (PySem.W.fnOf "are_sums" "are_sums" (defArgs sAreSums) (defBody sAreSums) (defScope sAreSums) .none kvAs dcAs pmAs anAs cdAs ctAs), slAs⟩)
    (cAs : PySem.W.codeIn K cdAs "are_sums" = true)
    (kAs : PySem.W.keepIn K (.ref fAs) = true)
    (aIo : PySem.W.nsIn K mainGlobals "is_order" = some (some (.ref fIo)))
    (lIo : K.lookup fIo = some ⟨ocIo, odIo, .func (PySem.W.fnOf "is_order" "is_order" (defArgs sIsOrder) (defBody sIsOrder) (defScope sIsOrder) .none kvIo dcIo pmIo anIo cdIo ctIo), slIo⟩)
    (cIo : PySem.W.codeIn K cdIo "is_order" = true)
    (kIo : PySem.W.keepIn K (.ref fIo) = true)
    (aNu : PySem.W.nsIn K mainGlobals "_law_number" = some (some (.ref fNu)))
    (lNu : K.lookup fNu = some ⟨ocNu, odNu, .func (PySem.W.fnOf "_law_number" "_law_number" (defArgs sNumber) (defBody sNumber) (defScope sNumber) .none kvNu dcNu pmNu anNu cdNu ctNu), slNu⟩)
    (cNu : PySem.W.codeIn K cdNu "_law_number" = true)
    (kNu : PySem.W.keepIn K (.ref fNu) = true)
    (aPa : PySem.W.nsIn K mainGlobals "_law_parts" = some (some (.ref fPa)))
    (lPa : K.lookup fPa = some ⟨ocPa, odPa, .func (PySem.W.fnOf "_law_parts" "_law_parts" (defArgs sParts) (defBody sParts) (defScope sParts) .none kvPa dcPa pmPa anPa cdPa ctPa), slPa⟩)
    (cPa : PySem.W.codeIn K cdPa "_law_parts" = true)
    (kPa : PySem.W.keepIn K (.ref fPa) = true)
    (aAn : PySem.W.nsIn K mainGlobals "_law_answer" = some (some (.ref fAn)))
    (lAn : K.lookup fAn = some ⟨ocAn, odAn, .func (PySem.W.fnOf "_law_answer" "_law_answer" (defArgs sAnswer) (defBody sAnswer) (defScope sAnswer) .none kvAn dcAn pmAn anAn cdAn ctAn), slAn⟩)
    (cAn : PySem.W.codeIn K cdAn "_law_answer" = true)
    (kAn : PySem.W.keepIn K (.ref fAn) = true)
    (aSe : PySem.W.nsIn K mainGlobals "_law_seen" = some (some (.ref fSe)))
    (lSe : K.lookup fSe = some ⟨ocSe, odSe, .func (PySem.W.fnOf "_law_seen" "_law_seen" (defArgs sSeen) (defBody sSeen) (defScope sSeen) .none kvSe dcSe pmSe anSe cdSe ctSe), slSe⟩)
    (cSe : PySem.W.codeIn K cdSe "_law_seen" = true)
    (kSe : PySem.W.keepIn K (.ref fSe) = true)
    (aLw : PySem.W.nsIn K mainGlobals "law" = some (some (.ref fLw)))
    (lLw : K.lookup fLw = some ⟨ocLw, odLw, .func (PySem.W.fnOf "law" "law" (defArgs sLaw) (defBody sLaw) (defScope sLaw) .none kvLw dcLw pmLw anLw cdLw ctLw), slLw⟩)
    (cLw : PySem.W.codeIn K cdLw "law" = true)
    (kLw : PySem.W.keepIn K (.ref fLw) = true)
    (aTH : PySem.W.nsIn K mainGlobals "HARMS" = some (some (.ref fTH)))
    (lTH : K.lookup fTH = some ⟨.type "tuple", odTH, .seq itsTH nTH, slTH⟩)
    (sTH : itsTH.size ≤ sizeLine)
    (vTH : Vals allH itsTH.toList)
    (aTK : PySem.W.nsIn K mainGlobals "KINDS" = some (some (.ref fTK)))
    (lTK : K.lookup fTK = some ⟨.type "tuple", odTK, .seq itsTK nTK, slTK⟩)
    (sTK : itsTK.size ≤ sizeLine)
    (vTK : Vals allK itsTK.toList)
    (aTC : PySem.W.nsIn K mainGlobals "CHOICES" = some (some (.ref fTC)))
    (lTC : K.lookup fTC = some ⟨.type "tuple", odTC, .seq itsTC nTC, slTC⟩)
    (sTC : itsTC.size ≤ sizeLine)
    (vTC : Vals allC itsTC.toList)
    (aTP : PySem.W.nsIn K mainGlobals "PARTS" = some (some (.ref fTP)))
    (lTP : K.lookup fTP = some ⟨.type "tuple", odTP, .seq itsTP nTP, slTP⟩)
    (sTP : itsTP.size ≤ sizeLine)
    (vTP : Vals allP itsTP.toList)
    (aNB : PySem.W.nsIn K mainGlobals "MOST_BLOCKS" = some (some (.int 2 tNB)))
    (aNS : PySem.W.nsIn K mainGlobals "MOST_SHELVES" = some (some (.int 3 tNS)))
    (b_isinstance : PySem.W.nsIn K mainGlobals "isinstance" = some none)
    (b_int : PySem.W.nsIn K mainGlobals "int" = some none)
    (b_bool : PySem.W.nsIn K mainGlobals "bool" = some none)
    (b_str : PySem.W.nsIn K mainGlobals "str" = some none)
    (b_tuple : PySem.W.nsIn K mainGlobals "tuple" = some none)
    (b_all : PySem.W.nsIn K mainGlobals "all" = some none)
    (b_sorted : PySem.W.nsIn K mainGlobals "sorted" = some none)
    (b_list : PySem.W.nsIn K mainGlobals "list" = some none)
    (b_range : PySem.W.nsIn K mainGlobals "range" = some none)
    (b_len : PySem.W.nsIn K mainGlobals "len" = some none)
    (b_sum : PySem.W.nsIn K mainGlobals "sum" = some none)
    (b_zip : PySem.W.nsIn K mainGlobals "zip" = some none)
    (b_enumerate : PySem.W.nsIn K mainGlobals "enumerate" = some none)
    (aBK : PySem.W.nsIn K mainGlobals "BadKeep" = some (some (.ref CBK)))
    (xBK : K.lookup CBK = some (excClassObj nmBK qqBK CBK NBK bsBK bmBK true snBK sbBK abBK coBK ddBK k0BK k1BK k2BK k3BK k5BK "ValueError.__new__"))
    (rBK : PySem.HandSPX.refsVE bmBK = true)
    (saBK : PySem.W.findIn K (.ref CBK) "__setattr__" = some (some (.builtin "object.__setattr__")))
    (eBK : PySem.W.subIn K (.ref CBK) (.type "BaseException") = some true)
    (tBK : PySem.W.typeIn K (.ref CBK) = some (.type "type"))
    (kcBK : PySem.W.keepIn K (.ref CBK) = true)
    (iBK : PySem.W.findIn K (.ref CBK) "__init__" = some (some (.ref fBK)))
    (lBK : K.lookup fBK = some ⟨ocBK, odBK, .func (PySem.W.fnOf "__init__" "BadKeep.__init__" (defArgs sBkInit) (defBody sBkInit) (defScope sBkInit) .none kvBK dcBK pmBK anBK cdBK ctBK), slBK⟩)
    (cBK : PySem.W.codeIn K cdBK "BadKeep.__init__" = true)
    (kBK : PySem.W.keepIn K (.ref fBK) = true)
    (tyBK : PySem.W.typeIn K (.ref fBK) = some (.type "function"))
    (npBK : PySem.W.findIn K (.ref CBK) "part" = some none)
    (hgBK : PySem.W.findIn K (.ref CBK) "__getattribute__" = some (some (.builtin "BaseException.__getattribute__")))
    (hkBK : PySem.W.findIn K (.ref CBK) "__getattr__" = some none)
    (hdBK : PySem.W.hasDictIn K CBK = true)
    (haBK : PySem.W.findIn K (.ref CBK) "__class__" = some (some (.builtin "object.__class__")))
    (hmBK : PySem.W.mroIn K CBK (.type "object") = some true)
    (aBP : PySem.W.nsIn K mainGlobals "BadPlan" = some (some (.ref CBP)))
    (xBP : K.lookup CBP = some (excClassObj nmBP qqBP CBP NBP bsBP bmBP true snBP sbBP abBP coBP ddBP k0BP k1BP k2BP k3BP k5BP "ValueError.__new__"))
    (rBP : PySem.HandSPX.refsVE bmBP = true)
    (saBP : PySem.W.findIn K (.ref CBP) "__setattr__" = some (some (.builtin "object.__setattr__")))
    (eBP : PySem.W.subIn K (.ref CBP) (.type "BaseException") = some true)
    (tBP : PySem.W.typeIn K (.ref CBP) = some (.type "type"))
    (kcBP : PySem.W.keepIn K (.ref CBP) = true)
    (iBP : PySem.W.findIn K (.ref CBP) "__init__" = some (some (.ref fBP)))
    (lBP : K.lookup fBP = some ⟨ocBP, odBP, .func (PySem.W.fnOf "__init__" "BadPlan.__init__" (defArgs sBpInit) (defBody sBpInit) (defScope sBpInit) .none kvBP dcBP pmBP anBP cdBP ctBP), slBP⟩)
    (cBP : PySem.W.codeIn K cdBP "BadPlan.__init__" = true)
    (kBP : PySem.W.keepIn K (.ref fBP) = true)
    (tyBP : PySem.W.typeIn K (.ref fBP) = some (.type "function"))
    (npBP : PySem.W.findIn K (.ref CBP) "part" = some none)
    (hgBP : PySem.W.findIn K (.ref CBP) "__getattribute__" = some (some (.builtin "BaseException.__getattribute__")))
    (hkBP : PySem.W.findIn K (.ref CBP) "__getattr__" = some none)
    (hdBP : PySem.W.hasDictIn K CBP = true)
    (haBP : PySem.W.findIn K (.ref CBP) "__class__" = some (some (.builtin "object.__class__")))
    (hmBP : PySem.W.mroIn K CBP (.type "object") = some true)
    (spc : PySem.W.specialIn K (.builtin "object.__class__") "__get__" = some (some (.builtin "getset_descriptor.__get__")))
    (tkc : PySem.W.takesIn K (.builtin "object.__class__") = some true)
    (aCK : PySem.W.nsIn K mainGlobals "Keep" = some (some (.ref CK)))
    (pgK : PySem.W.plainGet K CK Str.empty = true)
    (hdcK : PySem.W.hasDictIn K CK = true)
    (poK : PySem.W.plainOver K CK = true)
    (sacK : PySem.W.findIn K (.ref CK) "__setattr__" = some (some (.builtin "object.__setattr__")))
    (n1K : PySem.W.findIn K (.ref CK) "shelves" = some none)
    (n2K : PySem.W.findIn K (.ref CK) "blocks" = some none)
    (n3K : PySem.W.findIn K (.ref CK) "harms" = some none)
    (n4K : PySem.W.findIn K (.ref CK) "most" = some none)
    (mkK : PySem.W.makesIn K CK = true)
    (inK : PySem.W.findIn K (.ref CK) "__init__" = some (some (.ref fKI)))
    (fnK : PySem.W.isFn K (.ref fKI) = true)
    (kclK : PySem.W.keepIn K (.ref CK) = true)
    (hacK : PySem.W.findIn K (.ref CK) "__class__" = some (some (.builtin "object.__class__")))
    (hmcK : PySem.W.mroIn K CK (.type "object") = some true)
    (kitcK : PySem.W.kitOne K (.ref CK) (.ref CK) = some true)
    (neK : PySem.W.findIn K (.ref CK) "__ne__" = some (some (.builtin "object.__ne__")))
    (lKI : K.lookup fKI = some ⟨ocKI, odKI, .func (PySem.W.fnOf "__init__" "Keep.__init__" (defArgs sKInit) (defBody sKInit) (defScope sKInit) (.ref TD) (.ref DK) dcKI pmKI anKI cdKI ctKI), slKI⟩)
    (cKI : PySem.W.codeIn K cdKI "Keep.__init__" = true)
    (kKI : PySem.W.keepIn K (.ref fKI) = true)
    (lTD : K.lookup TD = some oTD)
    (dTD : oTD.data = .seq #[.ref aE] nTD)
    (lE : K.lookup aE = some ⟨.type "tuple", odE, .seq #[] nE, slE⟩)
    (wKImost : PySem.W.nsIn K DK "most" = some (some (.int 1 tkm)))
    (hKeq : PySem.W.findIn K (.ref CK) "__eq__" = some (some (.ref fKeq)))
    (fnKeq : PySem.W.isFn K (.ref fKeq) = true)
    (lKeq : K.lookup fKeq = some ⟨ocKeq, odKeq, .func (PySem.W.fnOf "__eq__" "Keep.__eq__" (defArgs sKEq) (defBody sKEq) (defScope sKEq) .none kvKeq dcKeq pmKeq anKeq cdKeq ctKeq), slKeq⟩)
    (cKeq : PySem.W.codeIn K cdKeq "Keep.__eq__" = true)
    (kKeq : PySem.W.keepIn K (.ref fKeq) = true)
    (aCP : PySem.W.nsIn K mainGlobals "Plan" = some (some (.ref CP)))
    (pgP : PySem.W.plainGet K CP Str.empty = true)
    (hdcP : PySem.W.hasDictIn K CP = true)
    (poP : PySem.W.plainOver K CP = true)
    (sacP : PySem.W.findIn K (.ref CP) "__setattr__" = some (some (.builtin "object.__setattr__")))
    (n1P : PySem.W.findIn K (.ref CP) "sums" = some none)
    (n2P : PySem.W.findIn K (.ref CP) "order" = some none)
    (n3P : PySem.W.findIn K (.ref CP) "choice" = some none)
    (n4P : PySem.W.findIn K (.ref CP) "mends" = some none)
    (n5P : PySem.W.findIn K (.ref CP) "limit" = some none)
    (mkP : PySem.W.makesIn K CP = true)
    (inP : PySem.W.findIn K (.ref CP) "__init__" = some (some (.ref fPI)))
    (fnP : PySem.W.isFn K (.ref fPI) = true)
    (kclP : PySem.W.keepIn K (.ref CP) = true)
    (hacP : PySem.W.findIn K (.ref CP) "__class__" = some (some (.builtin "object.__class__")))
    (hmcP : PySem.W.mroIn K CP (.type "object") = some true)
    (kitcP : PySem.W.kitOne K (.ref CP) (.ref CP) = some true)
    (neP : PySem.W.findIn K (.ref CP) "__ne__" = some (some (.builtin "object.__ne__")))
    (lPI : K.lookup fPI = some ⟨ocPI, odPI, .func (PySem.W.fnOf "__init__" "Plan.__init__" (defArgs sPInit) (defBody sPInit) (defScope sPInit) .none (.ref DP) dcPI pmPI anPI cdPI ctPI), slPI⟩)
    (cPI : PySem.W.codeIn K cdPI "Plan.__init__" = true)
    (kPI : PySem.W.keepIn K (.ref fPI) = true)
    (wPIchoice : PySem.W.nsIn K DP "choice" = some (some (.str "first" tpc)))
    (wPImends : PySem.W.nsIn K DP "mends" = some (some (.bool true)))
    (wPIlimit : PySem.W.nsIn K DP "limit" = some (some .none))
    (hPeq : PySem.W.findIn K (.ref CP) "__eq__" = some (some (.ref fPeq)))
    (fnPeq : PySem.W.isFn K (.ref fPeq) = true)
    (lPeq : K.lookup fPeq = some ⟨ocPeq, odPeq, .func (PySem.W.fnOf "__eq__" "Plan.__eq__" (defArgs sPEq) (defBody sPEq) (defScope sPEq) .none kvPeq dcPeq pmPeq anPeq cdPeq ctPeq), slPeq⟩)
    (cPeq : PySem.W.codeIn K cdPeq "Plan.__eq__" = true)
    (kPeq : PySem.W.keepIn K (.ref fPeq) = true)
    (aCS : PySem.W.nsIn K mainGlobals "Safe" = some (some (.ref CS)))
    (pgS : PySem.W.plainGet K CS Str.empty = true)
    (hdcS : PySem.W.hasDictIn K CS = true)
    (poS : PySem.W.plainOver K CS = true)
    (sacS : PySem.W.findIn K (.ref CS) "__setattr__" = some (some (.builtin "object.__setattr__")))
    (n1S : PySem.W.findIn K (.ref CS) "states" = some none)
    (mkS : PySem.W.makesIn K CS = true)
    (inS : PySem.W.findIn K (.ref CS) "__init__" = some (some (.ref fSI)))
    (fnS : PySem.W.isFn K (.ref fSI) = true)
    (kclS : PySem.W.keepIn K (.ref CS) = true)
    (hacS : PySem.W.findIn K (.ref CS) "__class__" = some (some (.builtin "object.__class__")))
    (hmcS : PySem.W.mroIn K CS (.type "object") = some true)
    (kitcS : PySem.W.kitOne K (.ref CS) (.ref CS) = some true)
    (neS : PySem.W.findIn K (.ref CS) "__ne__" = some (some (.builtin "object.__ne__")))
    (lSI : K.lookup fSI = some ⟨ocSI, odSI, .func (PySem.W.fnOf "__init__" "Safe.__init__" (defArgs sSaInit) (defBody sSaInit) (defScope sSaInit) .none kvSI dcSI pmSI anSI cdSI ctSI), slSI⟩)
    (cSI : PySem.W.codeIn K cdSI "Safe.__init__" = true)
    (kSI : PySem.W.keepIn K (.ref fSI) = true)
    (hSeq : PySem.W.findIn K (.ref CS) "__eq__" = some (some (.ref fSeq)))
    (fnSeq : PySem.W.isFn K (.ref fSeq) = true)
    (lSeq : K.lookup fSeq = some ⟨ocSeq, odSeq, .func (PySem.W.fnOf "__eq__" "Safe.__eq__" (defArgs sSaEq) (defBody sSaEq) (defScope sSaEq) .none kvSeq dcSeq pmSeq anSeq cdSeq ctSeq), slSeq⟩)
    (cSeq : PySem.W.codeIn K cdSeq "Safe.__eq__" = true)
    (kSeq : PySem.W.keepIn K (.ref fSeq) = true)
    (aCH : PySem.W.nsIn K mainGlobals "Harmed" = some (some (.ref CH)))
    (pgH : PySem.W.plainGet K CH Str.empty = true)
    (hdcH : PySem.W.hasDictIn K CH = true)
    (poH : PySem.W.plainOver K CH = true)
    (sacH : PySem.W.findIn K (.ref CH) "__setattr__" = some (some (.builtin "object.__setattr__")))
    (n1H : PySem.W.findIn K (.ref CH) "history" = some none)
    (mkH : PySem.W.makesIn K CH = true)
    (inH : PySem.W.findIn K (.ref CH) "__init__" = some (some (.ref fHI)))
    (fnH : PySem.W.isFn K (.ref fHI) = true)
    (kclH : PySem.W.keepIn K (.ref CH) = true)
    (hacH : PySem.W.findIn K (.ref CH) "__class__" = some (some (.builtin "object.__class__")))
    (hmcH : PySem.W.mroIn K CH (.type "object") = some true)
    (kitcH : PySem.W.kitOne K (.ref CH) (.ref CH) = some true)
    (neH : PySem.W.findIn K (.ref CH) "__ne__" = some (some (.builtin "object.__ne__")))
    (lHI : K.lookup fHI = some ⟨ocHI, odHI, .func (PySem.W.fnOf "__init__" "Harmed.__init__" (defArgs sHaInit) (defBody sHaInit) (defScope sHaInit) .none kvHI dcHI pmHI anHI cdHI ctHI), slHI⟩)
    (cHI : PySem.W.codeIn K cdHI "Harmed.__init__" = true)
    (kHI : PySem.W.keepIn K (.ref fHI) = true)
    (hHeq : PySem.W.findIn K (.ref CH) "__eq__" = some (some (.ref fHeq)))
    (fnHeq : PySem.W.isFn K (.ref fHeq) = true)
    (lHeq : K.lookup fHeq = some ⟨ocHeq, odHeq, .func (PySem.W.fnOf "__eq__" "Harmed.__eq__" (defArgs sHaEq) (defBody sHaEq) (defScope sHaEq) .none kvHeq dcHeq pmHeq anHeq cdHeq ctHeq), slHeq⟩)
    (cHeq : PySem.W.codeIn K cdHeq "Harmed.__eq__" = true)
    (kHeq : PySem.W.keepIn K (.ref fHeq) = true)
    (aCG : PySem.W.nsIn K mainGlobals "Sight" = some (some (.ref CG)))
    (pgG : PySem.W.plainGet K CG Str.empty = true)
    (hdcG : PySem.W.hasDictIn K CG = true)
    (poG : PySem.W.plainOver K CG = true)
    (sacG : PySem.W.findIn K (.ref CG) "__setattr__" = some (some (.builtin "object.__setattr__")))
    (n1G : PySem.W.findIn K (.ref CG) "states" = some none)
    (n2G : PySem.W.findIn K (.ref CG) "seen" = some none)
    (n3G : PySem.W.findIn K (.ref CG) "unseen" = some none)
    (mkG : PySem.W.makesIn K CG = true)
    (inG : PySem.W.findIn K (.ref CG) "__init__" = some (some (.ref fGI)))
    (fnG : PySem.W.isFn K (.ref fGI) = true)
    (kclG : PySem.W.keepIn K (.ref CG) = true)
    (hacG : PySem.W.findIn K (.ref CG) "__class__" = some (some (.builtin "object.__class__")))
    (hmcG : PySem.W.mroIn K CG (.type "object") = some true)
    (kitcG : PySem.W.kitOne K (.ref CG) (.ref CG) = some true)
    (neG : PySem.W.findIn K (.ref CG) "__ne__" = some (some (.builtin "object.__ne__")))
    (lGI : K.lookup fGI = some ⟨ocGI, odGI, .func (PySem.W.fnOf "__init__" "Sight.__init__" (defArgs sSiInit) (defBody sSiInit) (defScope sSiInit) .none kvGI dcGI pmGI anGI cdGI ctGI), slGI⟩)
    (cGI : PySem.W.codeIn K cdGI "Sight.__init__" = true)
    (kGI : PySem.W.keepIn K (.ref fGI) = true)
    (hGeq : PySem.W.findIn K (.ref CG) "__eq__" = some (some (.ref fGeq)))
    (fnGeq : PySem.W.isFn K (.ref fGeq) = true)
    (lGeq : K.lookup fGeq = some ⟨ocGeq, odGeq, .func (PySem.W.fnOf "__eq__" "Sight.__eq__" (defArgs sSiEq) (defBody sSiEq) (defScope sSiEq) .none kvGeq dcGeq pmGeq anGeq cdGeq ctGeq), slGeq⟩)
    (cGeq : PySem.W.codeIn K cdGeq "Sight.__eq__" = true)
    (kGeq : PySem.W.keepIn K (.ref fGeq) = true)
    (ktCKCP : PySem.W.kitOne K (.ref CP) (.ref CK) = some false)
    (sbCKCP : PySem.W.subIn K (.ref CP) (.ref CK) = some false)
    (ktCPCK : PySem.W.kitOne K (.ref CK) (.ref CP) = some false)
    (sbCPCK : PySem.W.subIn K (.ref CK) (.ref CP) = some false)
    (ktCSCH : PySem.W.kitOne K (.ref CH) (.ref CS) = some false)
    (sbCSCH : PySem.W.subIn K (.ref CH) (.ref CS) = some false)
    (ktCSCG : PySem.W.kitOne K (.ref CG) (.ref CS) = some false)
    (sbCSCG : PySem.W.subIn K (.ref CG) (.ref CS) = some false)
    (ktCHCS : PySem.W.kitOne K (.ref CS) (.ref CH) = some false)
    (sbCHCS : PySem.W.subIn K (.ref CS) (.ref CH) = some false)
    (ktCHCG : PySem.W.kitOne K (.ref CG) (.ref CH) = some false)
    (sbCHCG : PySem.W.subIn K (.ref CG) (.ref CH) = some false)
    (ktCGCS : PySem.W.kitOne K (.ref CS) (.ref CG) = some false)
    (sbCGCS : PySem.W.subIn K (.ref CS) (.ref CG) = some false)
    (ktCGCH : PySem.W.kitOne K (.ref CH) (.ref CG) = some false)
    (sbCGCH : PySem.W.subIn K (.ref CH) (.ref CG) = some false) :
    LawAtS l w K CX0 13 63 "script" mg fa h := by
  have e := hfa.symm.trans (PySem.W.mg_of X G aLw)
  cases e
  have xcBK : ExcC K CBK := ⟨hgBK, hkBK, eBK, hdBK, haBK, spc, tkc, hmBK⟩
  have xcBP : ExcC K CBP := ⟨hgBP, hkBP, eBP, hdBP, haBP, spc, tkc, hmBP⟩
  let B : Blt mg := ⟨PySem.W.mg_none_of X G b_isinstance, PySem.W.mg_none_of X G b_int, PySem.W.mg_none_of X G b_bool, PySem.W.mg_none_of X G b_str, PySem.W.mg_none_of X G b_tuple, PySem.W.mg_none_of X G b_all, PySem.W.mg_none_of X G b_sorted, PySem.W.mg_none_of X G b_list, PySem.W.mg_none_of X G b_range, PySem.W.mg_none_of X G b_len, PySem.W.mg_none_of X G b_sum, PySem.W.mg_none_of X G b_zip, PySem.W.mg_none_of X G b_enumerate⟩
  let Tp : Parts K mg := ⟨⟨fII, _, (fun_mk lII cII kII), PySem.W.mg_of X G aII⟩, ⟨fBt, _, (fun_mk lBt cBt kBt), PySem.W.mg_of X G aBt⟩, ⟨fOo, _, (fun_mk lOo cOo kOo), PySem.W.mg_of X G aOo⟩, ⟨fPs, _, (fun_mk lPs cPs kPs), PySem.W.mg_of X G aPs⟩, ⟨fAh, _, (fun_mk lAh cAh kAh), PySem.W.mg_of X G aAh⟩, ⟨fAs, _, (fun_mk lAs cAs kAs), PySem.W.mg_of X G aAs⟩, ⟨fIo, _, (fun_mk lIo cIo kIo), PySem.W.mg_of X G aIo⟩, ⟨fTH, PySem.W.mg_of X G aTH, fun _ => .inr ⟨_, _, _, lTH, rfl, rfl, sTH, vTH⟩⟩, ⟨fTK, PySem.W.mg_of X G aTK, fun _ => .inr ⟨_, _, _, lTK, rfl, rfl, sTK, vTK⟩⟩, ⟨fTC, PySem.W.mg_of X G aTC, fun _ => .inr ⟨_, _, _, lTC, rfl, rfl, sTC, vTC⟩⟩, ⟨fTP, PySem.W.mg_of X G aTP, fun _ => .inr ⟨_, _, _, lTP, rfl, rfl, sTP, vTP⟩⟩, ⟨⟨_, PySem.W.mg_of X G aNB⟩⟩, ⟨⟨_, PySem.W.mg_of X G aNS⟩⟩, B, ⟨CBK, fBK, _, PySem.W.mg_of X G aBK, (fun_mk lBK cBK kBK), ⟨⟨_, _, _, _, _, _, _, _, _, _, _, _, _, _, _, xBK, rBK⟩, saBK, eBK, tBK, kcBK⟩, iBK, tyBK, npBK, xcBK⟩, ⟨CBP, fBP, _, PySem.W.mg_of X G aBP, (fun_mk lBP cBP kBP), ⟨⟨_, _, _, _, _, _, _, _, _, _, _, _, _, _, _, xBP, rBP⟩, saBP, eBP, tBP, kcBP⟩, iBP, tyBP, npBP, xcBP⟩⟩
  have cK : Cls K CK := ⟨pgK, hdcK, poK, sacK⟩
  have KIK : KIsi K CK := ⟨hacK, spc, tkc, hmcK, kitcK⟩
  have cP : Cls K CP := ⟨pgP, hdcP, poP, sacP⟩
  have KIP : KIsi K CP := ⟨hacP, spc, tkc, hmcP, kitcP⟩
  have cS : Cls K CS := ⟨pgS, hdcS, poS, sacS⟩
  have KIS : KIsi K CS := ⟨hacS, spc, tkc, hmcS, kitcS⟩
  have cH : Cls K CH := ⟨pgH, hdcH, poH, sacH⟩
  have KIH : KIsi K CH := ⟨hacH, spc, tkc, hmcH, kitcH⟩
  have cG : Cls K CG := ⟨pgG, hdcG, poG, sacG⟩
  have KIG : KIsi K CG := ⟨hacG, spc, tkc, hmcG, kitcG⟩
  let KC : KCls K mg := ⟨CK, PySem.W.mg_of X G aCK, cK, n1K, n2K, n3K, n4K⟩
  have FKi : FKI K aE fKI _ := ⟨⟨_, _, _, _, _, _, _, _, _, _, rfl, lKI, cKI, .inr ⟨by simp, TD, oTD, [.ref aE], nTD, rfl, lTD, dTD, .cons rfl .nil⟩, .inr ⟨DK, rfl, fun q hq => by
    cases List.mem_singleton.mp hq
    exact ⟨_, wKImost, _, rfl⟩⟩⟩, kKI⟩
  let KM : KMk K mg KC.C := ⟨fKI, _, aE, FKi, ⟨mkK, inK, fnK, kclK⟩, fun _ => .inr ⟨_, _, _, lE, rfl, rfl, Nat.zero_le _, .nil⟩⟩
  let PC : PCls K mg := ⟨CP, PySem.W.mg_of X G aCP, cP, n1P, n2P, n3P, n4P, n5P⟩
  have FPi : FPI K fPI _ := ⟨⟨_, _, _, _, _, _, _, _, _, _, rfl, lPI, cPI, .inl ⟨rfl, rfl⟩, .inr ⟨DP, rfl, fun q hq => by
    rcases mem3 hq with rfl | rfl | rfl
    · exact ⟨_, wPIchoice, _, rfl⟩
    · exact ⟨_, wPImends, rfl⟩
    · exact ⟨_, wPIlimit, rfl⟩⟩⟩, kPI⟩
  let PM : PMkr K mg PC.C := ⟨fPI, _, FPi, ⟨mkP, inP, fnP, kclP⟩⟩
  let D : KPD K mg := ⟨Tp, KC, KM, PC, PM, ⟨fKeq, _, (fun_mk lKeq cKeq kKeq), ⟨hKeq, fnKeq⟩, kKeq⟩, ⟨fPeq, _, (fun_mk lPeq cPeq kPeq), ⟨hPeq, fnPeq⟩, kPeq⟩, ⟨ktCKCP, notFirst_sub sbCKCP, cP, KIP⟩, ⟨ktCPCK, notFirst_sub sbCPCK, cK, KIK⟩, neK, neP⟩
  let L : LawD K mg := ⟨B, ⟨fNu, _, (fun_mk lNu cNu kNu), PySem.W.mg_of X G aNu⟩, ⟨fPa, _, (fun_mk lPa cPa kPa), PySem.W.mg_of X G aPa⟩, ⟨fAn, _, (fun_mk lAn cAn kAn), PySem.W.mg_of X G aAn⟩, ⟨fSe, _, (fun_mk lSe cSe kSe), PySem.W.mg_of X G aSe⟩, ⟨CS, PySem.W.mg_of X G aCS, cS, KIS, neS⟩, ⟨CH, PySem.W.mg_of X G aCH, cH, KIH, neH⟩, ⟨CG, PySem.W.mg_of X G aCG, cG, KIG, neG⟩,
    ⟨fSI, _, (fun_mk lSI cSI kSI), ⟨mkS, inS, fnS, kclS⟩⟩, ⟨fHI, _, (fun_mk lHI cHI kHI), ⟨mkH, inH, fnH, kclH⟩⟩, ⟨fGI, _, (fun_mk lGI cGI kGI), ⟨mkG, inG, fnG, kclG⟩⟩, ⟨fSeq, _, (fun_mk lSeq cSeq kSeq), ⟨hSeq, fnSeq⟩, kSeq⟩, ⟨fHeq, _, (fun_mk lHeq cHeq kHeq), ⟨hHeq, fnHeq⟩, kHeq⟩, ⟨fGeq, _, (fun_mk lGeq cGeq kGeq), ⟨hGeq, fnGeq⟩, kGeq⟩, n1S, n1H, n1G, n2G, n3G, ⟨ktCSCH, notFirst_sub sbCSCH, cH, KIH⟩, ⟨ktCSCG, notFirst_sub sbCSCG, cG, KIG⟩, ⟨ktCHCS, notFirst_sub sbCHCS, cS, KIS⟩, ⟨ktCHCG, notFirst_sub sbCHCG, cG, KIG⟩, ⟨ktCGCS, notFirst_sub sbCGCS, cS, KIS⟩, ⟨ktCGCH, notFirst_sub sbCGCH, cH, KIH⟩⟩
  refine ⟨PySem.W.fnOf "law" "law" (defArgs sLaw) (defBody sLaw) (defScope sLaw) .none kvLw dcLw pmLw anLw cdLw ctLw, [], spLaw K, ?_, ?_, ?_, fun s u => ?_, fun H a ns hl hz hT hs => ?_, fun base KX GX hTB => ?_⟩
  · intro p hp
    cases hp
  · intro p hp
    cases hp
  · intro p hp
    cases hp
  · exact .of_eq rfl
  · exact ⟨a, ns, rfl, hs, hl, fun _ => rfl⟩
  · exact ok_law (fun_mk lLw cLw kLw) L D
end KW

namespace KW
open PySem PySem.Spec PyProof.Rows L2 LamX
theorem fin {l : PySem.W.OpenLaw} {q : Program} {loose : List Str} {XP : (Str → Option Value) → Heap → Prop} {YP : World → Heap → Prop} {d : DefRec} {K : Params → PySem.W.Frag}
    (hn : l.most = some 63) (hdf : d.params.defaults = []) (hY : ∀ (w : World) (h : Heap), YP w h → (K w.params).In h)
    (F : ∀ (w : World) (mg : Str → Option Value) (fa : Addr) (h : Heap), YP w h → (K w.params).In h → h.Ns mainGlobals mg → mg d.name = some (.ref fa) → LawAtS l w (K w.params) CX0 13 63 "script" mg fa h) :
    PySem.W.WalkO q loose XP YP l.row.toRowW d [] (fun f vs => PySem.call f vs) :=
  walk_ofTs (n := 63) (k := 13) (x := "script") (CX := fun _ => CX0) hn (by decide) hdf ⟨rfl, by decide, by decide⟩ hY F fun _ _ _ _ _ z => z
end KW
open PySem PySem.W PyProof.Rows
set_option maxRecDepth 100000 in
set_option maxHeartbeats 0 in
theorem PySem.Challenge.cw_quietharm_k14_whole_answers_holds : PySem.Challenge.rw_quietharm_k14_whole_answers.Holds := by
  w_on; o_law; k_head; (case hw => w_witness2)
  k_fill
  refine' KW.fin (l := PySem.Challenge.rw_quietharm_k14_whole_answers) ?hn ?hdf (fun w h Y => km_in_of Y) ?F
  case hn => rfl
  case hdf => rfl
  case F =>
    intro w mg fa h Y KX G hmg
    refine' KW.all_mk KX G hmg ?aII ?lII ?cII ?kII ?aBt ?lBt ?cBt ?kBt ?aOo ?lOo ?cOo ?kOo ?aPs ?lPs ?cPs ?kPs ?aAh ?lAh ?cAh ?kAh ?aAs ?lAs ?cAs ?kAs ?aIo ?lIo ?cIo ?kIo ?aNu ?lNu ?cNu ?kNu ?aPa ?lPa ?cPa ?kPa ?aAn ?lAn ?cAn ?kAn ?aSe ?lSe ?cSe ?kSe ?aLw ?lLw ?cLw ?kLw ?aTH ?lTH ?sTH ?vTH ?aTK ?lTK ?sTK ?vTK ?aTC ?lTC ?sTC ?vTC ?aTP ?lTP ?sTP ?vTP ?aNB ?aNS ?b_isinstance ?b_int ?b_bool ?b_str ?b_tuple ?b_all ?b_sorted ?b_list ?b_range ?b_len ?b_sum ?b_zip ?b_enumerate ?aBK ?xBK ?rBK ?saBK ?eBK ?tBK ?kcBK ?iBK ?lBK ?cBK ?kBK ?tyBK ?npBK ?hgBK ?hkBK ?hdBK ?haBK ?hmBK ?aBP ?xBP ?rBP ?saBP ?eBP ?tBP ?kcBP ?iBP ?lBP ?cBP ?kBP ?tyBP ?npBP ?hgBP ?hkBP ?hdBP ?haBP ?hmBP ?spc ?tkc ?aCK ?pgK ?hdcK ?poK ?sacK ?n1K ?n2K ?n3K ?n4K ?mkK ?inK ?fnK ?kclK ?hacK ?hmcK ?kitcK ?neK ?lKI ?cKI ?kKI ?lTD ?dTD ?lE ?wKImost ?hKeq ?fnKeq ?lKeq ?cKeq ?kKeq ?aCP ?pgP ?hdcP ?poP ?sacP ?n1P ?n2P ?n3P ?n4P ?n5P ?mkP ?inP ?fnP ?kclP ?hacP ?hmcP ?kitcP ?neP ?lPI ?cPI ?kPI ?wPIchoice ?wPImends ?wPIlimit ?hPeq ?fnPeq ?lPeq ?cPeq ?kPeq ?aCS ?pgS ?hdcS ?poS ?sacS ?n1S ?mkS ?inS ?fnS ?kclS ?hacS ?hmcS ?kitcS ?neS ?lSI ?cSI ?kSI ?hSeq ?fnSeq ?lSeq ?cSeq ?kSeq ?aCH ?pgH ?hdcH ?poH ?sacH ?n1H ?mkH ?inH ?fnH ?kclH ?hacH ?hmcH ?kitcH ?neH ?lHI ?cHI ?kHI ?hHeq ?fnHeq ?lHeq ?cHeq ?kHeq ?aCG ?pgG ?hdcG ?poG ?sacG ?n1G ?n2G ?n3G ?mkG ?inG ?fnG ?kclG ?hacG ?hmcG ?kitcG ?neG ?lGI ?cGI ?kGI ?hGeq ?fnGeq ?lGeq ?cGeq ?kGeq ?ktCKCP ?sbCKCP ?ktCPCK ?sbCPCK ?ktCSCH ?sbCSCH ?ktCSCG ?sbCSCG ?ktCHCS ?sbCHCS ?ktCHCG ?sbCHCG ?ktCGCS ?sbCGCS ?ktCGCH ?sbCGCH
    (case aII => k_is)
    (case lII => k_is)
    (case cII => k_is)
    (case kII => k_is)
    (case aBt => k_is)
    (case lBt => k_is)
    (case cBt => k_is)
    (case kBt => k_is)
    (case aOo => k_is)
    (case lOo => k_is)
    (case cOo => k_is)
    (case kOo => k_is)
    (case aPs => k_is)
    (case lPs => k_is)
    (case cPs => k_is)
    (case kPs => k_is)
    (case aAh => k_is)
    (case lAh => k_is)
    (case cAh => k_is)
    (case kAh => k_is)
    (case aAs => k_is)
    (case lAs => k_is)
    (case cAs => k_is)
    (case kAs => k_is)
    (case aIo => k_is)
    (case lIo => k_is)
    (case cIo => k_is)
    (case kIo => k_is)
    (case aNu => k_is)
    (case lNu => k_is)
    (case cNu => k_is)
    (case kNu => k_is)
    (case aPa => k_is)
    (case lPa => k_is)
    (case cPa => k_is)
    (case kPa => k_is)
    (case aAn => k_is)
    (case lAn => k_is)
    (case cAn => k_is)
    (case kAn => k_is)
    (case aSe => k_is)
    (case lSe => k_is)
    (case cSe => k_is)
    (case kSe => k_is)
    (case aLw => k_is)
    (case lLw => k_is)
    (case cLw => k_is)
    (case kLw => k_is)
    (case aTH => k_is)
    (case lTH => k_is)
    (case sTH => decide)
    (case vTH => (unfold KW.allH; exact (.cons ⟨_, rfl⟩ (.cons ⟨_, rfl⟩ (.cons ⟨_, rfl⟩ (.cons ⟨_, rfl⟩ (.cons ⟨_, rfl⟩ .nil)))))))
    (case aTK => k_is)
    (case lTK => k_is)
    (case sTK => decide)
    (case vTK => (unfold KW.allK; exact (.cons ⟨_, rfl⟩ (.cons ⟨_, rfl⟩ (.cons ⟨_, rfl⟩ (.cons ⟨_, rfl⟩ .nil))))))
    (case aTC => k_is)
    (case lTC => k_is)
    (case sTC => decide)
    (case vTC => (unfold KW.allC; exact (.cons ⟨_, rfl⟩ (.cons ⟨_, rfl⟩ (.cons ⟨_, rfl⟩ .nil)))))
    (case aTP => k_is)
    (case lTP => k_is)
    (case sTP => decide)
    (case vTP => (unfold KW.allP; exact (.cons ⟨_, rfl⟩ (.cons ⟨_, rfl⟩ (.cons ⟨_, rfl⟩ (.cons ⟨_, rfl⟩ (.cons ⟨_, rfl⟩ .nil)))))))
    (case aNB => k_is)
    (case aNS => k_is)
    (case b_isinstance => k_is)
    (case b_int => k_is)
    (case b_bool => k_is)
    (case b_str => k_is)
    (case b_tuple => k_is)
    (case b_all => k_is)
    (case b_sorted => k_is)
    (case b_list => k_is)
    (case b_range => k_is)
    (case b_len => k_is)
    (case b_sum => k_is)
    (case b_zip => k_is)
    (case b_enumerate => k_is)
    (case aBK => k_is)
    (case xBK => k_is)
    (case rBK => decide +kernel)
    (case saBK => k_is)
    (case eBK => k_is)
    (case tBK => k_is)
    (case kcBK => k_is)
    (case iBK => k_is)
    (case lBK => k_is)
    (case cBK => k_is)
    (case kBK => k_is)
    (case tyBK => k_is)
    (case npBK => k_is)
    (case hgBK => k_is)
    (case hkBK => k_is)
    (case hdBK => k_is)
    (case haBK => k_is)
    (case hmBK => k_is)
    (case aBP => k_is)
    (case xBP => k_is)
    (case rBP => decide +kernel)
    (case saBP => k_is)
    (case eBP => k_is)
    (case tBP => k_is)
    (case kcBP => k_is)
    (case iBP => k_is)
    (case lBP => k_is)
    (case cBP => k_is)
    (case kBP => k_is)
    (case tyBP => k_is)
    (case npBP => k_is)
    (case hgBP => k_is)
    (case hkBP => k_is)
    (case hdBP => k_is)
    (case haBP => k_is)
    (case hmBP => k_is)
    (case spc => k_is)
    (case tkc => k_is)
    (case aCK => k_is)
    (case pgK => k_is)
    (case hdcK => k_is)
    (case poK => k_is)
    (case sacK => k_is)
    (case n1K => k_is)
    (case n2K => k_is)
    (case n3K => k_is)
    (case n4K => k_is)
    (case mkK => k_is)
    (case inK => k_is)
    (case fnK => k_is)
    (case kclK => k_is)
    (case hacK => k_is)
    (case hmcK => k_is)
    (case kitcK => kernel_rfl)
    (case neK => k_is)
    (case lKI => k_is)
    (case cKI => k_is)
    (case kKI => k_is)
    (case lTD => k_is)
    (case dTD => exact rfl)
    (case lE => k_is)
    (case wKImost => k_is)
    (case hKeq => k_is)
    (case fnKeq => k_is)
    (case lKeq => k_is)
    (case cKeq => k_is)
    (case kKeq => k_is)
    (case aCP => k_is)
    (case pgP => k_is)
    (case hdcP => k_is)
    (case poP => k_is)
    (case sacP => k_is)
    (case n1P => k_is)
    (case n2P => k_is)
    (case n3P => k_is)
    (case n4P => k_is)
    (case n5P => k_is)
    (case mkP => k_is)
    (case inP => k_is)
    (case fnP => k_is)
    (case kclP => k_is)
    (case hacP => k_is)
    (case hmcP => k_is)
    (case kitcP => kernel_rfl)
    (case neP => k_is)
    (case lPI => k_is)
    (case cPI => k_is)
    (case kPI => k_is)
    (case wPIchoice => k_is)
    (case wPImends => k_is)
    (case wPIlimit => k_is)
    (case hPeq => k_is)
    (case fnPeq => k_is)
    (case lPeq => k_is)
    (case cPeq => k_is)
    (case kPeq => k_is)
    (case aCS => k_is)
    (case pgS => k_is)
    (case hdcS => k_is)
    (case poS => k_is)
    (case sacS => k_is)
    (case n1S => k_is)
    (case mkS => k_is)
    (case inS => k_is)
    (case fnS => k_is)
    (case kclS => k_is)
    (case hacS => k_is)
    (case hmcS => k_is)
    (case kitcS => kernel_rfl)
    (case neS => k_is)
    (case lSI => k_is)
    (case cSI => k_is)
    (case kSI => k_is)
    (case hSeq => k_is)
    (case fnSeq => k_is)
    (case lSeq => k_is)
    (case cSeq => k_is)
    (case kSeq => k_is)
    (case aCH => k_is)
    (case pgH => k_is)
    (case hdcH => k_is)
    (case poH => k_is)
    (case sacH => k_is)
    (case n1H => k_is)
    (case mkH => k_is)
    (case inH => k_is)
    (case fnH => k_is)
    (case kclH => k_is)
    (case hacH => k_is)
    (case hmcH => k_is)
    (case kitcH => kernel_rfl)
    (case neH => k_is)
    (case lHI => k_is)
    (case cHI => k_is)
    (case kHI => k_is)
    (case hHeq => k_is)
    (case fnHeq => k_is)
    (case lHeq => k_is)
    (case cHeq => k_is)
    (case kHeq => k_is)
    (case aCG => k_is)
    (case pgG => k_is)
    (case hdcG => k_is)
    (case poG => k_is)
    (case sacG => k_is)
    (case n1G => k_is)
    (case n2G => k_is)
    (case n3G => k_is)
    (case mkG => k_is)
    (case inG => k_is)
    (case fnG => k_is)
    (case kclG => k_is)
    (case hacG => k_is)
    (case hmcG => k_is)
    (case kitcG => kernel_rfl)
    (case neG => k_is)
    (case lGI => k_is)
    (case cGI => k_is)
    (case kGI => k_is)
    (case hGeq => k_is)
    (case fnGeq => k_is)
    (case lGeq => k_is)
    (case cGeq => k_is)
    (case kGeq => k_is)
    (case ktCKCP => kernel_rfl)
    (case sbCKCP => kernel_rfl)
    (case ktCPCK => kernel_rfl)
    (case sbCPCK => kernel_rfl)
    (case ktCSCH => kernel_rfl)
    (case sbCSCH => kernel_rfl)
    (case ktCSCG => kernel_rfl)
    (case sbCSCG => kernel_rfl)
    (case ktCHCS => kernel_rfl)
    (case sbCHCS => kernel_rfl)
    (case ktCHCG => kernel_rfl)
    (case sbCHCG => kernel_rfl)
    (case ktCGCS => kernel_rfl)
    (case sbCGCS => kernel_rfl)
    (case ktCGCH => kernel_rfl)
    (case sbCGCH => kernel_rfl)
