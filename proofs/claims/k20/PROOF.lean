import PyProof.Rows.All
import Wide.All
import OpenK.AllK
import Wide.FinOn
import HandS.Comp
import HandS.Iter
import HandS.Text
import HandS.Dict
import HandS.Words
import HandS.WordsList
import HandS.WordsDict
import HandS.Ends
import HandS.TryOnly
import HandS.ExcOwn
import HandS.ExcCtx
import HandS.WordsExc
import HandS.IsInst
import HandS.More
import HandS.SlotsOwn
import HandS.Star
import HandS.Deep
import HandS.ClsMeth
import HandS.TupSets
import HandS.SortOrd
import HandS.ForMost
import HandS.Wide
import HandS.Conv
import PySem.Challenge.RW_asunmoved_k20_errors_of_readers
import HandS.Walk
import HandS.ForExc
import HandS.Property
import HandS.FStr
import HandS.HotCalls
import HandS.ExcInit
import HandS.ExcField
import HandS.ExcIs
import KE.KExcIs
import PyProof.ReprRoads
import HandS.DictComp
import HandS.Lambda
import HandS.DeepEq
import HandS.Finally
import HandS.TupAny
import HandS.TupMul
import PyProof.StrOps2
import PyProof.ZipIter
import PyProof.Draws
import HandS.Zip
import HandS.EndTab
set_option Elab.async false
set_option linter.all false
set_option maxRecDepth 100000
set_option maxHeartbeats 8000000
namespace Dn
open PySem PySem.Spec PyProof.Rows L2
/-- the class has a def of that name, at g -/
structure Dun (K : PySem.W.Frag) (C : Addr) (m : Str) (g : Addr) : Prop where
  at_ : PySem.W.findIn K (.ref C) m = some (some (.ref g))
  fn : PySem.W.isFn K (.ref g) = true
section
variable {prog : Program} {w : World} {A : Around} {E : Value → Shared → Prop} {s : Shared} {K : PySem.W.Frag} {x C f : Addr} {ox : Obj} {od : Option Obj} {b tb : Value}
/-- what object's own ne says, by the text's eq -/
theorem obj_ne {Q : Fin → Shared → Prop} (hu : A.units < cLine) (X : K.In s.heap) (I : PySem.W.InstAt s.heap x ox C od) (hs : PySem.W.findIn K (.ref C) "__eq__" = some (some (.ref f))) (hf : PySem.W.isFn K (.ref f) = true)
    (h : wpAny (model prog w) A (call (.ref f) [.ref x, b]) (fun v s' => ∃ k, v = .bool k ∧ Q (.done (.ret (.bool (!k)))) s') E s) : wpAny (model prog w) A (Builtin.«object.__ne__» ⟨[.ref x, b], []⟩) Q E s := by
  unfold Builtin.«object.__ne__»
  repeat (first
    | with_reducible refine wpAny_cRoomFor hu ?_
    | (refine wpAny_bind (m := callSpecialIfBound? (.ref x) (Str.ofString "__eq__") [b]) (PySem.W.ifBound_K X I hs hf (wpAny_mono h (fun r s' hr => by
          obtain ⟨k, rfl, q⟩ := hr
          repeat (first | exact q | exact wpAny_pure q | exact wpAny_truthy_bool q | (refine wpAny_bind (m := truthy (.bool _)) (wpAny_truthy_bool ?_)) | wp_step)) fun _ _ e => e)))
    | wp_step)
theorem ne_K {Q : Value → Shared → Prop} (hu : A.units + 1 < cLine) (X : K.In s.heap) (I : PySem.W.InstAt s.heap x ox C od) (hb : PySem.W.Looks (model prog w) s.heap (typeOf b) tb) (hn : PySem.W.notFirst K C tb = true)
    (h0 : PySem.W.findIn K (.ref C) "__ne__" = some (some (.builtin "object.__ne__"))) (ho : PySem.W.subIn K (.ref C) (.type "object") = some true) (hs : PySem.W.findIn K (.ref C) "__eq__" = some (some (.ref f))) (hf : PySem.W.isFn K (.ref f) = true)
    (h : wpAny (model prog w) A.in1 (call (.ref f) [.ref x, b]) (fun v s' => ∃ k, v = .bool k ∧ Q (.bool (!k)) s') E s) : wpAny (model prog w) A (richCompare .NotEq (.ref x) b) Q E s := by
  have chk : ∀ {Q' : Unit → Shared → Prop} {E' : Value → Shared → Prop}, Q' () s → wpAny (model prog w) A.in1 (checkBuiltinCall "object.__ne__" ⟨[.ref x, b], []⟩) Q' E' s := fun q => by
    simp only [checkBuiltinCall, PySem.F.cmpKind_ne, PySem.F.cmpSplit_ne]
    refine wpAny_bind ?_
    unfold isInstance
    refine wpAny_bind (I.type.here ((PySem.W.looks_subIn X ho).here ?_))
    have ha := PySem.F.cmpArgs_ne (.ref x) b
    cases hsig : Manifest.signature? "object.__ne__" with
    | none => exact wpAny_pure q
    | some sig =>
      simp only [argsOk, hsig] at ha
      show wpAny _ _ (Bind.checkArgs "object.__ne__" sig ⟨[.ref x, b], []⟩) _ _ _
      rw [show Bind.checkArgs "object.__ne__" sig ⟨[.ref x, b], []⟩ = pure () from ha]
      exact wpAny_pure q
  have one : wpAny (model prog w) A (tryCompare (.ref x) "__ne__" b) (fun r s' => ∃ v, r = some v ∧ Q v s') E s := by
    unfold tryCompare
    have hc : wpAny (model prog w) A (call (.builtin "object.__ne__") [.ref x, b]) (fun v s' => ∃ k, v = .bool k ∧ Q (.bool k) s') E s := by
      refine wpAny_call (codeAny_call_builtin PySem.F.cmp_object.ne.plain PySem.F.cmpEntry_ne (chk (obj_ne (A := A.in1) (by simpa using hu) X I hs hf (wpAny_mono h (fun v s' hv => ?_) fun _ _ e => e))))
      obtain ⟨k, rfl, q⟩ := hv
      exact ⟨k, rfl, _, rfl, q⟩
    have hbd : wpAny (model prog w) A (callSpecialIfBound? (.ref x) "__ne__" [b]) (fun r s' => ∃ k, r = some (.bool k) ∧ Q (.bool k) s') E s := by
      simp only [callSpecialIfBound?, bindSpecialIfBound?]
      refine wpAny_holding (wpAny_bind (wpAny_bind (wpAny_bind (I.type.here ((PySem.W.looks_findIn X h0).here ?_)))))
      simp only [PySem.F.cmp_object.ne.bind]
      refine wpAny_bind (wpAny_askSetting (wpAny_ite ?_))
      have fin : wpAny (model prog w) A (call (.builtin "object.__ne__") ([.ref x] ++ [b]) >>= fun v => pure (some v)) (fun r s' => ∃ k, r = some (.bool k) ∧ Q (.bool k) s') E s :=
        wpAny_bind (wpAny_mono hc (fun v s' hv => wpAny_pure (let ⟨k, e, q⟩ := hv; ⟨k, by rw [e], q⟩)) fun _ _ h' => h')
      split
      · exact wpAny_bind (wpAny_pure (wpAny_pure fin))
      · exact wpAny_tryCatch (wpAny_bind (wpAny_pure (wpAny_pure fin)))
    refine wpAny_bind (wpAny_mono hbd (fun r s' hr => ?_) fun _ _ e => e)
    obtain ⟨k, rfl, q⟩ := hr
    exact wpAny_pure ⟨_, rfl, q⟩
  unfold richCompare
  simp only [oneThing_ref]
  refine wpAny_holding (wpAny_bind (wpAny_cRoomFor (Nat.lt_of_succ_lt hu) ?_))
  rw [cmpInfo_NotEq]
  dsimp only
  refine wpAny_bind (I.type.here (wpAny_bind (hb.here ?_)))
  split
  · rename_i q
    have e : PySem.W.subIn K tb (.ref C) = some false := by
      rcases Bool.or_eq_true_iff.mp hn with e | e
      · rw [beq_iff_eq.mp e] at q; simp at q
      · exact beq_iff_eq.mp e
    refine wpAny_bind ((PySem.W.looks_subIn X e).here ?_)
    simp only [Bool.false_eq_true, if_false]
    refine wpAny_bind (wpAny_mono one (fun r s' z => ?_) fun _ _ e => e)
    obtain ⟨v, rfl, hq⟩ := z
    exact wpAny_pure hq
  · refine wpAny_bind (wpAny_pure ?_)
    simp only [Bool.false_eq_true, if_false]
    refine wpAny_bind (wpAny_mono one (fun r s' z => ?_) fun _ _ e => e)
    obtain ⟨v, rfl, hq⟩ := z
    exact wpAny_pure hq
end
section
variable {X : Cx} {CX : CXT} {pins : List (Addr × Obj)} {σ : L2.St} {H : Hp} {s : Shared} {a C dx g : Addr} {fs : List (Str × V)} {n : Nat} {sp : Sp} {E : XK}
theorem inst (I : Inv X pins σ H s) (e : H a = some (.ins C dx fs)) : ∃ ox od, PySem.W.InstAt s.heap a ox C (some od) := by
  obtain ⟨mA, O, _⟩ := ins_get I.hok e
  obtain ⟨od, J, _⟩ := O.look
  exact ⟨_, _, J⟩
theorem run_here {A : Around} {Q : VK} {us : List Value} {ws : List V} (F : FnR X.prog X.w X.K X.mg X.base CX n g sp) (hr : Room n A) (e0 : Env0 X.prog X.w X.K X.mg X.base A X.stack s H) (hx : PassesAt CX X σ E) (I : Inv X pins σ H s) (r : Vals ws us) (h : sp ws H Q E) :
    wpAny (model X.prog X.w) A (call (.ref g) us) (EP X pins σ Q) X.xe s := by
  refine wpAny_call (codeAny_mono (F A X.stack s H us ws Q E hr e0 r h) fun r s' hq => ?_)
  cases r with
  | error e => exact hx pins H s e s' I hq
  | ok fl =>
    cases fl with
    | ret u => exact I.after hq
    | next => exact False.elim hq
    | brk => exact False.elim hq
    | cont => exact False.elim hq
/-- len(x) -/
def rLenO (C : Addr) (sp : Sp) (E : XK) : List V → Hp → VK → Prop := fun xs H Q => ∃ a dx fs, xs = [V.ref a] ∧ H a = some (.ins C dx fs) ∧ sp [.ref a] H (fun z H' => ∃ n : Int, z = .int n ∧ 0 ≤ n ∧ n < 2 ^ 63 ∧ Q (.int n) H') E
theorem call_lenO (d : Dun X.K C "__len__" g) (F : FnR X.prog X.w X.K X.mg X.base CX n g sp) (hr : Room (n + 1) X.A) (hx : ∀ σ, PassesAt CX X σ E) : CallR X (.builtin "len") (rLenO C sp E) := by
  intro pins s σ H xs us Q I r h
  obtain ⟨a, dx, fs, rfl, ea, q⟩ := h
  obtain ⟨u, rfl, ru⟩ := r.one
  cases (show u = Value.ref a from ru)
  obtain ⟨ox, od, J⟩ := inst I ea
  obtain ⟨m, hF⟩ := I.fr
  refine PySem.W.len_K hF I.ok.mod.kin J d.at_ d.fn (wpAny_mono (run_here (us := [.ref a]) (ws := [.ref a]) F hr.in1 I.env0.in1 (hx σ) I (.cons rfl .nil) q) (fun w s' z => ?_) fun _ _ x => x)
  obtain ⟨z', H', I', rz, i, ei, h0, h1, qz⟩ := z
  subst ei
  obtain ⟨t, e⟩ := (show ∃ t, w = Value.int i t from rz)
  cases e
  exact ⟨⟨h0, h1⟩, .int i, H', I'.tok _, ⟨_, rfl⟩, qz⟩
/-- str(x) -/
def rStrO (C : Addr) (sp : Sp) (E : XK) : List V → Hp → VK → Prop := fun xs H Q => ∃ a dx fs, xs = [V.ref a] ∧ H a = some (.ins C dx fs) ∧ sp [.ref a] H (fun z H' => ∃ y, z = .str y ∧ Q (.str y) H') E
theorem call_strO (d : Dun X.K C "__str__" g) (F : FnR X.prog X.w X.K X.mg X.base CX n g sp) (hr : Room (n + 2) X.A) (hx : ∀ σ, PassesAt CX X σ E) : CallR X (.type "str") (rStrO C sp E) := by
  intro pins s σ H xs us Q I r h
  obtain ⟨a, dx, fs, rfl, ea, q⟩ := h
  obtain ⟨u, rfl, ru⟩ := r.one
  cases (show u = Value.ref a from ru)
  obtain ⟨ox, od, J⟩ := inst I ea
  have hr2 : Room n X.A.in1.in1 := (show Room (n + 1) X.A.in1 from Room.in1 hr).in1
  refine PySem.W.kso_call hr2.units0 I.kIn J d.at_ d.fn (wpAny_mono (run_here (us := [.ref a]) (ws := [.ref a]) F hr2 I.env0.in1.in1 (hx σ) I (.cons rfl .nil) q) (fun w s' z => ?_) fun _ _ x => x)
  obtain ⟨z', H', I', rz, y, ey, qz⟩ := z
  subst ey
  obtain ⟨t, e⟩ := (show ∃ t, w = Value.str y t from rz)
  cases e
  exact ⟨.str y, H', I', ⟨_, rfl⟩, qz⟩
/-- x in o, x not in o -/
def rInO (C : Addr) (sp : Sp) (E : XK) (neg : Bool) : R2 := fun x y H Q => ∃ a dx fs, y = .ref a ∧ H a = some (.ins C dx fs) ∧ sp [.ref a, x] H (fun z H' => ∃ k, z = .bl k ∧ Q (.bl (k != neg)) H') E
theorem op_inO (d : Dun X.K C "__contains__" g) (F : FnR X.prog X.w X.K X.mg X.base CX n g sp) (hr : Room n X.A) (hx : ∀ σ, PassesAt CX X σ E) : OpR X (compareOp .In) (rInO C sp E false) := by
  intro pins s σ H x y v u Q I rx ry h
  obtain ⟨a, dx, fs, rfl, ea, q⟩ := h
  cases (show u = Value.ref a from ry)
  obtain ⟨ox, od, J⟩ := inst I ea
  obtain ⟨m, hF⟩ := I.fr
  refine PySem.W.in_K hF I.ok.mod.kin J d.at_ d.fn (wpAny_mono (run_here (us := [.ref a, v]) (ws := [.ref a, x]) F hr I.env0 (hx σ) I (.cons rfl (.cons rx .nil)) q) (fun w s' z => ?_) fun _ _ x => x)
  obtain ⟨z', H', I', rz, k, ek, qz⟩ := z
  subst ek
  cases (show w = Value.bool k from rz)
  exact wpAny_truthy_bool ⟨.bl k, H', I', rfl, by cases k <;> exact qz⟩
theorem op_notInO (d : Dun X.K C "__contains__" g) (F : FnR X.prog X.w X.K X.mg X.base CX n g sp) (hr : Room n X.A) (hx : ∀ σ, PassesAt CX X σ E) : OpR X (compareOp .NotIn) (rInO C sp E true) := by
  intro pins s σ H x y v u Q I rx ry h
  obtain ⟨a, dx, fs, rfl, ea, q⟩ := h
  cases (show u = Value.ref a from ry)
  obtain ⟨ox, od, J⟩ := inst I ea
  obtain ⟨m, hF⟩ := I.fr
  refine PySem.W.notIn_K hF I.ok.mod.kin J d.at_ d.fn (wpAny_mono (run_here (us := [.ref a, v]) (ws := [.ref a, x]) F hr I.env0 (hx σ) I (.cons rfl (.cons rx .nil)) q) (fun w s' z => ?_) fun _ _ x => x)
  obtain ⟨z', H', I', rz, k, ek, qz⟩ := z
  subst ek
  cases (show w = Value.bool k from rz)
  exact wpAny_truthy_bool ⟨.bl (!k), H', I', rfl, by cases k <;> exact qz⟩
/-- x == y, x != y by the text's eq, y any value whose class is not one below C -/
def rEqO (K : PySem.W.Frag) (C : Addr) (sp : Sp) (E : XK) (neg : Bool) : R2 := fun x y H Q => ∃ a dx fs t, x = .ref a ∧ H a = some (.ins C dx fs) ∧ TyX K H y t ∧ PySem.W.notFirst K C t = true ∧ sp [x, y] H (fun z H' => ∃ k, z = .bl k ∧ Q (.bl (k != neg)) H') E
theorem op_eqO (d : Dun X.K C "__eq__" g) (F : FnR X.prog X.w X.K X.mg X.base CX n g sp) (hr : Room n X.A) (hx : ∀ σ, PassesAt CX X σ E) : OpR X (compareOp .Eq) (rEqO X.K C sp E false) := by
  intro pins s σ H x y v u Q I rx ry h
  obtain ⟨a, dx, fs, t, rfl, ea, ty, hn, q⟩ := h
  cases (show v = Value.ref a from rx)
  obtain ⟨ox, od, J⟩ := inst I ea
  obtain ⟨P, Z, p, _⟩ := kit_of I ry ty
  obtain ⟨m, hF⟩ := I.fr
  show wpAny _ _ (richCompare .Eq (.ref a) u) _ _ _
  refine PySem.W.cmp_K (op := .Eq) (tb := t) hr.units0 hF I.ok.mod.kin J (Z.ty _ _ I.kIn p) hn d.at_ d.fn (wpAny_mono (run_here (us := [.ref a, u]) (ws := [.ref a, y]) F hr I.env0 (hx σ) I (.cons rfl (.cons ry .nil)) q) (fun w s' z => ?_) fun _ _ x => x)
  obtain ⟨z', H', I', rz, k, ek, qz⟩ := z
  subst ek
  cases (show w = Value.bool k from rz)
  exact ⟨.bl k, H', I', rfl, by cases k <;> exact qz⟩
theorem op_neO (h0 : PySem.W.findIn X.K (.ref C) "__ne__" = some (some (.builtin "object.__ne__"))) (ho : PySem.W.subIn X.K (.ref C) (.type "object") = some true) (d : Dun X.K C "__eq__" g)
    (F : FnR X.prog X.w X.K X.mg X.base CX n g sp) (hr : Room (n + 1) X.A) (hx : ∀ σ, PassesAt CX X σ E) : OpR X (compareOp .NotEq) (rEqO X.K C sp E true) := by
  intro pins s σ H x y v u Q I rx ry h
  obtain ⟨a, dx, fs, t, rfl, ea, ty, hn, q⟩ := h
  cases (show v = Value.ref a from rx)
  obtain ⟨ox, od, J⟩ := inst I ea
  obtain ⟨P, Z, p, _⟩ := kit_of I ry ty
  show wpAny _ _ (richCompare .NotEq (.ref a) u) _ _ _
  refine ne_K (tb := t) (by have := hr.units; omega) I.kIn J (Z.ty _ _ I.kIn p) hn h0 ho d.at_ d.fn (wpAny_mono (run_here (us := [.ref a, u]) (ws := [.ref a, y]) F hr.in1 I.env0.in1 (hx σ) I (.cons rfl (.cons ry .nil)) q) (fun w s' z => ?_) fun _ _ x => x)
  obtain ⟨z', H', I', rz, k, ek, qz⟩ := z
  subst ek
  cases (show w = Value.bool k from rz)
  exact ⟨k, rfl, .bl (!k), H', I', rfl, by cases k <;> exact qz⟩
/-- x[i] -/
def tSubO (C : Addr) (sp : Sp) (E : L2.St → XK) (ta ti : TE) : TE := fun σ H Q => ta σ H fun x H1 => ti σ H1 fun y H2 => ∃ a dx fs, x = .ref a ∧ H2 a = some (.ins C dx fs) ∧ sp [x, y] H2 Q (E σ)
theorem pe_subO {E : L2.St → XK} {o i : Expr} {ta ti : TE} {pos : Pos} (d : Dun X.K C "__getitem__" g) (fi : PySem.W.fnIn X.K g = true) (F : FnR X.prog X.w X.K X.mg X.base CX n g sp) (hr : Room (n + 1) X.A) (hx : ∀ σ, PassesAt CX X σ (E σ))
    (he : PE X o ta) (hi : PE X i ti) (hsl : ∀ p v, subscripted i true p v = runValue (.builtin "lifetime.subscript" ⟨[p, v], []⟩)) : PE X (.Subscript o i pos) (tSubO C sp E ta ti) := by
  refine ⟨fun pins s σ H Q I h => ?_⟩
  refine Subscript_ (thn (he.run pins s σ H _ I h) fun v s1 ⟨x, H1, I1, rx, q1⟩ => thn (hi.run pins s1 σ H1 _ I1 q1) fun u s2 ⟨y, H2, I2, ry, q2⟩ => ?_)
  obtain ⟨a, dx, fs, rfl, ea, q⟩ := q2
  cases (show v = Value.ref a from rx)
  obtain ⟨ox, od, J⟩ := inst I2 ea
  obtain ⟨m, hF⟩ := I2.fr
  exact PySem.W.sub_K hF I2.ok.mod.kin J d.at_ fi d.fn (run_here (us := [.ref a, u]) (ws := [.ref a, y]) F hr.in1 I2.env0.in1 (hx σ) I2 (.cons rfl (.cons ry .nil)) q) (hsl _ _)
end
end Dn

namespace Dn
open PySem PySem.Spec PyProof.Rows L2
section
variable {X : Cx} {CX : CXT} {C f : Addr} {n i : Nat} {sp : Sp} {E : XK}
/-- x(*e), x a local that holds the class at C -/
def tMakeS (K : PySem.W.Frag) (i : Nat) (C : Addr) (sp : Sp) (E : XK) (te : TE) : TE := fun σ H Q => σ[i]? = some (some (.ref C)) ∧ te σ H fun y H1 => ∃ a xs, y = V.ref a ∧ (SqT K H1 a xs ∨ SqL K H1 a xs) ∧
  ∀ x dx, H1 x = Option.none → H1 dx = Option.none → dx ≠ x → sp (V.ref x :: xs) (upd (upd H1 dx (.own x)) x (.ins C dx [])) (fun v H2 => v = .non ∧ Q (.ref x) H2) E
theorem pe_makeS {x : Str} {e : Expr} {te : TE} {p p2 pos : Pos} (M : Mk X.K C f) (F : FnR X.prog X.w X.K X.mg X.base CX n f sp) (hr : Room (n + 1) X.A) (hx : Passes CX X E) (hN : X.N[i]? = some x) (hv : Vis X.env.scope x) (he : PE X e te)
    (hd : (x == ("__debug__" : Str)) = false := by decide) (hcd : (x == ("__classdict__" : Str)) = false := by decide) (hst : starEach [.Starred e p2] X.env = [(true, eval e X.env)] := by rfl) :
    PE X (.Call (.Name x p) [.Starred e p2] [] pos) (tMakeS X.K i C sp E te) := by
  refine ⟨fun pins s σ H Q I h => ?_⟩
  obtain ⟨hs, h⟩ := h
  refine wpAny_Call_Name_kw (thn ((pe_var (pos := p) (i := i) hN hv hd hcd).run pins s σ H (fun v H1 => v = .ref C ∧ H1 = H) I ⟨.ref C, hs, rfl, rfl⟩) fun u s1 ⟨v, H1, I1, r1, ev, eH⟩ => ?_)
  subst ev
  rw [eH] at I1
  cases r1
  refine PySem.W.callWith_S (h₀ := X.base) I.ok.mod.kin M.kp (thn (he.run pins s1 σ H _ I1 h) fun v s2 ⟨y, H2, I2, ry, a, xs, ey, hxs, q⟩ => ?_) hst
  subst ey
  obtain rfl : v = Value.ref a := ry
  exact StX.star_any I2 hxs fun us s3 I3 rv => ⟨I3.kIn, StX.run_makeR M F hr hx I3 rv q⟩
/-- C(), C a class of the module -/
theorem pe_makeR0 {x : Str} {p pos : Pos} (M : Mk X.K C f) (F : FnR X.prog X.w X.K X.mg X.base CX n f sp) (hr : Room (n + 1) X.A) (hg : Gl X x) (hm : X.mg x = some (.ref C)) (hx : Passes CX X E) (hdb : (x == ("__debug__" : Str)) = false := by decide) :
    PE X (.Call (.Name x p) [] [] pos) (StX.tMakeR C sp E tNil) := by
  refine ⟨fun pins s σ H Q I h => ?_⟩
  refine wpAny_Call_Name_kw (ld_glob I hg hm ?_ hdb)
  exact PySem.W.callWith_K0 I.kIn M.kp (StX.run_makeR (us := []) (vs := []) M F hr hx I .nil h)
/-- x in t, t a tuple of data -/
def rInDT (K : PySem.W.Frag) (neg : Bool) : R2 := fun x y H Q => ∃ d ds, Dp K H x d ∧ Dp K H y (.tuple ds) ∧ SeqAt.shaped d = true ∧ PyData.canLayAll0 ds = true ∧ Q (.bl ((ds.any fun e => PyData.eqv e d) != neg)) H
theorem op_inDT (hu : X.A.units + 65 < cLine) : OpR X (compareOp .In) (rInDT X.K false) := by
  intro pins s σ H x y v u Q I rx ry h
  obtain ⟨d, ds, hd, he, sd, se, q⟩ := h
  obtain ⟨as, r1⟩ := Dp.reads I d x v hd rx
  obtain ⟨bs, r2⟩ := Dp.reads I (.tuple ds) y u he ry
  refine SeqAt.in_tuple_reads r2 r1 se (SeqAt.canLay_of_shaped sd) (room_in_shaped sd hu) ⟨.bl _, H, I, rfl, ?_⟩
  cases e : ds.any fun z => PyData.eqv z d <;> rw [e] at q <;> exact q
theorem op_notInDT (hu : X.A.units + 65 < cLine) : OpR X (compareOp .NotIn) (rInDT X.K true) := by
  intro pins s σ H x y v u Q I rx ry h
  obtain ⟨d, ds, hd, he, sd, se, q⟩ := h
  obtain ⟨as, r1⟩ := Dp.reads I d x v hd rx
  obtain ⟨bs, r2⟩ := Dp.reads I (.tuple ds) y u he ry
  refine SeqAt.notIn_tuple_reads r2 r1 se (SeqAt.canLay_of_shaped sd) (room_in_shaped sd hu) ⟨.bl _, H, I, rfl, ?_⟩
  cases e : ds.any fun z => PyData.eqv z d <;> rw [e] at q <;> exact q
end
/-! ### data over a heap that grows -/
section
variable {K : PySem.W.Frag} {H H' : Hp}
theorem sqL_up {a : Addr} {xs : List V} (h : SqL K H a xs) (s : Same H H') : SqL K H' a xs := s.seq h
theorem sqT_up {a : Addr} {xs : List V} (h : SqT K H a xs) (s : Same H H') : SqT K H' a xs :=
  h.elim (fun h => .inl (h.elim (fun h => .inl (s _ _ h)) fun ⟨o, h⟩ => .inr ⟨o, s _ _ h⟩)) .inr
mutual
theorem dp_up (s : Same H H') : ∀ {v : V} {d : PyData}, Dp K H v d → Dp K H' v d
  | _, _, .non => .non
  | _, _, .bl b => .bl b
  | _, _, .int i => .int i
  | _, _, .str x => .str x
  | _, _, .lst h a => .lst (sqL_up h s) (dpAll_up s a)
  | _, _, .tup h a => .tup (sqT_up h s) (dpAll_up s a)
theorem dpAll_up (s : Same H H') : ∀ {vs : List V} {ds : List PyData}, DpAll K H vs ds → DpAll K H' vs ds
  | _, _, .nil => .nil
  | _, _, .cons h a => .cons (dp_up s h) (dpAll_up s a)
end
theorem dpAll_len : ∀ {vs : List V} {ds : List PyData}, DpAll K H vs ds → vs.length = ds.length
  | _, _, .nil => rfl
  | _, _, .cons _ a => by rw [List.length_cons, List.length_cons, dpAll_len a]
theorem dpAll_get : ∀ {vs : List V} {ds : List PyData}, DpAll K H vs ds → ∀ {i : Nat} {v : V}, vs[i]? = some v → ∃ d, ds[i]? = some d ∧ Dp K H v d
  | _, _, .cons h _, 0, v, e => by cases e; exact ⟨_, rfl, h⟩
  | _, _, .cons _ a, i + 1, v, e => dpAll_get a (i := i) e
  | _, _, .nil, i, v, e => by simp at e
theorem dpAll_drop : ∀ {vs : List V} {ds : List PyData} (n : Nat), DpAll K H vs ds → DpAll K H (vs.drop n) (ds.drop n)
  | _, _, 0, a => a
  | _, _, n + 1, .nil => .nil
  | _, _, n + 1, .cons _ a => dpAll_drop n a
theorem dpAll_take : ∀ {vs : List V} {ds : List PyData} (n : Nat), DpAll K H vs ds → DpAll K H (vs.take n) (ds.take n)
  | _, _, 0, a => .nil
  | _, _, n + 1, .nil => .nil
  | _, _, n + 1, .cons h a => .cons h (dpAll_take n a)
theorem lay_at : ∀ {ds : List PyData}, PyData.canLayAll0 ds = true → ∀ {i : Nat} {d : PyData}, ds[i]? = some d → d.canLay0 = true
  | d :: ds, h, i, e, q => by
    have h' : (d.canLay0 && PyData.canLayAll0 ds) = true := by simpa only [PyData.canLayAll0] using h
    obtain ⟨h1, h2⟩ := Bool.and_eq_true_iff.mp h'
    cases i with
    | zero => cases q; exact h1
    | succ i => exact lay_at h2 (i := i) q
  | [], _, i, e, q => by simp at q
theorem depth_at : ∀ {ds : List PyData} {i : Nat} {d : PyData}, ds[i]? = some d → d.depth ≤ PyData.depthAll ds
  | d :: ds, i, e, q => by
    simp only [PyData.depthAll]
    cases i with
    | zero => cases q; omega
    | succ i => have := depth_at (ds := ds) (i := i) q; omega
  | [], i, e, q => by simp at q
/-- the items of shaped data are shaped -/
theorem shaped_at {ds : List PyData} (h : SeqAt.shaped (.tuple ds) = true) {i : Nat} {d : PyData} (e : ds[i]? = some d) : SeqAt.shaped d = true := by
  have h1 := SeqAt.canLay_of_shaped h
  have h2 := SeqAt.depth_of_shaped h
  simp only [PyData.canLay0] at h1
  simp only [PyData.depth] at h2
  have h3 := depth_at e
  show (d.canLay0 && decide (d.depth ≤ 64)) = true
  rw [Bool.and_eq_true]
  exact ⟨lay_at h1 e, decide_eq_true (by omega)⟩
end
end Dn

/-! Sets of tuples whose items are of one kind (texts, say), and sorted lists of them. -/
namespace Tq
open PySem PySem.Spec PyProof.Rows L2
/-- what a table asks of an item of a member -/
structure Mild {P : Program} {w : World} {κ : Type} [DecidableEq κ] (kd : KeyKind P w κ) : Prop where
  cls : ∀ n k v, kd.is k v = true → ofAClassStatement n v = pure false
  val : ∀ n k v, kd.is k v = true → ∃ b, hashByValue n v = pure b
theorem mild_str (P : Program) (w : World) : Mild (strKind P w) where
  cls n k v h := by obtain ⟨t, rfl⟩ := Value.isStrOf_shape h; cases n <;> rfl
  val n k v h := by obtain ⟨t, rfl⟩ := Value.isStrOf_shape h; exact ⟨false, by cases n <;> rfl⟩
abbrev Row (κ : Type) := Addr × List κ
section
variable {P : Program} {w : World} {κ : Type} [DecidableEq κ] {kd : KeyKind P w κ} {A : Around} {E : Value → Shared → Prop} {s : Shared}
/-- the items of a tuple, one by one -/
theorem each_is {ks : List κ} {vs : List Value} (x : ItemsAre kd ks vs) : ∀ v ∈ vs, ∃ k, kd.is k v = true := by
  induction x with
  | nil => exact fun v z => nomatch z
  | cons y _ ih => exact fun v z => (List.mem_cons.mp z).elim (fun e => ⟨_, e ▸ y⟩) (ih v)
theorem same_at {h h' : Heap} {ks : List κ} {b : Addr} (x : IsTupleKey kd h ks b) (k : ∀ o, h.get? b = some o → h'.get? b = some o) : IsTupleKey kd h' ks b := by
  obtain ⟨o, xs, n, ho, r⟩ := x; exact ⟨o, xs, n, k o ho, r⟩
/-- a member is not the set -/
theorem apart {h : Heap} {ks : List κ} {a b : Addr} {o : Obj} {es ep t} (x : IsTupleKey kd h ks b) (ho : h.get? a = some o) (hd : o.data = .set es ep t) : b ≠ a := by
  rintro rfl
  obtain ⟨o', xs, n, ho', _, hd', _⟩ := x
  cases ho.symm.trans ho'
  exact nomatch hd.symm.trans hd'
theorem no_cls (M : Mild kd) {ks : List κ} {b : Addr} {Q : Bool → Shared → Prop} (x : IsTupleKey kd s.heap ks b) (q : Q false s) : wpAny (model P w) A (ofAClassStatement 8 (.ref b)) Q E s := by
  have ty := x.typeIs
  obtain ⟨o, xs, n, ho, _, hd, hi⟩ := x
  unfold ofAClassStatement
  refine wpAny_bind (wpAny_typeOf ty ?_)
  simp only [beq_self_eq_true, if_true, Bool.not_true, Bool.false_eq_true, if_false, pure_bind]
  refine wpAny_bind (wpAny_seqItems ho hd (wpAny_bind ?_))
  show wpAny _ _ (forIn xs _ _) _ _ s
  rw [← Array.forIn_toList]
  refine wpAny_forIn_list _ (fun l r s' => r.1 = none ∧ s' = s ∧ ∀ v ∈ l, ∃ k, kd.is k v = true) _ (fun v l r s' z => ?_) (fun r s' z => ?_) _ _ ⟨rfl, rfl, each_is hi⟩
  · obtain ⟨_, rfl, al⟩ := z
    obtain ⟨k, hk⟩ := al v List.mem_cons_self
    rw [M.cls _ k v hk]
    exact wpAny_bind (wpAny_pure (wpAny_pure ⟨rfl, rfl, fun u hu => al u (.tail _ hu)⟩))
  · obtain ⟨r1, r2⟩ := r
    obtain ⟨e, rfl, _⟩ := z
    cases (show r1 = none from e)
    exact wpAny_pure q
theorem some_val (M : Mild kd) {ks : List κ} {b : Addr} {Q : Bool → Shared → Prop} (x : IsTupleKey kd s.heap ks b) (q : ∀ c, Q c s) : wpAny (model P w) A (hashByValue 8 (.ref b)) Q E s := by
  have ty := x.typeIs
  obtain ⟨o, xs, n, ho, _, hd, hi⟩ := x
  unfold hashByValue
  refine wpAny_bind (wpAny_specialOf ty F.slot_tuple_hash.lookup ?_)
  show wpAny _ _ (seqItems? (.ref b) >>= _) _ _ s
  refine wpAny_bind (wpAny_seqItems ho hd (wpAny_bind ?_))
  show wpAny _ _ (forIn xs _ _) _ _ s
  rw [← Array.forIn_toList]
  refine wpAny_forIn_list _ (fun l r s' => r.1 = none ∧ s' = s ∧ ∀ v ∈ l, ∃ k, kd.is k v = true) _ (fun v l r s' z => ?_) (fun r s' z => ?_) _ _ ⟨rfl, rfl, each_is hi⟩
  · obtain ⟨_, rfl, al⟩ := z
    obtain ⟨k, hk⟩ := al v List.mem_cons_self
    obtain ⟨c, e⟩ := M.val 7 k v hk
    rw [e]
    refine wpAny_bind (wpAny_pure ?_)
    cases c
    · exact wpAny_pure (wpAny_pure (q _))
    · exact wpAny_pure ⟨rfl, rfl, fun u hu => al u (.tail _ hu)⟩
  · obtain ⟨r1, r2⟩ := r
    obtain ⟨e, rfl, _⟩ := z
    cases (show r1 = none from e)
    exact wpAny_pure (q _)
end
end Tq

/-! The table of a set of such tuples: looking for one, and putting one in. -/
namespace Tq
open PySem PySem.Spec PyProof.Rows L2
section
variable {P : Program} {w : World} {κ : Type} [DecidableEq κ] {kd : KeyKind P w κ} {A : Around} {E : Value → Shared → Prop} {s : Shared}
abbrev hk (kd : KeyKind P w κ) (r : Row κ) : Int := tupleKeyHash kd r.2
abbrev ent (kd : KeyKind P w κ) (r : Row κ) : Int × Value := (hk kd r, .ref r.1)
/-- the set at a has these rows, in the order of its table -/
structure Lies (kd : KeyKind P w κ) (h : Heap) (a : Addr) (L : List (Row κ)) (es : Array (Int × Value)) (ep : Nat) (t : SetTable) : Prop where
  obj : ∃ o, h.get? a = some o ∧ o.ExactSet ∧ o.data = .set es ep t
  ents : es.toList = L.map (ent kd)
  tab : TabOk t (L.map (hk kd))
  dif : (L.map Prod.snd).Nodup
  led : w.params.followText "set-order" = true ∨ t.led = true
  wide : L.length * 5 < t.mask * 3
  few : L.length < 64
abbrev Are (kd : KeyKind P w κ) (h : Heap) (L : List (Row κ)) : Prop := ∀ r ∈ L, IsTupleKey kd h r.2 r.1
variable {a : Addr} {L : List (Row κ)} {es : Array (Int × Value)} {ep : Nat} {t : SetTable}
theorem len_of (e : es.toList = L.map (ent kd)) : es.size = L.length := by
  rw [← Array.length_toList, e, List.length_map]
theorem get_of (e : es.toList = L.map (ent kd)) {i : Nat} {r : Row κ} (h : L[i]? = some r) : es[i]? = some (ent kd r) := by
  rw [← Array.getElem?_toList, e, List.getElem?_map, h]; rfl
theorem fits_of (hs : t.place.size = es.size) (hd : t.dummies = #[]) (hm : es.size ≤ t.mask) : t.fits es.size = true := by
  unfold SetTable.fits SetTable.fill
  rw [hd, Bool.and_eq_true, beq_iff_eq, decide_eq_true_eq]
  exact ⟨hs, by show t.place.size + 0 ≤ t.mask; omega⟩
theorem Lies.sz (T : Lies kd s.heap a L es ep t) : t.place.size = L.length := by rw [T.tab.sz, List.length_map]
theorem Lies.ok (T : Lies kd s.heap a L es ep t) : t.fits es.size = true :=
  fits_of (by rw [T.sz, len_of T.ents]) T.tab.dm (by rw [len_of T.ents]; have := T.wide; omega)
/-- a search tells nobody anything -/
theorem unseen (M : Mild kd) {k : List κ} {b : Addr} {ys : List Value} {Q : Bool → Shared → Prop} (x : IsTupleKey kd s.heap k b) (hy : ∀ y ∈ ys, ∃ r : Row κ, y = .ref r.1 ∧ IsTupleKey kd s.heap r.2 r.1) (q : Q false s) :
    wpAny (model P w) A (searchCouldBeSeen (.ref b) ys) Q E s := by
  unfold searchCouldBeSeen
  refine wpAny_bind (wpAny_forIn_list _ (fun l r s' => r.1 = none ∧ s' = s ∧ ∀ y ∈ l, ∃ r : Row κ, y = .ref r.1 ∧ IsTupleKey kd s.heap r.2 r.1) _ (fun v l r s' z => ?_) (fun r s' z => ?_) _ _ ⟨rfl, rfl, hy⟩)
  · obtain ⟨_, rfl, al⟩ := z
    obtain ⟨r', rfl, y⟩ := al v List.mem_cons_self
    have on : ∀ u ∈ l, _ := fun u hu => al u (.tail _ hu)
    dsimp only
    split
    · exact wpAny_pure ⟨rfl, rfl, on⟩
    · refine wpAny_bind (wpAny_eqIsQuiet_tuple x ?_)
      simp only [Bool.not_true, Bool.false_eq_true, if_false]
      refine wpAny_bind (wpAny_eqIsQuiet_tuple y ?_)
      simp only [Bool.not_true, Bool.false_eq_true, if_false]
      refine wpAny_bind (no_cls M x ?_)
      simp only [Bool.false_eq_true, if_false]
      refine wpAny_bind (no_cls M y ?_)
      simp only [Bool.false_eq_true, if_false]
      exact wpAny_pure ⟨rfl, rfl, on⟩
  · obtain ⟨r1, r2⟩ := r
    obtain ⟨e, rfl, _⟩ := z
    cases (show r1 = none from e)
    exact wpAny_pure q
/-- the way of a hash from one of its steps on -/
abbrev from_ (m : Nat) (h : Int) (c : Nat) : SetTable.Probe := nth m (runAt m (SetTable.bits h % (m + 1)) (SetTable.bits h)) c
theorem from_j (m : Nat) (h : Int) (c q : Nat) : (nth m (from_ m h c) q).j = way m h (c + q) := congrArg SetTable.Probe.j (nth_add m c _ q).symm
theorem from_dummy (m : Nat) (h : Int) (c : Nat) : (from_ m h c).dummy = none := by
  have : ∀ (n : Nat) (p : SetTable.Probe), p.dummy = none → (nth m p n).dummy = none := by
    intro n
    induction n with
    | zero => exact fun p h => h
    | succ n ih => exact fun p h => ih _ (by unfold adv; split <;> exact h)
  exact this c _ rfl
section
variable {x : Addr} {k : List κ}
/-- what is left of a search from step c on ends as it should -/
theorem seek_from (M : Mild kd) (T : Lies kd s.heap a L es ep t) (mem : Are kd s.heap L) (hx : IsTupleKey kd s.heap k x) (hu : A.units < cLine) {N : Nat} (hN : N < 10 * SetTable.turns t.mask)
    (free : way t.mask (tupleKeyHash kd k) N ∉ t.place.toList) (full : ∀ c, c < N → way t.mask (tupleKeyHash kd k) c ∈ t.place.toList) {Q : SetFound → Shared → Prop}
    (yes : k ∈ L.map Prod.snd → Q (.there none) s) (no : k ∉ L.map Prod.snd → Q (.free (way t.mask (tupleKeyHash kd k) N) false) s) (f : Nat) :
    ∀ (c : Nat) (st : Option SetTable.Probe), st.getD (t.probeStart (tupleKeyHash kd k)) = from_ t.mask (tupleKeyHash kd k) c → c ≤ N → N - c < f →
      (∀ (i : Nat) r, L[i]? = some r → r.2 = k → ∃ c', c ≤ c' ∧ c' < N ∧ t.place.toList[i]? = some (way t.mask (tupleKeyHash kd k) c')) →
      wpAny (model P w) A (setSearchFrom a (.ref x) (tupleKeyHash kd k) true f st) Q E s := by
  obtain ⟨o, ho, hex, hd⟩ := T.obj
  generalize hH : tupleKeyHash kd k = H at *
  have hashAt : ∀ {i : Nat} {r : Row κ}, L[i]? = some r → (fun i => (es[i]?.map (·.1)).getD 0) i = hk kd r := fun {i r} e => by
    show (es[i]?.map (·.1)).getD 0 = _
    rw [get_of T.ents e]; rfl
  have same : ∀ r : Row κ, r.2 = k → hk kd r = H := fun r e => by rw [← hH, ← e]
  induction f with
  | zero => exact fun c st _ _ z _ => absurd z (Nat.not_lt_zero _)
  | succ f ih =>
    intro c st hst hc hf later
    rw [setSearchFrom_succ]
    refine wpAny_bind (wpAny_setState_of ho hd T.ok ?_)
    dsimp only
    refine wp_if_neg (by unfold SetTable.gaveWay; rw [mask_odd T.tab.mok]; decide) ?_
    try refine wpAny_bind (wpAny_pure ?_)
    have met := go_spec t T.tab.ris T.tab.dm (fun i => (es[i]?.map (·.1)).getD 0) H (10 * SetTable.turns t.mask) (N - c) (from_ t.mask H c) (from_dummy _ _ _) (by omega)
      (fun q hq => by rw [from_j]; exact full _ (by omega)) (by rw [from_j, show c + (N - c) = N by omega]; exact free)
    rw [← hst] at met
    rcases met with ⟨q, i, hq, hi, hh, pass, hp⟩ | ⟨pass, hp⟩
    · rw [show t.probe (fun i => (es[i]?.map (·.1)).getD 0) H (st.getD (t.probeStart H)) = _ from hp]
      rw [hst] at hi pass ⊢
      rw [from_j] at hi ⊢
      dsimp only
      have hil : i < L.length := by
        have := (List.getElem?_eq_some_iff.mp hi).1
        rw [Array.length_toList, T.sz] at this; exact this
      obtain ⟨r, hr⟩ : ∃ r, L[i]? = some r := ⟨_, List.getElem?_eq_getElem hil⟩
      have hm := List.mem_of_getElem? hr
      have sl : t.slot (way t.mask H (c + q)) = .live i := slot_live T.tab.ris hi
      have tail : wpAny (model P w) A (searchRest a (.ref x) H true f es t (way t.mask H (c + q)) i (nth t.mask (from_ t.mask H c) (q + 1))) Q E s := by
        unfold searchRest
        rw [get_of T.ents hr]
        refine wpAny_bind (wpAny_holding (wpAny_eqBool_tuple hu (mem r hm) hx ?_))
        refine wpAny_bind (wpAny_setState_of ho hd T.ok ?_)
        dsimp only
        by_cases e : r.2 = k
        · exact wp_if_pos (by simp [e]) (wpAny_pure (yes (List.mem_map.mpr ⟨r, hm, e⟩)))
        · refine wp_if_neg (by simp [e]) ?_
          try refine wpAny_bind (wpAny_pure ?_)
          rw [sameMem]
          simp only [if_true, sl, get_of T.ents hr]
          refine wpAny_bind (wpAny_isSame_ref_self (wpAny_bind (wpAny_pure ?_)))
          simp only [if_true]
          refine wp_if_neg (by simp [e]) ?_
          refine ih (c + (q + 1)) _ (nth_add t.mask c _ (q + 1)).symm (by omega) (by omega) fun i0 r0 h0 e0 => ?_
          obtain ⟨c', l1, l2, l3⟩ := later i0 r0 h0 e0
          refine ⟨c', ?_, l2, l3⟩
          rcases Nat.lt_trichotomy c' (c + q) with z | z | z
          · refine absurd ((hashAt h0).trans (same r0 e0)) (pass (c' - c) i0 (by omega) ?_)
            rw [from_j, show c + (c' - c) = c' by omega]; exact l3
          · have := slot_live T.tab.ris (z ▸ l3)
            rw [sl] at this
            injection this with this
            rw [← this, hr] at h0
            exact absurd ((congrArg Prod.snd (Option.some.inj h0)).trans e0) e
          · omega
      by_cases hl : t.led = true
      · refine wp_if_neg (by simp [hl]) ?_
        try refine wpAny_bind (wpAny_pure ?_)
        exact tail
      · refine wp_if_pos (by simp [hl]) (wpAny_bind (unseen M hx (fun y hy => ?_) (wp_if_neg (by decide) ?_)))
        · obtain ⟨e, he, rfl⟩ := List.mem_map.mp hy
          have he : e ∈ es.toList := by
            have : e ∈ es ∧ e.1 = H := by simpa using he
            simpa using this.1
          rw [T.ents] at he
          obtain ⟨r', hr', rfl⟩ := List.mem_map.mp he
          exact ⟨r', rfl, mem r' hr'⟩
        · try refine wpAny_bind (wpAny_pure ?_)
          exact tail
    · rw [show t.probe (fun i => (es[i]?.map (·.1)).getD 0) H (st.getD (t.probeStart H)) = _ from hp]
      rw [hst] at pass ⊢
      rw [from_j, show c + (N - c) = N by omega]
      refine wpAny_pure (no fun z => ?_)
      obtain ⟨r, hr, e⟩ := List.mem_map.mp z
      obtain ⟨i, hi, ei⟩ := List.getElem_of_mem hr
      have h0 : L[i]? = some r := by rw [List.getElem?_eq_getElem hi, ei]
      obtain ⟨c', l1, l2, l3⟩ := later i r h0 e
      refine pass (c' - c) i (by omega) ?_ ((hashAt h0).trans (same r e))
      rw [from_j, show c + (c' - c) = c' by omega]; exact l3
/-- a search as putting in asks for it -/
theorem seek (M : Mild kd) (T : Lies kd s.heap a L es ep t) (mem : Are kd s.heap L) (hx : IsTupleKey kd s.heap k x) (hu : A.units < cLine) {Q : SetFound → Shared → Prop} (yes : k ∈ L.map Prod.snd → Q (.there none) s)
    (no : ∀ N, k ∉ L.map Prod.snd → way t.mask (tupleKeyHash kd k) N ∉ t.place.toList → (∀ c, c < N → way t.mask (tupleKeyHash kd k) c ∈ t.place.toList) → Q (.free (way t.mask (tupleKeyHash kd k) N) false) s) :
    wpAny (model P w) A (setSearch a (.ref x) (tupleKeyHash kd k) true) Q E s := by
  have room := T.wide
  obtain ⟨N, b, free, full⟩ := T.tab.first (by rw [List.length_map]; omega) (tupleKeyHash kd k)
  have most : 10 * SetTable.turns t.mask ≤ 1420 := by
    unfold SetTable.turns
    rcases T.tab.mok with e | e | e <;> omega
  unfold setSearch
  refine seek_from M T mem hx hu b free full yes (fun z => no N z free full) 100000 0 none rfl (Nat.zero_le _) (by omega) fun i r hr e => ?_
  have hi : i < t.place.toList.length := by
    rw [Array.length_toList, T.sz]; exact (List.getElem?_eq_some_iff.mp hr).1
  obtain ⟨c, hc, ec⟩ := T.tab.before free (i := i) (h := tupleKeyHash kd k) (by rw [List.getElem?_map, hr, ← e]; rfl) (List.getElem?_eq_getElem hi)
  exact ⟨c, Nat.zero_le _, hc, by rw [List.getElem?_eq_getElem hi, ec]⟩
end
end
end Tq

/-! Putting a tuple in; a set of the items of a list. -/
namespace Tq
open PySem PySem.Spec PyProof.Rows L2
section
variable {P : Program} {w : World} {κ : Type} [DecidableEq κ] {kd : KeyKind P w κ} {A : Around} {E : Value → Shared → Prop} {s : Shared}
variable {a : Addr} {L : List (Row κ)} {es : Array (Int × Value)} {ep : Nat} {t : SetTable}
theorem map_range {α : Type} (l : List α) (d : α) : (List.range l.length).map (fun i => l.getD i d) = l := by
  apply List.ext_getElem
  · simp
  · intro i h1 h2; simp [List.getD_eq_getElem?_getD, h2]
/-- the entries in another order are those of the rows in that order -/
theorem in_order {order : Array Nat} (e : es.toList = L.map (ent kd)) (pm : order.toList.Perm (List.range L.length)) :
    ∃ L2 : List (Row κ), (order.filterMap (es[·]?)).toList = L2.map (ent kd) ∧ L2.Perm L ∧ L2.map (hk kd) = order.toList.map fun i => (es.map (·.1)).getD i 0 := by
  have d : Row κ := (0, [])
  have bd : ∀ i ∈ order.toList, i < L.length := fun i hi => List.mem_range.mp (pm.mem_iff.mp hi)
  refine ⟨order.toList.map fun i => L.getD i d, ?_, ?_, ?_⟩
  · rw [Array.toList_filterMap, List.map_map]
    generalize order.toList = l at bd
    clear pm
    induction l with
    | nil => rfl
    | cons i l ih =>
      have hi := bd i List.mem_cons_self
      have g := get_of e (List.getElem?_eq_getElem hi)
      rw [List.filterMap_cons_some g, ih fun j hj => bd j (.tail _ hj), List.map_cons]
      simp [hi]
  · have := pm.map fun i => L.getD i d
    rwa [map_range] at this
  · rw [List.map_map]
    refine List.map_congr_left fun i hi => ?_
    have g := get_of e (List.getElem?_eq_getElem (bd i hi))
    have hi' := bd i hi
    have g2 : (es.map (·.1))[i]? = some (hk kd L[i]) := by rw [Array.getElem?_map, g]; rfl
    simp [bd i hi, Array.getD_eq_getD_getElem?, g2]
/-- the table is laid anew -/
theorem anew {o : Obj} (ho : s.heap.get? a = some o) (hex : o.ExactSet) (hd : o.data = .set es ep t) (e : es.toList = L.map (ent kd)) (T : TabOk t (L.map (hk kd))) (hm : L.length ≤ t.mask) (dif : (L.map Prod.snd).Nodup)
    (led : w.params.followText "set-order" = true ∨ t.led = true) (few : L.length < 64) {n m : Nat} (hn : SetTable.sizeAbove n - 1 = m) (ok : MaskOk m) (le : SetTable.sizeAbove n ≤ 128) (wide : L.length * 5 < m * 3) {Q : Unit → Shared → Prop}
    (q : ∀ h' L' es' ep' t', Heap.SameBut a s.heap h' → Lies kd h' a L' es' ep' t' → L'.Perm L → Q () { s with heap := h' }) : wpAny (model P w) A (setRelay a n) Q E s := by
  have hz := len_of e
  obtain ⟨t', order, er, pm, T', em, el, _, _⟩ := relaid_ok t (hs := es.map (·.1)) hn ok (by rw [Array.size_map, hz]; omega)
  rw [Array.size_map, hz] at pm
  obtain ⟨L2, e1, e2, e3⟩ := in_order e pm
  have hz2 : (order.filterMap (es[·]?)).size = es.size := by rw [len_of e1, hz, e2.length_eq]
  have f : t.fits es.size = true := fits_of (by rw [T.sz, List.length_map, hz]) T.dm (by omega)
  rw [setRelay_eq]
  refine wpAny_bind (wpAny_setState_of ho hd f (wp_if_neg (by rw [sizeLine_eq]; omega) ?_))
  try refine wpAny_bind (wpAny_pure ?_)
  rw [er]
  refine wpAny_bind (wp_if_neg (by rw [hz2]; simp) ?_)
  try refine wpAny_bind (wpAny_pure ?_)
  refine wpAny_pure (wpAny_storeSet_of ho hd ?_ (by rw [hz2, hz, sizeLine_eq]; omega))
  refine q _ L2 _ (ep + 1) t' (Heap.SameBut.update ..) ⟨⟨_, store_at ho hd, hex, rfl⟩, e1, e3 ▸ T', (e2.map _).nodup_iff.mpr dif, el ▸ led, ?_, e2.length_eq ▸ few⟩ e2
  rw [e2.length_eq, em]; exact wide
theorem tab_like {t t' : SetTable} {hs : List Int} (T : TabOk t hs) (e1 : t'.place = t.place) (e2 : t'.dummies = t.dummies) (e3 : t'.mask = t.mask) : TabOk t' hs := by
  refine ⟨e1 ▸ T.ris, e2 ▸ T.dm, e1 ▸ T.sz, e3 ▸ T.mok, ?_, ?_⟩
  · rw [e1, e3]; exact T.bd
  · rw [e1, e3]; exact T.reach
/-- a tuple is put in -/
theorem put_in (M : Mild kd) (T : Lies kd s.heap a L es ep t) (mem : Are kd s.heap L) {x : Addr} {k : List κ} (hx : IsTupleKey kd s.heap k x) (hu : A.units < cLine) (few : L.length + 1 < 64) {Q : Bool → Shared → Prop}
    (q : ∀ b h' L' es' ep' t', Heap.SameBut a s.heap h' → Lies kd h' a L' es' ep' t' → (k ∈ L.map Prod.snd ∧ L' = L) ∨ (k ∉ L.map Prod.snd ∧ L'.Perm ((x, k) :: L)) → Q b { s with heap := h' }) :
    wpAny (model P w) A (setAddHashed a (.ref x) (tupleKeyHash kd k)) Q E s := by
  obtain ⟨o, ho, hex, hd⟩ := T.obj
  have hz := len_of T.ents
  have wide := T.wide
  unfold setAddHashed
  refine wpAny_holding ?_
  rw [show (100000 : Nat) = 99999 + 1 from rfl, setAddHashedIn_succ]
  refine wpAny_bind (wpAny_setState_of ho hd T.ok (wp_if_neg (by simp [byScan, Value.scannable]) ?_))
  try refine wpAny_bind (wpAny_pure ?_)
  refine wpAny_bind (seek M T mem hx hu (fun z => wpAny_pure (q false s.heap L es ep t (Heap.SameBut.refl a s.heap) T (.inl ⟨z, rfl⟩))) fun N z free full => ?_)
  refine wpAny_bind (wpAny_setState_of ho hd T.ok ?_)
  obtain ⟨q1, q2, q3, q4, q5, _, _, _, q9⟩ := T.tab.put free full
  dsimp only
  generalize hj : way t.mask (tupleKeyHash kd k) N = j at q1 q2 q3 q4 q5 q9 ⊢
  generalize ht : t.put j = tp at q1 q3 q4 q5 q9 ⊢
  obtain ⟨t1, p⟩ := tp
  dsimp only at q1 q3 q4 q5 q9 ⊢
  subst q1
  generalize hp : SetTable.below t.place j = p at q2 q3 ⊢
  -- the rows behind it
  have pm : (L.take p ++ (x, k) :: L.drop p).Perm ((x, k) :: L) := put_perm L p (x, k)
  have ents : (SetTable.insertAt es p (tupleKeyHash kd k, Value.ref x)).toList = (L.take p ++ (x, k) :: L.drop p).map (ent kd) := by
    rw [SetTable.toList_insertAt, T.ents, List.map_append, List.map_cons, List.map_take, List.map_drop]
  rw [show (L.map (hk kd)).take p ++ tupleKeyHash kd k :: (L.map (hk kd)).drop p = (L.take p ++ (x, k) :: L.drop p).map (hk kd) by rw [List.map_append, List.map_cons, List.map_take, List.map_drop]] at q3
  generalize L.take p ++ (x, k) :: L.drop p = L1 at pm ents q3
  have len : L1.length = L.length + 1 := pm.length_eq
  have dif : (L1.map Prod.snd).Nodup := (pm.map _).nodup_iff.mpr (List.nodup_cons.mpr ⟨z, T.dif⟩)
  generalize hE : SetTable.insertAt es p (tupleKeyHash kd k, Value.ref x) = es1 at ents ⊢
  have hz1 := len_of ents
  have rest : ∀ t2 : SetTable, t2.place = t1.place → t2.dummies = t1.dummies → t2.mask = t1.mask → t2.led = t1.led → t2.fill = t1.fill →
      wpAny (model P w) A (storeSet a es1 t2) (fun _ s' => wpAny (model P w) A (if (!false && t2.tooFull) = true then (setRelay a (SetTable.grown (es.size + 1)) >>= fun _ => pure true) else pure true) Q E s') E s := by
    intro t2 g1 g2 g3 g4 g5
    have T2 := tab_like q3 g1 g2 g3
    have led : w.params.followText "set-order" = true ∨ t2.led = true := by rw [g4, q5]; exact T.led
    refine wpAny_storeSet_of ho hd ?_ (by rw [hz1, len, sizeLine_eq]; omega)
    have sb : Heap.SameBut a s.heap (s.heap.update a (Obj.putSet es1 t2)) := Heap.SameBut.update ..
    have ho1 := store_at (es' := es1) (t' := t2) ho hd
    generalize s.heap.update a (Obj.putSet es1 t2) = h1 at sb ho1 ⊢
    have fill : t2.fill = L.length + 1 := by rw [g5, q9, List.length_map]
    by_cases full2 : t2.tooFull = true
    · refine wp_if_pos (by simp [full2]) (wpAny_bind ?_)
      unfold SetTable.tooFull at full2
      rw [decide_eq_true_eq, fill, g3, q4] at full2
      have go : ∀ m, SetTable.sizeAbove (SetTable.grown (L.length + 1)) - 1 = m → MaskOk m → SetTable.sizeAbove (SetTable.grown (L.length + 1)) ≤ 128 → (L.length + 1) * 5 < m * 3 → L.length + 1 ≤ t.mask →
          wpAny (model P w) A (setRelay a (SetTable.grown (es.size + 1))) (fun _ s' => wpAny (model P w) A (pure true) Q E s') E { s with heap := h1 } := fun m m1 m2 m3 m4 m5 => by
        rw [hz]
        refine anew (s := { s with heap := h1 }) ho1 ⟨hex.1, hex.2.1, hex.2.2⟩ rfl ents T2 (by rw [len, g3, q4]; exact m5) dif led (by rw [len]; exact few) m1 m2 m3 (by rw [len]; exact m4) fun h2 L2 es2 ep2 t3 sb2 T3 pm2 => ?_
        exact wpAny_pure (q true h2 L2 es2 ep2 t3 (sb.trans sb2) T3 (.inr ⟨z, pm2.trans pm⟩))
      rcases T.tab.mok with e | e | e
      · have l4 : L.length = 4 := by omega
        refine go 31 (by rw [l4, size_20]) (.inr (.inl rfl)) (by rw [l4, size_20]; decide) (by omega) (by omega)
      · have l4 : L.length = 18 := by omega
        refine go 127 (by rw [l4, size_76]) (.inr (.inr rfl)) (by rw [l4, size_76]; decide) (by omega) (by omega)
      · omega
    · refine wp_if_neg (by simp [full2]) (wpAny_pure (q true h1 L1 es1 (ep + 1) t2 sb ⟨⟨_, ho1, ⟨hex.1, hex.2.1, hex.2.2⟩, rfl⟩, ents, T2, dif, led, ?_, by rw [len]; exact few⟩ (.inr ⟨z, pm⟩)))
      unfold SetTable.tooFull at full2
      rw [decide_eq_true_eq, fill] at full2
      rw [len]; omega
  by_cases pl : t1.plain = true
  · refine wp_if_pos pl (wpAny_bind (some_val M hx fun c => wpAny_bind ?_))
    cases c
    · exact rest _ rfl rfl rfl rfl rfl
    · exact rest t1 rfl rfl rfl rfl rfl
  · refine wp_if_neg pl ?_
    first
      | exact wpAny_bind (wpAny_pure (wpAny_bind (rest t1 rfl rfl rfl rfl rfl)))
      | exact wpAny_bind (rest t1 rfl rfl rfl rfl rfl)
end
end Tq

/-! The set of the items of a list, all of them such tuples. -/
namespace Tq
open PySem PySem.Spec PyProof.Rows L2
section
variable {P : Program} {w : World} {κ : Type} [DecidableEq κ] {kd : KeyKind P w κ} {A : Around} {E : Value → Shared → Prop} {s : Shared}
/-- what the set holds behind so many items -/
structure Held (ks : List (Row κ)) (i : Nat) (L : List (Row κ)) : Prop where
  of : ∀ r ∈ L, r ∈ ks
  to : ∀ r ∈ ks.take i, r.2 ∈ L.map Prod.snd
  le : L.length ≤ i
theorem Held.next {ks L L' : List (Row κ)} {i : Nat} {r : Row κ} (h : Held ks i L) (e : ks[i]? = some r) (c : (r.2 ∈ L.map Prod.snd ∧ L' = L) ∨ (r.2 ∉ L.map Prod.snd ∧ L'.Perm ((r.1, r.2) :: L))) : Held ks (i + 1) L' := by
  have tk : ks.take (i + 1) = ks.take i ++ [r] := by rw [List.take_add_one, e]; rfl
  have step : (∀ q ∈ L', q ∈ ks) ∧ (∀ k, k = r.2 ∨ k ∈ L.map Prod.snd → k ∈ L'.map Prod.snd) ∧ L'.length ≤ i + 1 := by
    rcases c with ⟨c, rfl⟩ | ⟨_, pm⟩
    · exact ⟨h.of, fun k z => z.elim (fun z => z ▸ c) id, Nat.le_succ_of_le h.le⟩
    · refine ⟨fun q hq => ?_, fun k z => ?_, ?_⟩
      · rcases List.mem_cons.mp (pm.mem_iff.mp hq) with z | z
        · exact z ▸ List.mem_of_getElem? e
        · exact h.of q z
      · rw [(pm.map Prod.snd).mem_iff]
        exact List.mem_cons.mpr z
      · rw [pm.length_eq]; exact Nat.succ_le_succ h.le
  refine ⟨step.1, fun q hq => ?_, step.2.2⟩
  rw [tk] at hq
  rcases List.mem_append.mp hq with z | z
  · exact step.2.1 _ (.inr (h.to q z))
  · exact step.2.1 _ (.inl (by rw [List.mem_singleton.mp z]))
abbrev newSet (w : World) : Obj := { cls := .type "set", dict := none, data := .set #[] 0 (.fresh 0 0 (!w.params.followText "set-order")) }
theorem lies_new {h : Heap} {a : Addr} (ho : h.get? a = some (newSet w)) : Lies kd h a [] #[] 0 (.fresh 0 0 (!w.params.followText "set-order")) where
  obj := ⟨_, ho, ⟨rfl, rfl, rfl⟩, rfl⟩
  ents := rfl
  tab := ⟨.nil, rfl, rfl, .inl rfl, fun _ z => (by cases z), fun i h j z => (by simp at z)⟩
  dif := .nil
  led := by
    show _ ∨ (!w.params.followText "set-order") = true
    cases w.params.followText "set-order" <;> simp
  wide := by show 0 * 5 < 7 * 3; decide
  few := by show 0 < 64; decide
theorem Lies.on {h h' : Heap} {a : Addr} {L : List (Row κ)} {es ep t} (T : Lies kd h a L es ep t) (k : ∀ o, h.get? a = some o → h'.get? a = some o) : Lies kd h' a L es ep t :=
  let ⟨o, ho, r⟩ := T.obj; ⟨⟨o, k o ho, r⟩, T.ents, T.tab, T.dif, T.led, T.wide, T.few⟩
/-- the turns that put all items in -/
theorem all_in (M : Mild kd) {I : Addr} {fp wr : List Addr} {G : Array GenState → Array GenState → Prop} {n : Nat} {Pv : Nat → Value → Prop} {St : Nat → Shared → Prop} {R : Result → Shared → Prop} (W : WalksS P w A.in1 I fp wr G n Pv St)
    (S : Addr) (out : S ∉ fp) (ks : List (Row κ)) (hn : n = ks.length) (few : ks.length < 64) (val : ∀ i v, Pv i v → ∃ r, ks[i]? = some r ∧ v = .ref r.1) (h0 : Heap) (mem : Are kd h0 ks) (S0 : h0.get? S = none) (w0 : ∀ b ∈ wr, h0.get? b = none)
    (hu : A.in1.units < cLine) (g0 : Array GenState) (d0) (o0)
    (fin : ∀ s' L es ep t, Lies kd s'.heap S L es ep t → Held ks n L → (∀ b o, h0.get? b = some o → s'.heap.get? b = some o) → G g0 s'.gens → s'.drawn = d0 → s'.os = o0 → R (.ok (.ret .none)) s') (k : Nat) :
    ∀ (i : Nat) (s : Shared), n - i = k → i ≤ n → St i s → (∀ b o, h0.get? b = some o → s.heap.get? b = some o) → (∃ L es ep t, Lies kd s.heap S L es ep t ∧ Held ks i L) → G g0 s.gens → s.drawn = d0 → s.os = o0 →
      codeAny (model P w) A (.builtin "set.update.loop" ⟨[.ref S, .ref I], []⟩) R s := by
  have Sw : S ∉ wr := fun z => out (W.sub _ z)
  induction k with
  | zero =>
    intro i s hk hi st keep ⟨L, es, ep, t, T, H⟩ eg ed eo
    obtain rfl : i = n := by omega
    refine codeAny_builtin F.entry_set_update_loop ?_
    rw [Around.under_plainId F.plain_set_update_loop _]
    show wpAny _ A.in1 (pyNext (.ref I) >>= _) _ _ s
    refine wpAny_bind (W.done s _ _ st fun s' mv => ?_)
    show wpAny _ A.in1 (ret Value.none) _ _ s'
    refine wpAny_pure (fin s' L es ep t (T.on fun o e => mv.heap S o Sw e) H (fun b o e => mv.heap b o (fun z => ?_) (keep b o e)) (W.gtrans _ _ _ eg mv.gens) (mv.drawn.trans ed) (mv.os.trans eo))
    exact nomatch (w0 b z).symm.trans e
  | succ k ih =>
    intro i s hk hi st keep ⟨L, es, ep, t, T, H⟩ eg ed eo
    refine codeAny_builtin F.entry_set_update_loop ?_
    rw [Around.under_plainId F.plain_set_update_loop _]
    show wpAny _ A.in1 (pyNext (.ref I) >>= _) _ _ s
    refine wpAny_bind (W.item i s _ _ (by omega) st fun v s' hv st' mv => ?_)
    obtain ⟨r, hr, rfl⟩ := val i v hv
    have keep' : ∀ b o, h0.get? b = some o → s'.heap.get? b = some o := fun b o e => mv.heap b o (fun z => nomatch (w0 b z).symm.trans e) (keep b o e)
    have now : ∀ q : Row κ, q ∈ ks → IsTupleKey kd s'.heap q.2 q.1 := fun q hq => same_at (mem q hq) (keep' q.1)
    show wpAny _ A.in1 (holding [Value.ref r.1] (setAdd S (.ref r.1)) >>= _) _ _ s'
    refine wpAny_bind (wpAny_holding ?_)
    unfold setAdd
    refine wpAny_holding (wpAny_bind (wpAny_pyHash_tuple hu (now r (List.mem_of_getElem? hr)) ?_))
    refine put_in (s := { s' with toks := s'.toks + (r.2.length + 1) }) M (T.on fun o e => mv.heap S o Sw e) (fun q hq => now q (H.of q hq)) (now r (List.mem_of_getElem? hr)) hu (by have := H.le; omega) fun b h' L' es' ep' t' sb T' c => ?_
    refine wpAny_pure ⟨plainId_quiet F.plain_set_update_loop _, ih (i + 1) _ (by omega) (by omega) (W.frame _ s' _ _ st' (Nat.le_add_right _ _) fun b hb o e => ?_) (fun b o e => ?_) ⟨L', es', ep', t', T', H.next hr c⟩ (W.gtrans _ _ _ eg mv.gens) (mv.drawn.trans ed) (mv.os.trans eo)⟩
    · exact (sb.2 b fun z => out (z ▸ hb)).trans e
    · exact (sb.2 b fun z => by rw [z, S0] at e; cases e).trans (keep' b o e)
/-- set(l), l a list of such tuples -/
theorem call_set (M : Mild kd) {l : Addr} {items : Array Value} (ks : List (Row κ)) {Q : Value → Shared → Prop} (hh : A.handled = none) (hl : s.heap.IsList l items) (hi : items.toList = ks.map fun r => Value.ref r.1) (mem : Are kd s.heap ks)
    (few : ks.length < 64) (hu : A.units + 3 < cLine)
    (q : ∀ (h' : Heap) (tk : Nat) L es ep t, Lies kd h' s.heap.objs.size L es ep t → Held ks ks.length L → (∀ b o, s.heap.get? b = some o → h'.get? b = some o) → Q (.ref s.heap.objs.size) { s with heap := h', toks := tk }) :
    wpAny (model P w) A (call (.type "set") [.ref l]) Q E s := by
  have hn : items.size = ks.length := by rw [← Array.length_toList, hi, List.length_map]
  generalize hS : s.heap.objs.size = S at q ⊢
  have free : ∀ b, S ≤ b → s.heap.get? b = none := fun b hb => Heap.get?_none_of_le (hS ▸ hb)
  have lS : l < S := by obtain ⟨o, ho, _⟩ := hl; exact hS ▸ Heap.lt_size ho
  obtain ⟨c, tl, mro⟩ := F.called_set.mro
  have f1 := F.called_set.made
  have f2 := F.called_set.sub
  have f3 := F.called_set.notType
  have f4 := F.called_set.canCreate
  have f5 := F.typeCall_set_1 (.ref l)
  refine wpAny_call (codeAny_of_tree ?_)
  show wpAny _ _ (callAny (.type "set") _) _ _ _
  refine wpAny_pure ⟨Code.quiet_builtin _ (by decide +kernel), codeAny_builtin F.entry_type_call ?_⟩
  rw [Around.under_plain (weight_type_call_type "set" [.ref l] []) rfl]
  repeat (any_goals (first | assumption | wp_step))
  refine codeAny_mono (code_set_led1 (.ref l) (E := E) (Q₁ := fun obj s₁ => obj = .ref S ∧ s₁ = { s with heap := s.heap.push (newSet w) }) ⟨by rw [hS], rfl⟩) fun r s₁ hr => ?_
  match r, hr with
  | .error e, hr => exact hr
  | .ok (.ret obj), hr =>
    obtain ⟨rfl, rfl⟩ := hr
    have at0 : (s.heap.push (newSet w)).get? S = some (newSet w) := hS ▸ Heap.get?_push_size _ rfl
    have ty : Shared.TypeIs { s with heap := s.heap.push (newSet w) } (.ref S) "set" := ⟨_, at0, rfl⟩
    have g1 := F.called_set.init.lookup
    have g2 := F.called_set.init.bind (.ref S)
    repeat (any_goals (first | assumption | wp_step))
    refine codeAny_mono (codeAny_call_builtin (R := wants (fun r s₂ => r = .none ∧ ∃ h' tk L es ep t, s₂ = { s with heap := h', toks := tk } ∧ Lies kd h' S L es ep t ∧ Held ks ks.length L ∧ (∀ b o, s.heap.get? b = some o → h'.get? b = some o)) E)
      F.called_set.init.plain F.entry_set_init (check_set_init_1 ty ?_)) fun r₂ s₂ hr₂ => ?_
    · obtain ⟨ol, hol, hcl, nl, hdl⟩ := hl
      obtain ⟨cl, di, da, sl⟩ := ol
      simp only at hcl hdl
      subst hcl hdl
      have ol1 : (s.heap.push (newSet w)).get? l = some { cls := .type "list", dict := di, data := .seq items nl, slots := sl } := Heap.get?_push_of_some _ hol
      have l1 : (s.heap.push (newSet w)).IsList l items := ⟨_, ol1, rfl, nl, rfl⟩
      have b1 := F.sub_list_set
      have b2 := F.sub_list_frozenset
      have b3 : (Value.type "list" == Value.type "dict") = false := by decide
      unfold Builtin.«set.__init__» noKeywords Builtin.Frozenset.updateFrom
      generalize hPI : pyIter = PI
      wp_walk
      subst hPI
      refine wpAny_pyIter_list l1 (wpAny_bind (wpAny_runValue ?_))
      have sz : (s.heap.push (newSet w)).objs.size = S + 1 := by rw [size_push', hS]
      have vals : ∀ (i : Nat) (v : Value), items[i]? = some v → ∃ r, ks[i]? = some r ∧ v = .ref r.1 := fun i v e => by
        have e2 : (ks.map fun r => Value.ref r.1)[i]? = some v := by rw [← hi, Array.getElem?_toList]; exact e
        rw [List.getElem?_map] at e2
        cases h : ks[i]? with
        | none => rw [h] at e2; cases e2
        | some r => rw [h] at e2; exact ⟨r, rfl, (Option.some.inj e2).symm⟩
      refine all_in M ((Walks.list (A := A.in1.in1.in1) (by simp [hh]) (s.heap.push (newSet w)).objs.size l (by rw [sz]; exact Nat.ne_of_lt (Nat.lt_succ_of_lt lS)) items).toS) S
        (by rw [sz]; simp; exact Nat.ne_of_gt lS) ks hn few vals s.heap mem (free S (Nat.le_refl _)) (fun b hb => free b (by rw [List.mem_singleton.mp hb, sz]; exact Nat.le_succ _)) hu s.gens s.drawn s.os ?fin
        (items.size - 0) 0 _ rfl (Nat.zero_le _) ⟨⟨_, Heap.get?_push_size _ rfl, rfl, rfl⟩, l1.push _⟩ (fun b o e => Heap.get?_push_of_some _ (Heap.get?_push_of_some _ e))
        ⟨[], #[], 0, _, lies_new (Heap.get?_push_of_some _ at0), ⟨fun r z => (by cases z), fun r z => (by simp at z), Nat.le_refl _⟩⟩ rfl rfl rfl
      case fin =>
        intro s' L es ep t T H keep eg ed eo
        obtain ⟨h', g, d, tk, os⟩ := s'
        simp only at eg ed eo
        subst eg ed eo
        refine wpAny_pure ?_
        show wpAny _ _ (ret Value.none) _ _ _
        exact wpAny_pure ⟨rfl, h', tk, L, es, ep, t, rfl, T, hn ▸ H, keep⟩
    · match r₂, hr₂ with
      | .error e, hr₂ => exact hr₂
      | .ok (.ret r), hr₂ =>
        obtain ⟨rfl, h', tk, L, es, ep, t, rfl, T, H, keep⟩ := hr₂
        repeat (any_goals (first | assumption | wp_step))
        exact q _ _ _ _ _ _ T H keep
end
end Tq

/-! Tuples of texts in their order; sorted(a set of them). -/
namespace Tq
open PySem PySem.Spec PyProof.Rows L2
/-- the signs of texts -/
abbrev sg1 (x : Str) : List Nat := x.cps.toList
def sg (ks : List Str) : List (List Nat) := ks.map sg1
theorem sg1_inj {x y : Str} (e : sg1 x = sg1 y) : x = y := by
  obtain ⟨a⟩ := x; obtain ⟨b⟩ := y
  exact congrArg Str.mk (Array.toList_inj.mp e)
theorem sg_inj : ∀ {a b : List Str}, sg a = sg b → a = b
  | [], [], _ => rfl
  | [], _ :: _, e => nomatch e
  | _ :: _, [], e => nomatch e
  | x :: a, y :: b, e => by
    injection e with e1 e2
    rw [sg1_inj e1, sg_inj e2]
/-- the order of tuples of texts -/
def tlt (a b : List Str) : Bool := decide (sg a < sg b)
theorem tlt_irr (a : List Str) : tlt a a = false := decide_eq_false (List.lt_irrefl _)
theorem tlt_tr {a b c : List Str} (h : tlt a b = true) (k : tlt b c = true) : tlt a c = true :=
  decide_eq_true (List.lt_trans (of_decide_eq_true h) (of_decide_eq_true k))
theorem tlt_eq {a b : List Str} (h : tlt a b = false) (k : tlt b a = false) : a = b :=
  sg_inj (List.le_antisymm (List.not_lt.mp (of_decide_eq_false k)) (List.not_lt.mp (of_decide_eq_false h)))
theorem tlt_asym {a b : List Str} (h : tlt a b = true) : tlt b a = false := by
  cases e : tlt b a
  · rfl
  · have := tlt_tr h e; rw [tlt_irr] at this; cases this
theorem swo_t (k : Value → List Str) : SrtO.Swo fun v u => tlt (k v) (k u) := by
  refine ⟨fun x y h => tlt_asym h, fun x y z h1 h2 => ?_⟩
  cases e : tlt (k z) (k x)
  · rfl
  · by_cases q : k x = k y
    · rw [q, h2] at e; cases e
    · cases e2 : tlt (k x) (k y)
      · exact absurd (tlt_eq e2 h1) q
      · have := tlt_tr e e2; rw [h2] at this; cases this
section
variable {P : Program} {w : World} {A : Around} {E : Value → Shared → Prop} {s : Shared}
abbrev sk (P : Program) (w : World) : PySem.KeyKind P w Str := PySem.strKind P w
abbrev IsX (P : Program) (w : World) (h : Heap) (ks : List Str) (a : Addr) : Prop := IsTupleKey (sk P w) h ks a
/-- one text is below another -/
theorem below (b : Bool) {x y : Str} {t u : Tok} {Q : Bool → Shared → Prop} (q : Q (decide (sg1 x < sg1 y)) s) : wpAny (model P w) A (oneLt' b (.str x t) (.str y u)) Q E s := by
  cases b with
  | true => exact oneLt_str q
  | false => exact PySem.W.kat_one _ _ (PyProof.Rows.lt_str (Q := PySem.W.BoolBack Q) q)
theorem lex {b : Bool} {xs ys : List Value} {ns ms : List Str} {Q : Bool → Shared → Prop} (i : Nat) (hx : ItemsAre (sk P w) ns xs) (hy : ItemsAre (sk P w) ms ys) (q : Q (tlt ns ms) s) :
    PySem.W.KatLex P w A b (decide (xs.length < ys.length)) Q (xs.zip ys) i s := by
  induction hx generalizing ys ms i with
  | nil =>
    cases hy with
    | nil => exact PySem.W.kat_nil q
    | cons _ _ => exact PySem.W.kat_nil q
  | @cons x v ns xs h1 _ ih =>
    cases hy with
    | nil => exact PySem.W.kat_nil q
    | @cons y u ms ys h2 hy =>
      obtain ⟨t, rfl⟩ := Value.isStrOf_shape h1
      obtain ⟨t', rfl⟩ := Value.isStrOf_shape h2
      refine PySem.W.kat_cons (wpAny_eqBool_str ?_)
      by_cases e : x = y
      · subst e
        rw [decide_eq_true rfl]
        refine PySem.W.kat_yes ?_
        have d : tlt (x :: ns) (x :: ms) = tlt ns ms := decide_eq_decide.mpr ⟨fun z => (List.cons_lt_cons_iff.mp z).elim (fun z => absurd z (List.lt_irrefl _)) (·.2), fun z => List.cons_lt_cons_iff.mpr (.inr ⟨rfl, z⟩)⟩
        rw [d] at q
        have d2 : decide ((Value.str x t :: xs).length < (Value.str x t' :: ys).length) = decide (xs.length < ys.length) := by simp
        rw [d2]
        exact ih (i + 1) hy q
      · rw [decide_eq_false e]
        refine PySem.W.kat_no (below _ ?_)
        have d : tlt (x :: ns) (y :: ms) = decide (sg1 x < sg1 y) := decide_eq_decide.mpr ⟨fun z => (List.cons_lt_cons_iff.mp z).elim id (fun z => absurd (sg1_inj z.1) e), fun z => List.cons_lt_cons_iff.mpr (.inl z)⟩
        rw [d] at q
        exact q
/-- what stands in a list that is to be sorted -/
def AllX (P : Program) (w : World) (h : Heap) (vs : List Value) (k : Value → List Str) : Prop := ∀ v ∈ vs, k v ≠ [] ∧ ∃ a, v = .ref a ∧ IsX P w h (k v) a
theorem heads {h : Heap} {k : Value → List Str} : ∀ vs : List Value, AllX P w h vs k → ∃ fs, PySem.W.KatTups h vs fs ∧ fs.length = vs.length ∧ ∀ f ∈ fs, ∃ x t, f = Value.str x t
  | [], _ => ⟨[], PySem.W.KatTups.nil, rfl, fun _ z => nomatch z⟩
  | v :: vs, al => by
    obtain ⟨fs, r, hl, hf⟩ := heads vs fun u hu => al u (.tail _ hu)
    obtain ⟨ne, a, rfl, o, xs, n, ho, hc, hd, hi⟩ := al v List.mem_cons_self
    generalize hz : k (.ref a) = ks at hi ne
    generalize e : xs.toList = l at hi
    cases hi with
    | nil => exact absurd rfl ne
    | @cons x f _ _ h1 _ =>
      obtain ⟨t, rfl⟩ := Value.isStrOf_shape h1
      refine ⟨_ :: fs, PySem.W.KatTups.cons ho hc hd (f := .str x t) ?_ r, by simp [hl], fun g hg => ?_⟩
      · rw [← Array.getElem?_toList, e]; rfl
      · exact (List.mem_cons.mp hg).elim (fun z => ⟨x, t, z⟩) (hf g)
theorem sortable {a : Addr} {vs : List Value} {k : Value → List Str} (h0 : 0 < vs.length) (al : AllX P w s.heap vs k) (ha : ∀ o, s.heap.get? a = some o → o.cls ≠ .type "tuple") : SrtO.SortableO P w A s a vs fun v u => tlt (k v) (k u) := by
  intro h' keep
  have al' : AllX P w h' vs k := fun v hv => by
    obtain ⟨ne, b, e, x⟩ := al v hv
    obtain ⟨o, xs, n, ho, hc, r⟩ := x
    exact ⟨ne, b, e, o, xs, n, keep b o (fun z => ha o (z ▸ ho) hc) ho, hc, r⟩
  obtain ⟨fs, f1, f2, f3⟩ := heads vs al'
  refine ⟨tuples' true, fun Q E q => PySem.W.kat_kind (T := .type "str") f1 (by omega) (fun f hf => ?_) rfl ?_, fun p q hp hq => ?_⟩
  · obtain ⟨x, t, rfl⟩ := f3 f hf
    exact PySem.W.Looks.now
  · rw [show (Value.type "str" != Value.type "tuple") = true by decide]; exact q
  · obtain ⟨_, a1, e1, o1, x1, n1, ho1, _, hd1, hi1⟩ := al' _ hp
    obtain ⟨_, a2, e2, o2, x2, n2, ho2, _, hd2, hi2⟩ := al' _ hq
    show wpAny (model P w) A (keyLt' (tuples' true) p.1 q.1) (fun r s' => s' = _ ∧ r = tlt (k p.1) (k q.1)) (fun _ _ => False) _
    generalize k p.1 = k1 at hi1 ⊢
    generalize k q.1 = k2 at hi2 ⊢
    rw [e1, e2]
    refine PySem.W.kat_lt ho1 hd1 ho2 hd2 ?_
    have := lex (P := P) (w := w) (A := A) (s := { s with heap := h' }) (b := true) (Q := fun r s' => s' = { s with heap := h' } ∧ r = tlt k1 k2) 0 hi1 hi2 ⟨rfl, rfl⟩
    simpa using this
end
end Tq

/-! sorted(a set of tuples of texts), and both rules over the abstract heap. -/
namespace Tq
open PySem PySem.Spec PyProof.Rows L2
/-- the key that stands at an address -/
def keyAt (L : List (Row Str)) : Value → List Str
  | .ref b => ((L.find? fun r => decide (r.1 = b)).map Prod.snd).getD []
  | _ => []
def adrOf : Value → Addr
  | .ref b => b
  | _ => 0
section
variable {P : Program} {w : World} {A : Around} {E : Value → Shared → Prop} {s : Shared}
theorem keyAt_of {h : Heap} {L : List (Row Str)} (mem : Are (sk P w) h L) {r : Row Str} (hr : r ∈ L) : keyAt L (.ref r.1) = r.2 := by
  show ((L.find? fun q => decide (q.1 = r.1)).map Prod.snd).getD [] = r.2
  cases e : L.find? fun q => decide (q.1 = r.1) with
  | none => exact absurd (List.find?_eq_none.mp e r hr) (by simp)
  | some q =>
    have h1 : q.1 = r.1 := of_decide_eq_true (List.find?_some (p := fun q : Row Str => decide (q.1 = r.1)) e)
    have h2 := mem q (List.mem_of_find?_eq_some e)
    rw [h1] at h2
    exact h2.inj (mem r hr)
theorem sorted_set {a : Addr} {L : List (Row Str)} {es : Array (Int × Value)} {ep : Nat} {t : SetTable} {Q : Value → Shared → Prop} (T : Lies (sk P w) s.heap a L es ep t) (mem : Are (sk P w) s.heap L) (ne : ∀ r ∈ L, r.2 ≠ []) (hh : A.handled = none)
    (q : ∀ s' p (out : Array Value) (c : Nat) (L' : List (Row Str)), (∀ b o, s.heap.get? b = some o → s'.heap.get? b = some o) → s'.gens = s.gens → s'.os = s.os → s.heap.objs.size ≤ p → s'.heap.get? p = some (seqObj "list" out c) →
      out.toList = L'.map (fun r => Value.ref r.1) → L'.Perm L → (L'.map Prod.snd).Pairwise (fun x y => tlt x y = true) → Q (.ref p) s') :
    wpAny (model P w) A (call (.builtin "sorted") [.ref a]) Q E s := by
  obtain ⟨o, ho, hex, hd⟩ := T.obj
  refine Calls.call_function_entry kind_sorted plain_sorted entry_sorted (args_sorted1 _) ?_
  unfold Builtin.«sorted»
  refine wpAny_bind (m := checkCount "sorted" 1 1 _) (wpAny_pure ?_)
  refine wpAny_bind (collect_set (A := A.in1) hh ⟨o, ho, hex.1, hd⟩ T.ok (by rw [len_of T.ents]; have := T.few; unfold scanBound; omega) T.tab.ris T.led fun s1 vs k1 hz g1 o1 pm => ?_)
  have pm : vs.Perm (L.map fun r => Value.ref r.1) := by rw [T.ents, List.map_map] at pm; exact pm
  have few : vs.length ≤ sizeLine := by rw [pm.length_eq, List.length_map, sizeLine_eq]; have := T.few; omega
  refine wpAny_bind (wpAny_newList ?_ few)
  have oL : (s1.heap.push (seqObj "list" vs.toArray 0)).get? s1.heap.objs.size = some (seqObj "list" vs.toArray 0) := Heap.get?_push_size _ rfl
  have al : AllX P w (s1.heap.push (seqObj "list" vs.toArray 0)) vs (keyAt L) := fun v hv => by
    obtain ⟨r, hr, rfl⟩ := List.mem_map.mp (pm.mem_iff.mp hv)
    rw [keyAt_of mem hr]
    exact ⟨ne r hr, _, rfl, same_at (mem r hr) fun u e => Heap.get?_push_of_some _ (k1 _ u e)⟩
  refine wpAny_bind (wpAny_holding (wpAny_call_entry slot_list_sort ⟨_, oL, rfl⟩ entry_list_sort (SrtO.list_sort_ord (s := { s1 with heap := s1.heap.push (seqObj "list" vs.toArray 0) }) (swo_t (keyAt L)) oL few
    (fun h2 => sortable (by omega) al fun u e => ?_) fun out hs hb => ⟨_, rfl, ?_⟩) (args_list_sort _)))
  · rw [oL] at e
    cases e
    exact fun c => absurd (Value.type.inj c) (by decide)
  · obtain ⟨c, hc⟩ := sortedHeap_at (vs := vs) (out := out.toArray) oL
    have po := hb.perm.trans pm
    have back : ∀ r ∈ L, (adrOf (Value.ref r.1), keyAt L (.ref r.1)) = r := fun r hr => by rw [keyAt_of mem hr]; rfl
    have pL : (out.map fun v => (adrOf v, keyAt L v)).Perm L := by
      have := po.map fun v => (adrOf v, keyAt L v)
      rw [List.map_map] at this
      rwa [show L.map ((fun v => (adrOf v, keyAt L v)) ∘ fun r => Value.ref r.1) = L by
        conv => rhs; rw [← List.map_id L]
        exact List.map_congr_left back] at this
    refine wpAny_pure ⟨_, rfl, q _ _ out.toArray c (out.map fun v => (adrOf v, keyAt L v)) (fun b u e => ?_) g1 o1 hz hc ?_ pL ?_⟩
    · have e1 := k1 b u e
      have lt := Heap.lt_size e1
      show (sortedHeap (s1.heap.push (seqObj "list" vs.toArray 0)) s1.heap.objs.size vs out.toArray).get? b = some u
      rw [sortedHeap_old (Nat.ne_of_lt lt) (by rw [size_push']; exact Nat.lt_succ_of_lt lt)]
      exact Heap.get?_push_of_some _ e1
    · rw [List.map_map]
      show out = _
      conv => lhs; rw [← List.map_id out]
      refine List.map_congr_left fun v hv => ?_
      obtain ⟨r, hr, rfl⟩ := List.mem_map.mp (po.mem_iff.mp hv)
      rfl
    · have nd : ((out.map fun v => (adrOf v, keyAt L v)).map Prod.snd).Nodup := (pL.map _).nodup_iff.mpr T.dif
      rw [List.map_map] at nd ⊢
      rw [List.nodup_iff_pairwise_ne, List.pairwise_map] at nd
      rw [List.pairwise_map]
      refine (List.pairwise_and_iff.mpr ⟨hs, nd⟩).imp fun {x y} z => ?_
      cases e : tlt (keyAt L x) (keyAt L y)
      · exact absurd (tlt_eq e z.1) z.2
      · exact e
end
/-! ### over the abstract heap -/
def SetX (P : Program) (w : World) (a : Addr) (L : List (Row Str)) : HO := .ext fun h => ∃ es ep t, Lies (sk P w) h a L es ep t
theorem setX_new {P : Program} {w : World} {H : Hp} {h : Heap} {a : Addr} {L : List (Row Str)} (R : ∃ es ep t, Lies (sk P w) h a L es ep t) : ObjOk P w H h a (SetX P w a L) := by
  have ⟨es, ep, t, T⟩ := R
  have ⟨o, ho, _⟩ := T.obj
  exact ⟨R, ⟨o, ho⟩, fun h1 h2 ⟨es, ep, t, T⟩ k => ⟨es, ep, t, T.on k⟩⟩
theorem items_strs {P : Program} {w : World} : ∀ {k : List Str} {us : List Value}, Vals (k.map V.str) us → ItemsAre (sk P w) k us
  | [], _, .nil => .nil
  | x :: k, _, .cons r t => by
    obtain ⟨u, rfl⟩ := r
    exact .cons (beq_self_eq_true x) (items_strs t)
theorem refs_of {κ : Type} : ∀ {ks : List (Row κ)} {us : List Value}, Vals (ks.map fun r => V.ref r.1) us → us = ks.map fun r => Value.ref r.1
  | [], _, .nil => rfl
  | r :: ks, _, .cons e t => by cases e; rw [refs_of t]; rfl
theorem of_refs {κ : Type} : ∀ ks : List (Row κ), Vals (ks.map fun r => V.ref r.1) (ks.map fun r => Value.ref r.1)
  | [] => .nil
  | _ :: ks => .cons rfl (of_refs ks)
section
variable {X : Cx}
theorem isX_of {pins : List (Addr × Obj)} {σ : L2.St} {H : Hp} {s : Shared} {b : Addr} {k : List Str} (I : Inv X pins σ H s) (h : SqT X.K H b (k.map V.str)) : IsX X.prog X.w s.heap k b := by
  obtain ⟨its, r, ⟨o, ho, hc, n, hd⟩, _⟩ := I.tuple h
  exact ⟨o, its.toArray, n, ho, hc, hd, by simpa using items_strs r⟩
/-- these are tuples of these texts -/
abbrev TupsX (K : PySem.W.Frag) (H : Hp) (ks : List (Row Str)) : Prop := ∀ r ∈ ks, SqT K H r.1 (r.2.map V.str)
/-- set(l) -/
def rSetX (K : PySem.W.Frag) (P : Program) (w : World) : List V → Hp → VK → Prop := fun xs H Q => ∃ (l : Addr) (ks : List (Row Str)), xs = [V.ref l] ∧ SqL K H l (ks.map fun r => V.ref r.1) ∧ TupsX K H ks ∧ ks.length < 64 ∧
  ∀ a L, H a = none → (∀ r ∈ L, r ∈ ks) → (∀ r ∈ ks, r.2 ∈ L.map Prod.snd) → Q (.ref a) (upd H a (SetX P w a L))
theorem cr_setX (hc : X.calm = true) (hu : X.A.units + 64 < cLine) : CallR X (.type "set") (rSetX X.K X.prog X.w) := by
  intro pins s σ H xs us Q I r h
  obtain ⟨l, ks, rfl, hl, hk, few, q⟩ := h
  rw [Vals.ref1 r]
  obtain ⟨its, rv, pl, _⟩ := I.list hl
  refine call_set (P := X.prog) (w := X.w) (mild_str _ _) ks (I.ok.hd hc) pl.isList (by simpa using refs_of rv) (fun r hr => isX_of I (hk r hr)) few (by omega) fun h' tk L es ep t T Hd keep => ?_
  refine ⟨.ref s.heap.objs.size, upd H s.heap.objs.size (SetX X.prog X.w s.heap.objs.size L), I.laid (t' := tk) keep (Nat.le_refl _) (setX_new ⟨es, ep, t, T⟩), rfl, q _ L (I.hok.fresh (Nat.le_refl _)) Hd.of fun r hr => Hd.to r ?_⟩
  rw [List.take_length]; exact hr
/-- sorted(a set) -/
def rSortX (K : PySem.W.Frag) (P : Program) (w : World) : List V → Hp → VK → Prop := fun vs H Q => ∃ (a : Addr) (L : List (Row Str)), vs = [V.ref a] ∧ H a = some (SetX P w a L) ∧ TupsX K H L ∧ (∀ r ∈ L, r.2 ≠ []) ∧
  ∀ (L' : List (Row Str)) (p : Addr), L'.Perm L → L'.length < 64 → (L'.map Prod.snd).Pairwise (fun x y => tlt x y = true) → H p = none → Q (.ref p) (upd H p (.lst (L'.map fun r => V.ref r.1)))
theorem cr_sortX (hc : X.calm = true) : CallR X (.builtin "sorted") (rSortX X.K X.prog X.w) := by
  intro pins s σ H vs us Q I r h
  obtain ⟨a, L, rfl, ha, hk, ne, q⟩ := h
  obtain ⟨es, ep, t, T⟩ : ∃ es ep t, Lies (sk X.prog X.w) s.heap a L es ep t := (I.hok a _ ha).1
  rw [Vals.ref1 r]
  refine sorted_set T (fun r hr => isX_of I (hk r hr)) ne (I.ok.hd hc) fun s' p out c L' keep g o hp hg eo pm pw => ?_
  have few : L'.length < 64 := by rw [pm.length_eq]; exact T.few
  have hn : H p = none := I.hok.fresh hp
  have J : Inv X pins σ (upd H p (.lst (L'.map fun r => V.ref r.1))) { s with heap := s'.heap, gens := s'.gens, drawn := s'.drawn, toks := s'.toks } :=
    I.call (ch := []) (Un.laid keep hp hn) (I.hok.laid keep hp ⟨by rw [List.length_map, sizeLine_eq]; omega, out.toList, c, by rw [eo]; exact of_refs L', hg⟩) (by rw [g]; exact I.bare) (fun _ z => nomatch z)
  obtain ⟨h1, g1, d1, t1, o1⟩ := s'
  simp only at o
  subst o
  exact ⟨.ref p, _, J, rfl, q L' p pm few pw hn⟩
end
end Tq

/-! Sets of texts: set(a list of texts), sorted of it. -/
namespace Tq
open PySem PySem.Spec PyProof.Rows L2
def keyS (e : Int × Value) : Str := match e.2 with | .str k _ => k | _ => Str.empty
def IsS (P : Program) (w : World) (e : Int × Value) : Prop := ∃ k u, e = ((sk P w).hash k, Value.str k u)
structure Txts (P : Program) (w : World) (h : Heap) (a : Addr) (L : List Str) (es : Array (Int × Value)) (ep : Nat) (t : SetTable) : Prop where
  obj : ∃ o, h.get? a = some o ∧ o.ExactSet ∧ o.data = .set es ep t
  each : ∀ e ∈ es.toList, IsS P w e
  keys : es.toList.map keyS = L
  dif : L.Nodup
  few : es.size < scanBound
  fit : t.fits es.size = true
  ris : Ris t.place.toList
  led : w.params.followText "set-order" = true ∨ t.led = true
section
variable {P : Program} {w : World} {A : Around} {E : Value → Shared → Prop} {s : Shared} {a : Addr} {L : List Str} {es : Array (Int × Value)} {ep : Nat} {t : SetTable}
theorem Txts.on {h h' : Heap} (T : Txts P w h a L es ep t) (k : ∀ o, h.get? a = some o → h'.get? a = some o) : Txts P w h' a L es ep t :=
  let ⟨o, ho, r⟩ := T.obj
  ⟨⟨o, k o ho, r⟩, T.each, T.keys, T.dif, T.few, T.fit, T.ris, T.led⟩
theorem Txts.len (T : Txts P w s.heap a L es ep t) : es.size = L.length := by rw [← T.keys, List.length_map, Array.length_toList]
theorem isS_is {e : Int × Value} (x : IsS P w e) (k : Str) : (sk P w).is k e.2 = true ↔ keyS e = k := by
  obtain ⟨j, u, rfl⟩ := x
  show (j == k) = true ↔ j = k
  exact beq_iff_eq
theorem each_elems {l : List (Int × Value)} (x : ∀ e ∈ l, IsS P w e) : ElemsOf (sk P w) l := fun e he => by
  obtain ⟨j, u, rfl⟩ := x e he
  exact ⟨⟨j, strKind_is _ _ _ _, rfl⟩, rfl⟩
/-- what is said of the set behind one more text -/
abbrev Onto (k : Str) (L L' : List Str) : Prop := (k ∈ L ∧ L' = L) ∨ (k ∉ L ∧ L'.Perm (k :: L))
theorem laid_tail {g : Bool → Sem Unit} (hg : ∀ (b : Bool) (s₁ : Shared) (Q' : Unit → Shared → Prop), Q' () s₁ → wpAny (model P w) A (g b) Q' E s₁) {o : Obj} (ho : s.heap.get? a = some o) (hex : o.ExactSet) (hd : o.data = .set es ep t)
    {es1 : Array (Int × Value)} {t2 : SetTable} (x : ∀ e ∈ es1.toList, IsS P w e) (nd : (es1.toList.map keyS).Nodup) (hb : es1.size < scanBound) (hf : t2.fits es1.size = true) (hr : Ris t2.place.toList) (hl : w.params.followText "set-order" = true ∨ t2.led = true)
    {was : Bool} {R : Option Bool → Shared → Prop} (q : ∀ h' L' es' ep' t', Heap.SameBut a s.heap h' → Txts P w h' a L' es' ep' t' → L'.Perm (es1.toList.map keyS) → R (some true) { s with heap := h' }) :
    wpAny (model P w) A (do
        storeSet a es1 t2
        if (!was && t2.tooFull) = true then do
            g (relayAll t2 es1 (SetTable.grown es1.size)).2.2
            storeSet a (relayAll t2 es1 (SetTable.grown es1.size)).1 (relayAll t2 es1 (SetTable.grown es1.size)).2.1
            pure (some true)
          else pure (some true)) R E s := by
  have at1 := store_at (es' := es1) (t' := t2) ho hd
  have b1 := Heap.SameBut.update s.heap a (Obj.putSet es1 t2)
  refine wpAny_bind (wpAny_storeSet_of ho hd ?_ (fits_of_scanBound hb))
  split
  · have pm := relayAll_perm t2 es1 (SetTable.grown es1.size)
    have c1 := relayAll_fits t2 es1 (SetTable.grown es1.size)
    have c2 := relayAll_ris t2 es1 (SetTable.grown es1.size)
    have c3 := relayAll_led t2 es1 (SetTable.grown es1.size)
    generalize relayAll t2 es1 (SetTable.grown es1.size) = Z at pm c1 c2 c3 ⊢
    obtain ⟨es2, t3, gv⟩ := Z
    dsimp only at pm c1 c2 c3 ⊢
    have sz : es2.size < scanBound := by rw [← Array.length_toList, pm.length_eq, Array.length_toList]; exact hb
    refine wpAny_bind (hg _ _ _ (wpAny_bind (wpAny_storeSet_of at1 rfl ?_ (fits_of_scanBound sz))))
    refine wpAny_pure (q _ (es2.toList.map keyS) es2 _ t3 (b1.trans (Heap.SameBut.update _ a _)) ⟨⟨_, store_at at1 rfl, hex, rfl⟩, fun e he => x e (pm.mem_iff.mp he), rfl, (pm.map keyS).nodup_iff.mpr nd, sz, c1, c2, hl.imp id fun z => by rw [c3]; exact z⟩ (pm.map keyS))
  · exact wpAny_pure (q _ _ es1 _ t2 b1 ⟨⟨_, at1, hex, rfl⟩, x, rfl, nd, hb, hf, hr, hl⟩ (List.Perm.refl _))
theorem txt_in {k : Str} {u : Tok} {Q : Bool → Shared → Prop} (T : Txts P w s.heap a L es ep t) (room : L.length + 1 < scanBound)
    (q : ∀ b h' L' es' ep' t', Heap.SameBut a s.heap h' → Txts P w h' a L' es' ep' t' → Onto k L L' → Q b { s with heap := h' }) : wpAny (model P w) A (setAddHashed a (.str k u) ((sk P w).hash k)) Q E s := by
  have ky : (sk P w).is k (.str k u) = true := strKind_is _ _ _ _
  have sc : (Value.str k u).scannable = true := rfl
  have el : ElemsOf (sk P w) es.toList := each_elems T.each
  obtain ⟨o, ho, hex, hd⟩ := T.obj
  unfold setAddHashed setAddHashedIn
  refine wpAny_holding (wpAny_bind (wpAny_setState_of ho hd T.fit ?_))
  dsimp only
  rw [byScan_of sc T.few el]
  simp only [↓reduceIte]
  unfold setAddByScan
  refine wpAny_bind (wpAny_bind (wpAny_rule (wpAny_bind (wpAny_setScan_of ky ho hd T.fit el ?_))))
  cases fi : List.findIdx? (fun e => (sk P w).is k e.2) es.toList with
  | some j =>
    dsimp only
    obtain ⟨hj, pj, _⟩ := List.findIdx?_eq_some_iff_getElem.mp fi
    have hk : k ∈ L := by
      rw [← T.keys, ← (isS_is (T.each _ (List.getElem_mem hj)) k).mp pj]
      exact List.mem_map_of_mem (List.getElem_mem hj)
    exact wpAny_pure (wpAny_pure (q _ s.heap L es ep t (Heap.SameBut.refl a s.heap) T (.inl ⟨hk, rfl⟩)))
  | none =>
    dsimp only
    have hk : k ∉ L := fun z => by
      rw [← T.keys] at z
      obtain ⟨e, he, ee⟩ := List.mem_map.mp z
      have c := List.findIdx?_eq_none_iff.mp fi e he
      rw [(isS_is (T.each e he) k).mpr ee] at c
      cases c
    have gw : ∀ (b : Bool) {s₁ : Shared} {Q' : Unit → Shared → Prop}, Q' () s₁ → wpAny (model P w) A (match b with | true => rule "set.scan.the-table-gave-way" | false => pure ()) Q' E s₁ :=
      fun b _ _ z => by cases b <;> first | exact wpAny_pure z | exact wpAny_rule z
    have pm := layNew_perm t es ((sk P w).hash k) (.str k u)
    have c1 := layNew_fits t es ((sk P w).hash k) (.str k u)
    have c2 := layNew_ris t es ((sk P w).hash k) (.str k u) T.ris
    have c3 := layNew_led t es ((sk P w).hash k) (.str k u)
    generalize layNew t es ((sk P w).hash k) (.str k u) = Z at pm c1 c2 c3 ⊢
    obtain ⟨es1, t1, was, gv⟩ := Z
    dsimp only at pm c1 c2 c3 ⊢
    rw [Array.toList_push] at pm
    have pc : es1.toList.Perm (((sk P w).hash k, Value.str k u) :: es.toList) := pm.trans (List.perm_append_singleton _ _)
    have pk : (es1.toList.map keyS).Perm (k :: L) := by have := pc.map keyS; rw [List.map_cons, T.keys] at this; exact this
    have x1 : ∀ e ∈ es1.toList, IsS P w e := fun e he => (List.mem_cons.mp (pc.mem_iff.mp he)).elim (fun z => ⟨k, u, z⟩) (T.each e)
    have nd : (es1.toList.map keyS).Nodup := pk.nodup_iff.mpr (List.nodup_cons.mpr ⟨hk, T.dif⟩)
    have hb : es1.size < scanBound := by
      have e := pk.length_eq
      rw [List.length_map, Array.length_toList, List.length_cons] at e
      rw [e]; exact room
    have ld : w.params.followText "set-order" = true ∨ t1.led = true := T.led.imp id fun z => by rw [c3]; exact z
    have fin : ∀ h' L' es' ep' t', Heap.SameBut a s.heap h' → Txts P w h' a L' es' ep' t' → L'.Perm (es1.toList.map keyS) → Q true { s with heap := h' } := fun h' L' es' ep' t' sb T' p => q _ h' L' es' ep' t' sb T' (.inr ⟨hk, p.trans pk⟩)
    refine wpAny_bind (gw _ ?_)
    split
    · refine wpAny_bind ?_
      rw [hashByValue_scannable 8 sc]
      refine wpAny_pure ?_
      refine laid_tail ?_ ho hex hd x1 nd hb ?_ ?_ ?_ ?_
      · intro b s₁ Q' z; cases b <;> first | exact wpAny_pure z | exact wpAny_rule z
      · first | (split <;> first | exact c1 | exact SetTable.fits_plain_off c1) | exact c1
      · first | (split <;> exact c2) | exact c2
      · first | (split <;> exact ld) | exact ld
      · intro h' L' es' ep' t' sb T' p; dsimp only; exact wpAny_pure (fin h' L' es' ep' t' sb T' p)
    · refine wpAny_bind (wpAny_pure ?_)
      simp only [↓reduceIte]
      refine laid_tail ?_ ho hex hd x1 nd hb c1 c2 ld ?_
      · intro b s₁ Q' z; cases b <;> first | exact wpAny_pure z | exact wpAny_rule z
      · intro h' L' es' ep' t' sb T' p; dsimp only; exact wpAny_pure (fin h' L' es' ep' t' sb T' p)
/-- what the set holds behind so many texts -/
structure HeldS (ks : List Str) (i : Nat) (L : List Str) : Prop where
  mem : ∀ k, k ∈ L ↔ k ∈ ks.take i
  le : L.length ≤ i
theorem HeldS.next {ks L L' : List Str} {i : Nat} {k : Str} (h : HeldS ks i L) (e : ks[i]? = some k) (c : Onto k L L') : HeldS ks (i + 1) L' := by
  have tk : ks.take (i + 1) = ks.take i ++ [k] := by rw [List.take_add_one, e]; rfl
  rcases c with ⟨c, rfl⟩ | ⟨_, pm⟩
  · refine ⟨fun j => ?_, Nat.le_succ_of_le h.le⟩
    rw [tk, List.mem_append, List.mem_singleton, ← h.mem]
    exact ⟨.inl, fun z => z.elim id fun z => z ▸ c⟩
  · refine ⟨fun j => ?_, by rw [pm.length_eq]; exact Nat.succ_le_succ h.le⟩
    rw [pm.mem_iff, List.mem_cons, tk, List.mem_append, List.mem_singleton, h.mem]
    exact Or.comm
theorem all_txt {I : Addr} {fp wr : List Addr} {G : Array GenState → Array GenState → Prop} {n : Nat} {Pv : Nat → Value → Prop} {St : Nat → Shared → Prop} {R : Result → Shared → Prop} (W : WalksS P w A.in1 I fp wr G n Pv St)
    (S : Addr) (out : S ∉ fp) (ks : List Str) (hn : n = ks.length) (few : ks.length + 1 < scanBound) (val : ∀ i v, Pv i v → ∃ k u, ks[i]? = some k ∧ v = .str k u) (h0 : Heap) (S0 : h0.get? S = none) (w0 : ∀ b ∈ wr, h0.get? b = none)
    (g0 : Array GenState) (d0) (o0)
    (fin : ∀ s' L es ep t, Txts P w s'.heap S L es ep t → HeldS ks n L → (∀ b o, h0.get? b = some o → s'.heap.get? b = some o) → G g0 s'.gens → s'.drawn = d0 → s'.os = o0 → R (.ok (.ret .none)) s') (k : Nat) :
    ∀ (i : Nat) (s : Shared), n - i = k → i ≤ n → St i s → (∀ b o, h0.get? b = some o → s.heap.get? b = some o) → (∃ L es ep t, Txts P w s.heap S L es ep t ∧ HeldS ks i L) → G g0 s.gens → s.drawn = d0 → s.os = o0 →
      codeAny (model P w) A (.builtin "set.update.loop" ⟨[.ref S, .ref I], []⟩) R s := by
  have Sw : S ∉ wr := fun z => out (W.sub _ z)
  induction k with
  | zero =>
    intro i s hk hi st keep ⟨L, es, ep, t, T, H⟩ eg ed eo
    obtain rfl : i = n := by omega
    refine codeAny_builtin F.entry_set_update_loop ?_
    rw [Around.under_plainId F.plain_set_update_loop _]
    show wpAny _ A.in1 (pyNext (.ref I) >>= _) _ _ s
    refine wpAny_bind (W.done s _ _ st fun s' mv => ?_)
    show wpAny _ A.in1 (ret Value.none) _ _ s'
    refine wpAny_pure (fin s' L es ep t (T.on fun o e => mv.heap S o Sw e) H (fun b o e => mv.heap b o (fun z => ?_) (keep b o e)) (W.gtrans _ _ _ eg mv.gens) (mv.drawn.trans ed) (mv.os.trans eo))
    exact nomatch (w0 b z).symm.trans e
  | succ k ih =>
    intro i s hk hi st keep ⟨L, es, ep, t, T, H⟩ eg ed eo
    refine codeAny_builtin F.entry_set_update_loop ?_
    rw [Around.under_plainId F.plain_set_update_loop _]
    show wpAny _ A.in1 (pyNext (.ref I) >>= _) _ _ s
    refine wpAny_bind (W.item i s _ _ (by omega) st fun v s' hv st' mv => ?_)
    obtain ⟨x, u, hx, rfl⟩ := val i v hv
    have keep' : ∀ b o, h0.get? b = some o → s'.heap.get? b = some o := fun b o e => mv.heap b o (fun z => nomatch (w0 b z).symm.trans e) (keep b o e)
    show wpAny _ A.in1 (holding [Value.str x u] (setAdd S (.str x u)) >>= _) _ _ s'
    refine wpAny_bind (wpAny_holding ?_)
    unfold setAdd
    refine wpAny_holding (wpAny_bind ((sk P w).pyHash (k := x) (strKind_is _ _ _ _) ?_))
    refine txt_in (s := { s' with toks := s'.toks + 1 }) (T.on fun o e => mv.heap S o Sw e) (by have := H.le; omega) fun b h' L' es' ep' t' sb T' c => ?_
    refine wpAny_pure ⟨plainId_quiet F.plain_set_update_loop _, ih (i + 1) _ (by omega) (by omega) (W.frame _ s' _ _ st' (Nat.le_add_right _ _) fun b hb o e => ?_) (fun b o e => ?_) ⟨L', es', ep', t', T', H.next hx c⟩ (W.gtrans _ _ _ eg mv.gens) (mv.drawn.trans ed) (mv.os.trans eo)⟩
    · exact (sb.2 b fun z => out (z ▸ hb)).trans e
    · exact (sb.2 b fun z => by rw [z, S0] at e; cases e).trans (keep' b o e)
theorem txts_new {h : Heap} {a : Addr} (ho : h.get? a = some (newSet w)) : Txts P w h a [] #[] 0 (.fresh 0 0 (!w.params.followText "set-order")) where
  obj := ⟨_, ho, ⟨rfl, rfl, rfl⟩, rfl⟩
  each := fun e he => by simp at he
  keys := rfl
  dif := .nil
  few := by decide
  fit := by rfl
  ris := .nil
  led := by
    show _ ∨ (!w.params.followText "set-order") = true
    cases w.params.followText "set-order" <;> simp
/-- set(l), l a list of texts -/
theorem call_setTxt {l : Addr} {items : Array Value} (ks : List Str) {Q : Value → Shared → Prop} (hh : A.handled = none) (hl : s.heap.IsList l items) (hi : ∀ (i : Nat) (v : Value), items[i]? = some v → ∃ k u, ks[i]? = some k ∧ v = .str k u) (hn : items.size = ks.length)
    (few : ks.length + 1 < scanBound)
    (q : ∀ (h' : Heap) (tk : Nat) L es ep t, Txts P w h' s.heap.objs.size L es ep t → HeldS ks ks.length L → (∀ b o, s.heap.get? b = some o → h'.get? b = some o) → Q (.ref s.heap.objs.size) { s with heap := h', toks := tk }) :
    wpAny (model P w) A (call (.type "set") [.ref l]) Q E s := by
  generalize hS : s.heap.objs.size = S at q ⊢
  have free : ∀ b, S ≤ b → s.heap.get? b = none := fun b hb => Heap.get?_none_of_le (hS ▸ hb)
  have lS : l < S := by obtain ⟨o, ho, _⟩ := hl; exact hS ▸ Heap.lt_size ho
  obtain ⟨c, tl, mro⟩ := F.called_set.mro
  have f1 := F.called_set.made
  have f2 := F.called_set.sub
  have f3 := F.called_set.notType
  have f4 := F.called_set.canCreate
  have f5 := F.typeCall_set_1 (.ref l)
  refine wpAny_call (codeAny_of_tree ?_)
  show wpAny _ _ (callAny (.type "set") _) _ _ _
  refine wpAny_pure ⟨Code.quiet_builtin _ (by decide +kernel), codeAny_builtin F.entry_type_call ?_⟩
  rw [Around.under_plain (weight_type_call_type "set" [.ref l] []) rfl]
  repeat (any_goals (first | assumption | wp_step))
  refine codeAny_mono (code_set_led1 (.ref l) (E := E) (Q₁ := fun obj s₁ => obj = .ref S ∧ s₁ = { s with heap := s.heap.push (newSet w) }) ⟨by rw [hS], rfl⟩) fun r s₁ hr => ?_
  match r, hr with
  | .error e, hr => exact hr
  | .ok (.ret obj), hr =>
    obtain ⟨rfl, rfl⟩ := hr
    have at0 : (s.heap.push (newSet w)).get? S = some (newSet w) := hS ▸ Heap.get?_push_size _ rfl
    have ty : Shared.TypeIs { s with heap := s.heap.push (newSet w) } (.ref S) "set" := ⟨_, at0, rfl⟩
    have g1 := F.called_set.init.lookup
    have g2 := F.called_set.init.bind (.ref S)
    repeat (any_goals (first | assumption | wp_step))
    refine codeAny_mono (codeAny_call_builtin (R := wants (fun r s₂ => r = .none ∧ ∃ h' tk L es ep t, s₂ = { s with heap := h', toks := tk } ∧ Txts P w h' S L es ep t ∧ HeldS ks ks.length L ∧ (∀ b o, s.heap.get? b = some o → h'.get? b = some o)) E)
      F.called_set.init.plain F.entry_set_init (check_set_init_1 ty ?_)) fun r₂ s₂ hr₂ => ?_
    · obtain ⟨ol, hol, hcl, nl, hdl⟩ := hl
      obtain ⟨cl, di, da, sl⟩ := ol
      simp only at hcl hdl
      subst hcl hdl
      have ol1 : (s.heap.push (newSet w)).get? l = some { cls := .type "list", dict := di, data := .seq items nl, slots := sl } := Heap.get?_push_of_some _ hol
      have l1 : (s.heap.push (newSet w)).IsList l items := ⟨_, ol1, rfl, nl, rfl⟩
      have b1 := F.sub_list_set
      have b2 := F.sub_list_frozenset
      have b3 : (Value.type "list" == Value.type "dict") = false := by decide
      unfold Builtin.«set.__init__» noKeywords Builtin.Frozenset.updateFrom
      generalize hPI : pyIter = PI
      wp_walk
      subst hPI
      refine wpAny_pyIter_list l1 (wpAny_bind (wpAny_runValue ?_))
      have sz : (s.heap.push (newSet w)).objs.size = S + 1 := by rw [size_push', hS]
      refine all_txt ((Walks.list (A := A.in1.in1.in1) (by simp [hh]) (s.heap.push (newSet w)).objs.size l (by rw [sz]; exact Nat.ne_of_lt (Nat.lt_succ_of_lt lS)) items).toS) S
        (by rw [sz]; simp; exact Nat.ne_of_gt lS) ks hn few hi s.heap (free S (Nat.le_refl _)) (fun b hb => free b (by rw [List.mem_singleton.mp hb, sz]; exact Nat.le_succ _)) s.gens s.drawn s.os ?fin
        (items.size - 0) 0 _ rfl (Nat.zero_le _) ⟨⟨_, Heap.get?_push_size _ rfl, rfl, rfl⟩, l1.push _⟩ (fun b o e => Heap.get?_push_of_some _ (Heap.get?_push_of_some _ e))
        ⟨[], #[], 0, _, txts_new (Heap.get?_push_of_some _ at0), ⟨fun k => by simp, Nat.le_refl _⟩⟩ rfl rfl rfl
      case fin =>
        intro s' L es ep t T H keep eg ed eo
        obtain ⟨h', g, d, tk, os⟩ := s'
        simp only at eg ed eo
        subst eg ed eo
        refine wpAny_pure ?_
        show wpAny _ _ (ret Value.none) _ _ _
        exact wpAny_pure ⟨rfl, h', tk, L, es, ep, t, rfl, T, hn ▸ H, keep⟩
    · match r₂, hr₂ with
      | .error e, hr₂ => exact hr₂
      | .ok (.ret r), hr₂ =>
        obtain ⟨rfl, h', tk, L, es, ep, t, rfl, T, H, keep⟩ := hr₂
        repeat (any_goals (first | assumption | wp_step))
        exact q _ _ _ _ _ _ T H keep
/-- from the order of its sort to a strict one -/
theorem rise_pair : ∀ {p : Str} {l : List Str}, risingS p l = true → (p :: l).Pairwise fun x y => ¬ sg1 y < sg1 x
  | p, [], _ => List.pairwise_singleton _ _
  | p, x :: r, h => by
    obtain ⟨h1, h2⟩ := Bool.and_eq_true_iff.mp (show (!ltCps x.cps.toList p.cps.toList && risingS x r) = true from h)
    have ih := rise_pair h2
    have h0 : ¬ sg1 x < sg1 p := by
      rw [ltCps_eq] at h1
      simpa using h1
    refine List.pairwise_cons.mpr ⟨fun y hy => ?_, ih⟩
    rcases List.mem_cons.mp hy with rfl | hy
    · exact h0
    · refine fun c => (List.pairwise_cons.mp ih).1 y hy ?_
      rcases Decidable.em (sg1 p < sg1 x) with d | d
      · exact List.lt_trans c d
      · rw [List.le_antisymm (List.not_lt.mp d) (List.not_lt.mp h0)]; exact c
theorem rise_all {l : List Str} (h : sortedS l = true) : l.Pairwise fun x y => ¬ sg1 y < sg1 x := by
  cases l with
  | nil => exact .nil
  | cons p r => exact rise_pair h
theorem rise_strict {l : List Str} (h : sortedS l = true) (nd : l.Nodup) : l.Pairwise fun x y => sg1 x < sg1 y := by
  rw [List.nodup_iff_pairwise_ne] at nd
  refine (List.pairwise_and_iff.mpr ⟨rise_all h, nd⟩).imp fun {x y} z => ?_
  rcases Decidable.em (sg1 x < sg1 y) with c | c
  · exact c
  · exact absurd (sg1_inj (List.le_antisymm (List.not_lt.mp z.1) (List.not_lt.mp c))) z.2
theorem strs_from : ∀ (l : List Value), (∀ v ∈ l, ∃ k u, v = Value.str k u) → StrsAre l (l.map fun v => keyS (0, v))
  | [], _ => .nil
  | v :: l, h => by
    obtain ⟨k, u, rfl⟩ := h v List.mem_cons_self
    exact .cons k u (strs_from l fun x hx => h x (.tail _ hx))
theorem sorted_txts {Q : Value → Shared → Prop} (T : Txts P w s.heap a L es ep t) (hh : A.handled = none) (few : L.length < 64)
    (q : ∀ s' p (out : Array Value) (c : Nat) (L' : List Str), (∀ b o, s.heap.get? b = some o → s'.heap.get? b = some o) → s'.gens = s.gens → s'.os = s.os → s.heap.objs.size ≤ p → s'.heap.get? p = some (seqObj "list" out c) →
      StrsAre out.toList L' → L'.Perm L → L'.Pairwise (fun x y => sg1 x < sg1 y) → Q (.ref p) s') :
    wpAny (model P w) A (call (.builtin "sorted") [.ref a]) Q E s := by
  obtain ⟨o, ho, hex, hd⟩ := T.obj
  refine Calls.call_function_entry kind_sorted plain_sorted entry_sorted (args_sorted1 _) ?_
  unfold Builtin.«sorted»
  refine wpAny_bind (m := checkCount "sorted" 1 1 _) (wpAny_pure ?_)
  refine wpAny_bind (collect_set (A := A.in1) hh ⟨o, ho, hex.1, hd⟩ T.fit T.few T.ris T.led fun s1 vs k1 hz g1 o1 pm => ?_)
  have vl : vs.length = L.length := by rw [pm.length_eq, List.length_map, Array.length_toList, T.len]
  have hs : StrsAre vs (vs.map fun v => keyS (0, v)) := strs_from vs fun v hv => by
    obtain ⟨e, he, rfl⟩ := List.mem_map.mp (pm.mem_iff.mp hv)
    obtain ⟨k, u, rfl⟩ := T.each e he
    exact ⟨k, u, rfl⟩
  have pk : (vs.map fun v => keyS (0, v)).Perm L := by
    have z := pm.map fun v => keyS (0, v)
    rw [List.map_map] at z
    rw [← T.keys]
    exact z
  refine wpAny_bind (wpAny_newList ?_ (by rw [vl, sizeLine_eq]; omega))
  have oL : (s1.heap.push (seqObj "list" vs.toArray 0)).get? s1.heap.objs.size = some (seqObj "list" vs.toArray 0) := Heap.get?_push_size _ rfl
  refine wpAny_bind (wpAny_holding (wpAny_call_entry slot_list_sort ⟨_, oL, rfl⟩ entry_list_sort (list_sort_treeK strKind_oneLt oL hs.keysOf (fun v₁ v₂ rest e => keyKind_strs (by rw [← e]; exact hs)) (by rw [vl]; exact few) fun st' a1 a2 => ⟨_, rfl, ?_⟩) (args_list_sort _)))
  obtain ⟨ss, b1, b2, b3⟩ := sorted_out_str hs a1 a2
  obtain ⟨c, hc⟩ := sortedHeap_at (vs := vs) (out := (arrOf st').map (·.2)) oL
  have pL := b2.trans pk
  refine wpAny_pure ⟨_, rfl, q _ _ _ c ss (fun b u e => ?_) g1 o1 hz hc b1 pL (rise_strict b3 (pL.nodup_iff.mpr T.dif))⟩
  have e1 := k1 b u e
  have lt := Heap.lt_size e1
  show (sortedHeap (s1.heap.push (seqObj "list" vs.toArray 0)) s1.heap.objs.size vs _).get? b = some u
  rw [sortedHeap_old (Nat.ne_of_lt lt) (by rw [size_push']; exact Nat.lt_succ_of_lt lt)]
  exact Heap.get?_push_of_some _ e1
end
/-! ### over the abstract heap -/
def SetT (P : Program) (w : World) (a : Addr) (L : List Str) : HO := .ext fun h => ∃ es ep t, Txts P w h a L es ep t
theorem setT_new {P : Program} {w : World} {H : Hp} {h : Heap} {a : Addr} {L : List Str} (R : ∃ es ep t, Txts P w h a L es ep t) : ObjOk P w H h a (SetT P w a L) := by
  have ⟨es, ep, t, T⟩ := R
  have ⟨o, ho, _⟩ := T.obj
  exact ⟨R, ⟨o, ho⟩, fun h1 h2 ⟨es, ep, t, T⟩ k => ⟨es, ep, t, T.on k⟩⟩
theorem vals_at : ∀ {ks : List Str} {us : List Value}, Vals (ks.map V.str) us → ∀ (i : Nat) (v : Value), us[i]? = some v → ∃ k u, ks[i]? = some k ∧ v = .str k u
  | _ :: _, _, .cons r t, 0, v, e => by obtain ⟨u, rfl⟩ := r; cases e; exact ⟨_, u, rfl, rfl⟩
  | _ :: _, _, .cons r t, i + 1, v, e => vals_at t i v e
  | [], _, .nil, i, v, e => by simp at e
theorem vals_strs : ∀ {vs : List Value} {ks : List Str}, StrsAre vs ks → Vals (ks.map V.str) vs
  | _, _, .nil => .nil
  | _, _, .cons k u t => .cons ⟨u, rfl⟩ (vals_strs t)
section
variable {X : Cx}
/-- set(l) -/
def rSetT (K : PySem.W.Frag) (P : Program) (w : World) : List V → Hp → VK → Prop := fun xs H Q => ∃ (l : Addr) (ks : List Str), xs = [V.ref l] ∧ SqL K H l (ks.map V.str) ∧ ks.length < 64 ∧
  ∀ a L, H a = none → (∀ k, k ∈ L ↔ k ∈ ks) → L.length ≤ ks.length → Q (.ref a) (upd H a (SetT P w a L))
theorem cr_setT (hc : X.calm = true) : CallR X (.type "set") (rSetT X.K X.prog X.w) := by
  intro pins s σ H xs us Q I r h
  obtain ⟨l, ks, rfl, hl, few, q⟩ := h
  rw [Vals.ref1 r]
  obtain ⟨its, rv, pl, _⟩ := I.list hl
  refine call_setTxt (P := X.prog) (w := X.w) ks (I.ok.hd hc) pl.isList (fun i v e => vals_at rv i v (by simpa using e)) (by rw [List.size_toArray, ← rv.length, List.length_map]) (by unfold scanBound; omega) fun h' tk L es ep t T Hd keep => ?_
  refine ⟨.ref s.heap.objs.size, upd H s.heap.objs.size (SetT X.prog X.w s.heap.objs.size L), I.laid (t' := tk) keep (Nat.le_refl _) (setT_new ⟨es, ep, t, T⟩), rfl, q _ L (I.hok.fresh (Nat.le_refl _)) (fun k => ?_) Hd.le⟩
  rw [Hd.mem, List.take_length]
/-- sorted(a set) -/
def rSortT (P : Program) (w : World) : List V → Hp → VK → Prop := fun vs H Q => ∃ (a : Addr) (L : List Str), vs = [V.ref a] ∧ H a = some (SetT P w a L) ∧ L.length < 64 ∧
  ∀ (L' : List Str) (p : Addr), L'.Perm L → L'.Pairwise (fun x y => sg1 x < sg1 y) → H p = none → Q (.ref p) (upd H p (.lst (L'.map V.str)))
theorem cr_sortT (hc : X.calm = true) : CallR X (.builtin "sorted") (rSortT X.prog X.w) := by
  intro pins s σ H vs us Q I r h
  obtain ⟨a, L, rfl, ha, few, q⟩ := h
  obtain ⟨es, ep, t, T⟩ : ∃ es ep t, Txts X.prog X.w s.heap a L es ep t := (I.hok a _ ha).1
  rw [Vals.ref1 r]
  refine sorted_txts T (I.ok.hd hc) few fun s' p out c L' keep g o hp hg eo pm pw => ?_
  have hn : H p = none := I.hok.fresh hp
  have J : Inv X pins σ (upd H p (.lst (L'.map V.str))) { s with heap := s'.heap, gens := s'.gens, drawn := s'.drawn, toks := s'.toks } :=
    I.call (ch := []) (Un.laid keep hp hn) (I.hok.laid keep hp ⟨by rw [List.length_map, pm.length_eq, sizeLine_eq]; omega, out.toList, c, vals_strs eo, hg⟩) (by rw [g]; exact I.bare) (fun _ z => nomatch z)
  obtain ⟨h1, g1, d1, t1, o1⟩ := s'
  simp only at o
  subst o
  exact ⟨.ref p, _, J, rfl, q L' p pm pw hn⟩
end
end Tq

/-! Lines, and what is said of them. -/
namespace Rd
open PySem PySem.Spec PyProof.Rows L2 Tq
inductive Ln where
  | go (n : Nat)
  | ift (t p : Str) (n : Nat)
  | look (t p : Str)
  | read (t p : Str)
  deriving DecidableEq
def Ln.vs : Ln → List V
  | .go n => [.str "go", .int n]
  | .ift t p n => [.str "if", .str t, .str p, .int n]
  | .look t p => [.str "look", .str t, .str p]
  | .read t p => [.str "read", .str t, .str p]
def Ln.ds : Ln → List PyData
  | .go n => [.str "go", .int n]
  | .ift t p n => [.str "if", .str t, .str p, .int n]
  | .look t p => [.str "look", .str t, .str p]
  | .read t p => [.str "read", .str t, .str p]
abbrev Ln.d (l : Ln) : PyData := .tuple l.ds
def Ln.word : Ln → Str
  | .go _ => "go"
  | .ift .. => "if"
  | .look .. => "look"
  | .read .. => "read"
/-- table and part -/
def Ln.key : Ln → List Str
  | .go _ => []
  | .ift t p _ => [t, p]
  | .look t p => [t, p]
  | .read t p => [t, p]
def nameS (s : Str) : Bool := decide (1 ≤ s.length) && decide (s.length ≤ 8) && s.cps.toList.all fun c => decide (97 ≤ c) && decide (c ≤ 122)
def nameD : PyData → Bool
  | .str s => nameS s
  | _ => false
def numD (d : PyData) (most : Int) : Bool := match d with
  | .int i => decide (0 ≤ i) && decide (i ≤ most)
  | _ => false
def lineT (ds : List PyData) (many : Int) : Bool :=
  if PyData.eqv (ds.getD 0 .none) (.str "go") = true then decide (ds.length = 2) && numD (ds.getD 1 .none) many
  else if PyData.eqv (ds.getD 0 .none) (.str "if") = true then decide (ds.length = 4) && ((((ds.drop 1).take 2).all nameD) && numD (ds.getD 3 .none) many)
  else (PyData.eqv (.str "read") (ds.getD 0 .none) || (PyData.eqv (.str "look") (ds.getD 0 .none) || false)) && (decide (ds.length = 3) && (ds.drop 1).all nameD)
def lineD (d : PyData) (many : Int) : Bool := match d with
  | .tuple ds => if ds.length < 2 then false else lineT ds many
  | _ => false
/-- a line as drawn -/
def Ln.fine (most : Nat) : Ln → Bool
  | .go n => decide (n ≤ most)
  | .ift t p n => nameS t && (nameS p && decide (n ≤ most))
  | .look t p => nameS t && nameS p
  | .read t p => nameS t && nameS p
theorem eqv_str (x y : Str) : PyData.eqv (.str x) (.str y) = decide (x = y) := by
  simp only [PyData.eqv]
  by_cases h : x = y
  · subst h; simp
  · rw [decide_eq_false h]; exact beq_eq_false_iff_ne.mpr h
theorem lineT_str (x : Str) (r : List PyData) (many : Int) : lineT (.str x :: r) many = (if x = "go" then decide (r.length = 1) && numD (r.getD 0 .none) many
    else if x = "if" then decide (r.length = 3) && (((r.take 2).all nameD) && numD (r.getD 2 .none) many) else (decide (("read" : Str) = x) || decide (("look" : Str) = x)) && (decide (r.length = 2) && r.all nameD)) := by
  unfold lineT
  simp only [List.getD_cons_zero, eqv_str, decide_eq_true_eq, List.length_cons, List.drop_succ_cons, List.drop_zero, List.getD_cons_succ, Bool.or_false, Nat.reduceEqDiff]
theorem ne1 : ¬ (("if" : Str) = "go") := by decide +kernel
theorem ne2 : ¬ (("look" : Str) = "go") := by decide +kernel
theorem ne3 : ¬ (("read" : Str) = "go") := by decide +kernel
theorem ne4 : ¬ (("look" : Str) = "if") := by decide +kernel
theorem ne5 : ¬ (("read" : Str) = "if") := by decide +kernel
theorem ne6 : ¬ (("read" : Str) = "look") := by decide +kernel
theorem fine_line {l : Ln} {most : Nat} (h : l.fine most = true) : lineD l.d most = true := by
  cases l with
  | go n =>
    have h' : n ≤ most := of_decide_eq_true h
    show lineT (.str "go" :: [.int n]) most = true
    rw [lineT_str, if_pos rfl]
    simp [numD]; omega
  | ift t p n =>
    simp only [Ln.fine, Bool.and_eq_true, decide_eq_true_eq] at h
    show lineT (.str "if" :: [.str t, .str p, .int n]) most = true
    rw [lineT_str, if_neg ne1, if_pos rfl]
    simp [numD, nameD, h.1, h.2.1]; omega
  | look t p =>
    simp only [Ln.fine, Bool.and_eq_true] at h
    show lineT (.str "look" :: [.str t, .str p]) most = true
    rw [lineT_str, if_neg ne2, if_neg ne4]
    simp [nameD, h.1, h.2]
  | read t p =>
    simp only [Ln.fine, Bool.and_eq_true] at h
    show lineT (.str "read" :: [.str t, .str p]) most = true
    rw [lineT_str, if_neg ne3, if_neg ne5]
    simp [nameD, h.1, h.2]
theorem nameS_ok {x : Str} (h : nameS x = true) : PyData.strOk x = true := by
  have h1 : (x.cps.toList.all fun c => decide (97 ≤ c) && decide (c ≤ 122)) = true := (Bool.and_eq_true_iff.mp h).2
  show x.cps.all (fun c => decide (c < 0x110000)) = true
  rw [← Array.all_toList]
  refine List.all_eq_true.mpr fun c hc => ?_
  have := List.all_eq_true.mp h1 c hc
  simp only [Bool.and_eq_true, decide_eq_true_eq] at this ⊢
  omega
def Ln.safe (l : Ln) : Prop := ∀ x ∈ l.key, PyData.strOk x = true
theorem fine_safe {l : Ln} {m : Nat} (h : l.fine m = true) : l.safe := by
  intro x hx
  cases l with
  | go n => cases hx
  | ift t p n =>
    simp only [Ln.fine, Bool.and_eq_true] at h
    rcases List.mem_cons.mp hx with rfl | hx
    · exact nameS_ok h.1
    · rw [List.mem_singleton.mp hx]; exact nameS_ok h.2.1
  | look t p =>
    simp only [Ln.fine, Bool.and_eq_true] at h
    rcases List.mem_cons.mp hx with rfl | hx
    · exact nameS_ok h.1
    · rw [List.mem_singleton.mp hx]; exact nameS_ok h.2
  | read t p =>
    simp only [Ln.fine, Bool.and_eq_true] at h
    rcases List.mem_cons.mp hx with rfl | hx
    · exact nameS_ok h.1
    · rw [List.mem_singleton.mp hx]; exact nameS_ok h.2
theorem w_ok : PyData.strOk "go" = true ∧ PyData.strOk "if" = true ∧ PyData.strOk "look" = true ∧ PyData.strOk "read" = true := ⟨by decide +kernel, by decide +kernel, by decide +kernel, by decide +kernel⟩
theorem ln_lay {l : Ln} (h : l.safe) : l.d.canLay0 = true := by
  obtain ⟨w1, w2, w3, w4⟩ := w_ok
  cases l with
  | go n => simp [Ln.d, Ln.ds, PyData.canLay0, PyData.canLayAll0, w1]
  | ift t p n => simp [Ln.d, Ln.ds, PyData.canLay0, PyData.canLayAll0, w2, h t List.mem_cons_self, h p (.tail _ List.mem_cons_self)]
  | look t p => simp [Ln.d, Ln.ds, PyData.canLay0, PyData.canLayAll0, w3, h t List.mem_cons_self, h p (.tail _ List.mem_cons_self)]
  | read t p => simp [Ln.d, Ln.ds, PyData.canLay0, PyData.canLayAll0, w4, h t List.mem_cons_self, h p (.tail _ List.mem_cons_self)]
theorem ln_depth (l : Ln) : l.d.depth ≤ 1 := by cases l <;> simp [Ln.d, Ln.ds, PyData.depth, PyData.depthAll]
theorem ln_shaped {l : Ln} (z : l.safe) : SeqAt.shaped l.d = true := by
  have h := ln_depth l
  show (l.d.canLay0 && decide (l.d.depth ≤ 64)) = true
  rw [Bool.and_eq_true]
  exact ⟨ln_lay z, decide_eq_true (by omega)⟩
theorem lns_lay : ∀ ls : List Ln, (∀ l ∈ ls, l.safe) → PyData.canLayAll0 (ls.map Ln.d) = true
  | [], _ => by simp [PyData.canLayAll0]
  | l :: ls, h => by simp only [List.map_cons, PyData.canLayAll0, ln_lay (h l List.mem_cons_self), lns_lay ls fun k hk => h k (.tail _ hk), Bool.and_true]
theorem lns_depth : ∀ ls : List Ln, PyData.depthAll (ls.map Ln.d) ≤ 1
  | [] => by simp [PyData.depthAll]
  | l :: ls => by
    have h1 := ln_depth l
    have h2 := lns_depth ls
    simp only [List.map_cons, PyData.depthAll]
    omega
abbrev dls (ls : List Ln) : PyData := .tuple (ls.map Ln.d)
theorem dls_shaped {ls : List Ln} (z : ∀ l ∈ ls, l.safe) : SeqAt.shaped (dls ls) = true := by
  have h1 := lns_depth ls
  have h2 : PyData.depth (dls ls) ≤ 64 := by simp only [PyData.depth]; omega
  show (PyData.canLay0 (dls ls) && decide (PyData.depth (dls ls) ≤ 64)) = true
  rw [Bool.and_eq_true]
  exact ⟨by simp only [PyData.canLay0]; exact lns_lay ls z, decide_eq_true h2⟩
theorem eqv_int (m n : Nat) : PyData.eqv (.int m) (.int n) = decide (m = n) := by
  simp only [PyData.eqv]
  by_cases h : m = n
  · subst h; simp
  · rw [decide_eq_false h]; exact beq_eq_false_iff_ne.mpr (by omega)
theorem all_cons (x y : PyData) (xs ys : List PyData) : PyData.eqvAll (x :: xs) (y :: ys) = (PyData.eqv x y && PyData.eqvAll xs ys) := by simp only [PyData.eqvAll]
theorem all_nil : PyData.eqvAll [] [] = true := by simp only [PyData.eqvAll]
theorem all_nc (y : PyData) (ys : List PyData) : PyData.eqvAll [] (y :: ys) = false := by simp only [PyData.eqvAll]
theorem all_cn (y : PyData) (ys : List PyData) : PyData.eqvAll (y :: ys) [] = false := by simp only [PyData.eqvAll]
theorem tup_eqv (xs ys : List PyData) : PyData.eqv (.tuple xs) (.tuple ys) = PyData.eqvAll xs ys := by simp only [PyData.eqv]
theorem ln_eqv (l k : Ln) : PyData.eqv l.d k.d = decide (l = k) := by
  have n1 : decide (("look" : Str) = "read") = false := by decide +kernel
  have n2 : decide (("read" : Str) = "look") = false := by decide +kernel
  cases l <;> cases k <;> simp only [Ln.d, Ln.ds, tup_eqv, all_cons, all_nil, all_nc, all_cn, eqv_str, eqv_int, Bool.and_true, Bool.and_false, n1, n2, Bool.false_and, reduceCtorEq, decide_false, Ln.go.injEq, Ln.ift.injEq, Ln.look.injEq, Ln.read.injEq, Bool.decide_and, decide_true, Bool.true_and]
theorem lns_eqv : ∀ ls ks : List Ln, PyData.eqvAll (ls.map Ln.d) (ks.map Ln.d) = decide (ls = ks)
  | [], [] => by simp [PyData.eqvAll]
  | [], _ :: _ => by simp [PyData.eqvAll]
  | _ :: _, [] => by simp [PyData.eqvAll]
  | l :: ls, k :: ks => by
    rw [List.map_cons, List.map_cons, all_cons, ln_eqv, lns_eqv ls ks]
    by_cases h1 : l = k <;> by_cases h2 : ls = ks <;> simp [h1, h2]
theorem dls_eqv (ls ks : List Ln) : PyData.eqv (dls ls) (dls ks) = decide (ls = ks) := by rw [tup_eqv, lns_eqv]
/-! ### what rises, without repetition, and has just these -/
structure Asc (ks ps : List (List Str)) : Prop where
  up : ps.Pairwise fun x y => tlt x y = true
  mem : ∀ k, k ∈ ps ↔ k ∈ ks
theorem asc_one : ∀ {ps qs : List (List Str)}, ps.Pairwise (fun x y => tlt x y = true) → qs.Pairwise (fun x y => tlt x y = true) → (∀ k, k ∈ ps ↔ k ∈ qs) → ps = qs
  | [], [], _, _, _ => rfl
  | [], q :: qs, _, _, h => absurd ((h q).mpr List.mem_cons_self) (List.not_mem_nil)
  | p :: ps, [], _, _, h => absurd ((h p).mp List.mem_cons_self) (List.not_mem_nil)
  | p :: ps, q :: qs, h1, h2, h => by
    obtain ⟨a1, a2⟩ := List.pairwise_cons.mp h1
    obtain ⟨b1, b2⟩ := List.pairwise_cons.mp h2
    have e : p = q := by
      rcases List.mem_cons.mp ((h p).mp List.mem_cons_self) with z | z
      · exact z
      · rcases List.mem_cons.mp ((h q).mpr List.mem_cons_self) with y | y
        · exact y.symm
        · have c := b1 p z
          have d := a1 q y
          rw [tlt_asym c] at d
          cases d
    subst e
    rw [asc_one a2 b2 fun k => ?_]
    constructor
    · intro z
      rcases List.mem_cons.mp ((h k).mp (.tail _ z)) with y | y
      · subst y; have := a1 k z; rw [tlt_irr] at this; cases this
      · exact y
    · intro z
      rcases List.mem_cons.mp ((h k).mpr (.tail _ z)) with y | y
      · subst y; have := b1 k z; rw [tlt_irr] at this; cases this
      · exact y
theorem Asc.eq {ks ps qs : List (List Str)} (a : Asc ks ps) (b : Asc ks qs) : ps = qs := asc_one a.up b.up fun k => (a.mem k).trans (b.mem k).symm
theorem up_nodup {ps : List (List Str)} (h : ps.Pairwise fun x y => tlt x y = true) : ps.Nodup := List.nodup_iff_pairwise_ne.mpr (h.imp fun {x y} z e => by subst e; rw [tlt_irr] at z; cases z)
structure AscS (ks ps : List Str) : Prop where
  up : ps.Pairwise fun x y => sg1 x < sg1 y
  mem : ∀ k, k ∈ ps ↔ k ∈ ks
theorem ascS_one : ∀ {ps qs : List Str}, ps.Pairwise (fun x y => sg1 x < sg1 y) → qs.Pairwise (fun x y => sg1 x < sg1 y) → (∀ k, k ∈ ps ↔ k ∈ qs) → ps = qs
  | [], [], _, _, _ => rfl
  | [], q :: qs, _, _, h => absurd ((h q).mpr List.mem_cons_self) (List.not_mem_nil)
  | p :: ps, [], _, _, h => absurd ((h p).mp List.mem_cons_self) (List.not_mem_nil)
  | p :: ps, q :: qs, h1, h2, h => by
    obtain ⟨a1, a2⟩ := List.pairwise_cons.mp h1
    obtain ⟨b1, b2⟩ := List.pairwise_cons.mp h2
    have e : p = q := by
      rcases List.mem_cons.mp ((h p).mp List.mem_cons_self) with z | z
      · exact z
      · rcases List.mem_cons.mp ((h q).mpr List.mem_cons_self) with y | y
        · exact y.symm
        · exact absurd (List.lt_trans (b1 p z) (a1 q y)) (List.lt_irrefl _)
    subst e
    rw [ascS_one a2 b2 fun k => ?_]
    constructor
    · intro z
      rcases List.mem_cons.mp ((h k).mp (.tail _ z)) with y | y
      · subst y; exact absurd (a1 k z) (List.lt_irrefl _)
      · exact y
    · intro z
      rcases List.mem_cons.mp ((h k).mpr (.tail _ z)) with y | y
      · subst y; exact absurd (b1 k z) (List.lt_irrefl _)
      · exact y
theorem AscS.eq {ks ps qs : List Str} (a : AscS ks ps) (b : AscS ks qs) : ps = qs := ascS_one a.up b.up fun k => (a.mem k).trans (b.mem k).symm
/-- the pairs of a reader's lines with one of these words -/
def keysOf (ws : List Str) (ls : List Ln) : List (List Str) := (ls.filter fun l => ws.contains l.word).map Ln.key
/-- pairs as data -/
def pD (k : List Str) : PyData := .tuple (k.map PyData.str)
abbrev pDs (ps : List (List Str)) : PyData := .tuple (ps.map pD)
theorem sD_lay : ∀ k : List Str, (∀ x ∈ k, PyData.strOk x = true) → PyData.canLayAll0 (k.map PyData.str) = true
  | [], _ => by simp [PyData.canLayAll0]
  | x :: k, h => by simp only [List.map_cons, PyData.canLayAll0, sD_lay k fun y hy => h y (.tail _ hy), PyData.canLay0, h x List.mem_cons_self, Bool.and_true]
theorem sD_depth : ∀ k : List Str, PyData.depthAll (k.map PyData.str) = 0
  | [] => by simp [PyData.depthAll]
  | x :: k => by simp only [List.map_cons, PyData.depthAll, sD_depth k, PyData.depth]; omega
theorem pD_lay {k : List Str} (h : ∀ x ∈ k, PyData.strOk x = true) : (pD k).canLay0 = true := by simp only [pD, PyData.canLay0]; exact sD_lay k h
theorem pD_depth (k : List Str) : (pD k).depth = 1 := by simp only [pD, PyData.depth, sD_depth]
theorem pDs_lay : ∀ ps : List (List Str), (∀ p ∈ ps, ∀ x ∈ p, PyData.strOk x = true) → PyData.canLayAll0 (ps.map pD) = true
  | [], _ => by simp [PyData.canLayAll0]
  | p :: ps, h => by simp only [List.map_cons, PyData.canLayAll0, pD_lay (h p List.mem_cons_self), pDs_lay ps fun q hq => h q (.tail _ hq), Bool.and_true]
theorem pDs_depth : ∀ ps : List (List Str), PyData.depthAll (ps.map pD) ≤ 1
  | [] => by simp [PyData.depthAll]
  | p :: ps => by
    have h1 := pD_depth p
    have h2 := pDs_depth ps
    simp only [List.map_cons, PyData.depthAll]
    omega
end Rd

namespace Dc
open PySem PySem.Spec PyProof.Rows L2
def top (i : Nat) : Stmt := PySem.Challenge.pw_asunmoved_k20_errors_of_readers.main.body.getD i (.Pass ⟨0, 0, 0, 0⟩)
abbrev sDice : Stmt := top 47
abbrev sRoll : Stmt := top 48
abbrev sOne : Stmt := top 49
/-- the generator of numbers stands at p -/
def DiceAt (H : Hp) (p : Addr) : Prop := ∃ a b c : Int, H p = some (.lst [.int a, .int b, .int c]) ∧ 0 ≤ a
/-- all that is tracked is kept, but for the object at p -/
def Keep (p : Addr) (H H' : Hp) : Prop := ∀ b o, b ≠ p → H b = some o → H' b = some o
theorem Keep.refl {p : Addr} {H : Hp} : Keep p H H := fun _ _ _ h => h
theorem Keep.trans {p : Addr} {H H1 H2 : Hp} (a : Keep p H H1) (b : Keep p H1 H2) : Keep p H H2 := fun c o n h => b c o n (a c o n h)
theorem keep_upd {p : Addr} {H : Hp} {o : HO} : Keep p H (upd H p o) := fun b u n h => by rw [upd_ne n]; exact h
theorem keep_new {p q : Addr} {H : Hp} {o : HO} (hq : H q = none) : Keep p H (upd H q o) := fun b u n h => by rw [upd_ne (ne_of_none h hq)]; exact h

theorem DiceAt.upd {p : Addr} {H : Hp} {a b c : Int} (h : 0 ≤ a) : DiceAt (upd H p (.lst [.int a, .int b, .int c])) p := ⟨a, b, c, upd_same, h⟩
structure TxB (K : PySem.W.Frag) (mg : Str → Option Value) : Prop where
  len : mg "len" = none
  int : mg "int" = none
  abs : mg "abs" = none
  max : mg "max" = none
  list : mg "list" = none
  range : mg "range" = none

theorem tt_yes {σ : L2.St} {H : Hp} {A B : Hp → Prop} (h : A H) : tYes σ H (fun b H3 => if b = true then A H3 else B H3) := by
  show (if true = true then A H else B H)
  rw [if_pos rfl]
  exact h
/-- x ** n with a bound by bits -/
theorem op_powB {X : Cx} : OpR X (binaryOp .Pow) (rI (fun i j => 0 ≤ j ∧ (Builtin.Int.intBits i : Int) * j ≤ 2 ^ 27) fun i j => .int (i ^ j.toNat)) :=
  opI fun _ _ _ _ _ _ _ hc q => pow_int hc.1 hc.2 q

def spDice (K : PySem.W.Frag) : Sp := fun vs H Q _ => ∃ (a : Addr) (ns : List Int) (i : Nat), vs = [.ref a, .int (i : Int)] ∧ SqL K H a (ns.map V.int) ∧ i ≤ 1000 ∧
  ∀ (p : Addr) (x y : Int), H p = none → 0 ≤ x → Q (.ref p) (upd H p (.lst [.int x, .int y, .int 0]))
def spRoll : Sp := fun vs H Q _ => ∃ (p : Addr) (n : Int) (a b c : Int), vs = [.ref p, .int n] ∧ H p = some (.lst [.int a, .int b, .int c]) ∧ 0 ≤ a ∧ 0 < n ∧ n < 2 ^ 40 ∧
  ∀ (r x y z : Int), 0 ≤ r → r < n → 0 ≤ x → Q (.int r) (upd H p (.lst [.int x, .int y, .int z]))
section
variable {P : Program} {w : World} {K : PySem.W.Frag} {mg : Str → Option Value} {base : Heap}
theorem scD : FnScope ["_law_script", "_law_at", "_law_cell", "_law_great", "_law_mixed"] ["_law_script", "_law_at"] (defScope sDice) := ⟨rfl, rfl, rfl, by decide +kernel, rfl, by decide +kernel, by decide +kernel⟩
theorem scR : FnScope ["_law_dice_here", "_law_total", "_law_found", "_law_one", "_law_two"] ["_law_dice_here", "_law_total"] (defScope sRoll) := ⟨rfl, rfl, rfl, by decide +kernel, rfl, by decide +kernel, by decide +kernel⟩

theorem big_ne : (((10 : Int) ^ Int.toNat 60) ^ Int.toNat 11) ≠ 0 := by decide +kernel
theorem fmod_in {a n : Int} (h : 0 < n) : 0 ≤ a.fmod n ∧ a.fmod n < n := ⟨Int.fmod_nonneg_of_pos _ h, Int.fmod_lt_of_pos _ h⟩
theorem mul_left_ok {a n : Int} (h : 0 < n) (hn : n < 2 ^ 64) {j : Int} : CMul (a.fmod n) j := .inl ⟨by have := (fmod_in (a := a) h).1; omega, by have := (fmod_in (a := a) h).2; omega⟩
theorem ok_dice {f : Addr} {fd : FuncData} (F : Fun K "_law_dice" "_law_dice" sDice f fd) (T : TxB K mg) : FnOk P w K mg base CX0 1 f fd ["_law_script", "_law_at"] (spDice K) := by
  refine F.ok scD (fun vs H Q E h => ?_) (fun cdv A outer s H vs Q E hr h => ?_)
  · obtain ⟨a, ns, i, rfl, _⟩ := h
    rfl
  · obtain ⟨a, ns, i, rfl, hS, hi, k⟩ := h
    refine ⟨_, pss_cons (ps_set (i := 2) scD.nd rfl (Or.inl rfl) (pe_op op_add (pe_op op_mul pe_int (pv 1)) pe_int))
      (pss_cons (ps_if (pt_cmpR op_lt (pv 1) (pe_callB call_len_seq (by rfl) T.len PySem.boot_len (pa_cons (pv 0) pa_nil)) (nomark _)) (pss_one (ps_set (i := 2) scD.nd rfl (Or.inl rfl) (pe_ix ix_list (pv 0) (pv 1) (fun _ _ => rfl)))) pss_nil)
      (pss_cons (ps_set (i := 3) scD.nd rfl (Or.inl rfl) (pe_op op_modN (pe_callTy call_int1 (by rfl) T.int PyProof.Rows.boot_int (pa_cons (pe_callB call_abs (by rfl) T.abs PyProof.Rows.boot_abs (pa_cons (pv 2) pa_nil)) pa_nil)) (pe_op op_powB (pe_op op_pow pe_int pe_int) pe_int)))
      (pss_cons (ps_set (i := 4) scD.nd rfl (Or.inl rfl) (pe_op op_add (pe_op op_add (pe_op op_add (pe_op op_mul (pe_op op_modN (pe_callTy call_int1 (by rfl) T.int PyProof.Rows.boot_int (pa_cons (pv 3) pa_nil)) pe_int) pe_int) (pe_op op_mul pe_int (pv 1)))
          (pe_op op_mul pe_int (pe_callTy call_int1 (by rfl) T.int PyProof.Rows.boot_int (pa_cons (pe_cmpR op_lt (pv 2) pe_int (nomark _)) pa_nil)))) pe_int))
      (pss_one (ps_ret (pe_lst (pa_cons (pe_callB (call_max2 rfl) (by rfl) T.max PyProof.Rows.boot_max (pa_cons pe_int (pa_cons (pe_op op_sub (pv 3) (pe_op op_pow pe_int pe_int)) pa_nil)))
          (pa_cons (pe_op op_modN (pe_callTy call_int1 (by rfl) T.int PyProof.Rows.boot_int (pa_cons (pv 4) pa_nil)) pe_int) (pa_cons pe_int pa_nil))))))))), ?_⟩
    refine ⟨_, rfl, _, _, rfl, rfl, (.inl ⟨by decide, by decide⟩), _, _, rfl, rfl, ?_⟩
    -- if _law_at < len(_law_script)
    refine ⟨_, rfl, _, rfl, a, _, rfl, .inl hS, _, _, rfl, rfl, _, rfl, ?_⟩
    refine ite2 (fun hlt => ?_) (fun hge => ?_)
    · have hl : i < ns.length := by
        have q := of_decide_eq_true hlt
        rw [List.length_map] at q
        omega
      refine ⟨_, rfl, _, rfl, a, _, _, V.int ns[i], rfl, rfl, hS, atI_nat (by rw [List.getElem?_map, List.getElem?_eq_getElem hl]; rfl), ?_⟩
      refine ⟨_, rfl, _, rfl, .inl ⟨_, rfl, _, _, rfl, rfl, ⟨by decide, by decide, by decide⟩, _, _, rfl, rfl, ⟨by decide, by decide +kernel⟩, _, _, rfl, rfl, big_ne, ?_⟩⟩
      refine ⟨_, rfl, .inl ⟨_, rfl, _, _, rfl, rfl, (show (2147483477 : Int) ≠ 0 by decide), _, _, rfl, rfl, .inr ⟨by decide, by decide⟩, _, rfl, _, _, rfl, rfl, .inl ⟨by decide, by decide⟩, _, _, rfl, rfl,
        _, rfl, _, _, rfl, rfl, .inr ⟨_, rfl, _, _, rfl, rfl, .inl ⟨by decide, by decide⟩, _, _, rfl, rfl, _, _, rfl, rfl, ?_⟩⟩⟩
      refine ⟨_, rfl, _, _, rfl, rfl, ⟨by decide, by decide, by decide⟩, _, _, rfl, rfl, _, _, rfl, _, rfl, .inl ⟨_, rfl, _, _, rfl, rfl, (show (2147483399 : Int) ≠ 0 by decide), (by show 3 ≤ sizeLine; decide), fun p hp => ?_⟩⟩
      exact k p _ _ hp (by split <;> omega)
    · refine ⟨_, rfl, _, rfl, .inl ⟨_, rfl, _, _, rfl, rfl, ⟨by decide, by decide, by decide⟩, _, _, rfl, rfl, ⟨by decide, by decide +kernel⟩, _, _, rfl, rfl, big_ne, ?_⟩⟩
      refine ⟨_, rfl, .inl ⟨_, rfl, _, _, rfl, rfl, (show (2147483477 : Int) ≠ 0 by decide), _, _, rfl, rfl, .inr ⟨by decide, by decide⟩, _, rfl, _, _, rfl, rfl, .inl ⟨by decide, by decide⟩, _, _, rfl, rfl,
        _, rfl, _, _, rfl, rfl, .inr ⟨_, rfl, _, _, rfl, rfl, .inl ⟨by decide, by decide⟩, _, _, rfl, rfl, _, _, rfl, rfl, ?_⟩⟩⟩
      refine ⟨_, rfl, _, _, rfl, rfl, ⟨by decide, by decide, by decide⟩, _, _, rfl, rfl, _, _, rfl, _, rfl, .inl ⟨_, rfl, _, _, rfl, rfl, (show (2147483399 : Int) ≠ 0 by decide), (by show 3 ≤ sizeLine; decide), fun p hp => ?_⟩⟩
      exact k p _ _ hp (by split <;> omega)
theorem ok_roll {f : Addr} {fd : FuncData} (F : Fun K "_law_roll" "_law_roll" sRoll f fd) (T : TxB K mg) : FnOk P w K mg base CX0 1 f fd ["_law_dice_here", "_law_total"] spRoll := by
  refine F.ok scR (fun vs H Q E h => ?_) (fun cdv A outer s H vs Q E hr h => ?_)
  · obtain ⟨p, n, a, b, c, rfl, _⟩ := h
    rfl
  · obtain ⟨p, n, a, b, c, rfl, hp, ha, hn, hn2, k⟩ := h
    refine ⟨_, pss_cons (ps_if (pt_cmpR op_gt (pe_ix ix_list (pv 0) pe_int (fun _ _ => rfl)) pe_int (nomark _))
        (pss_cons (ps_set (i := 2) scR.nd rfl (Or.inl rfl) (pe_op op_modN (pe_callTy call_int1 (by rfl) T.int PyProof.Rows.boot_int (pa_cons (pe_ix ix_list (pv 0) pe_int (fun _ _ => rfl)) pa_nil)) (pv 1)))
        (pss_cons (ps_asg (pe_op op_fdivW (pe_ix ix_list (pv 0) pe_int (fun _ _ => rfl)) (pv 1)) (pg_sub (pv 0) pe_int set_list))
        (pss_one (ps_ret (pv 2))))) pss_nil)
      (pss_cons (ps_asg (pe_op op_add (pe_ix ix_list (pv 0) pe_int (fun _ _ => rfl)) pe_int) (pg_sub (pv 0) pe_int set_list))
      (pss_cons (ps_set (i := 3) scR.nd rfl (Or.inl rfl) (pe_op op_modN (pe_callTy call_int1 (by rfl) T.int PyProof.Rows.boot_int (pa_cons (pe_op op_add (pe_ix ix_list (pv 0) pe_int (fun _ _ => rfl)) (pe_op op_mul pe_int (pe_ix ix_list (pv 0) pe_int (fun _ _ => rfl)))) pa_nil)) pe_int))
      (pss_cons (ps_set (i := 4) scR.nd rfl (Or.inl rfl) (pe_op op_add (pe_op op_mul (pe_op op_modN (pe_callTy call_int1 (by rfl) T.int PyProof.Rows.boot_int (pa_cons (pe_op op_mul (pv 3) (pv 3)) pa_nil)) pe_int) (pv 3)) (pe_op op_mul pe_int (pe_ix ix_list (pv 0) pe_int (fun _ _ => rfl)))))
      (pss_cons (ps_set (i := 4) scR.nd rfl (Or.inl rfl) (pe_op op_modN (pe_callTy call_int1 (by rfl) T.int PyProof.Rows.boot_int (pa_cons (pv 4) pa_nil)) pe_int))
      (pss_one (ps_ret (pe_op op_modN (pe_callTy call_int1 (by rfl) T.int PyProof.Rows.boot_int (pa_cons (pe_op op_fdiv (pv 4) pe_int) pa_nil)) (pv 1)))))))), ?_⟩
    refine ⟨_, rfl, p, _, 0, _, rfl, rfl, .of hp, atI_nat (j := 0) rfl, _, _, rfl, rfl, _, rfl, ?_⟩
    refine ite2 (fun hgt => ?_) (fun hle => ?_)
    · refine ⟨_, rfl, p, _, 0, _, rfl, rfl, .of hp, atI_nat (j := 0) rfl, .inl ⟨_, rfl, _, rfl, _, _, rfl, rfl, (show n ≠ 0 by omega), ?_⟩⟩
      refine ⟨_, rfl, p, _, 0, _, rfl, rfl, .of hp, atI_nat (j := 0) rfl, _, rfl, _, _, rfl, rfl, wide_div hn (b := 40) (by omega) (by decide) (by decide), _, rfl, p, _, _, 0, rfl, rfl, hp, rfl, _, rfl, ?_⟩
      exact k _ _ _ _ (fmod_in hn).1 (fmod_in hn).2 (Int.ediv_nonneg ha (by omega))
    · refine ⟨_, rfl, p, _, 2, _, rfl, rfl, .of hp, atI_nat (j := 2) rfl, _, _, rfl, rfl, _, rfl, p, _, _, 2, rfl, rfl, hp, rfl, ?_⟩
      have hp2 : upd H p (HO.lst [V.int a, V.int b, V.int (c + 1)]) p = some (HO.lst [V.int a, V.int b, V.int (c + 1)]) := upd_same
      refine ⟨_, rfl, p, _, 1, _, rfl, rfl, .of hp2, atI_nat (j := 1) rfl, _, rfl, p, _, 2, _, rfl, rfl, .of hp2, atI_nat (j := 2) rfl, _, _, rfl, rfl, .inl ⟨by decide, by decide⟩, _, _, rfl, rfl, .inl ⟨_, rfl, _, _, rfl, rfl, (show (2305843009213693951 : Int) ≠ 0 by decide), ?_⟩⟩
      refine ⟨_, rfl, _, rfl, _, _, rfl, rfl, mul_left_ok (by decide) (by decide), .inl ⟨_, rfl, _, _, rfl, rfl, (show (2305843009213693921 : Int) ≠ 0 by decide), _, rfl, _, _, rfl, rfl, mul_left_ok (by decide) (by decide),
        _, rfl, p, _, 2, _, rfl, rfl, .of hp2, atI_nat (j := 2) rfl, _, _, rfl, rfl, .inl ⟨by decide, by decide⟩, _, _, rfl, rfl, ?_⟩⟩
      refine ⟨_, rfl, .inl ⟨_, rfl, _, _, rfl, rfl, (show (2305843009213693907 : Int) ≠ 0 by decide), ?_⟩⟩
      refine ⟨_, rfl, _, _, rfl, rfl, ⟨by decide, by decide⟩, .inl ⟨_, rfl, _, rfl, _, _, rfl, rfl, (show n ≠ 0 by omega), ?_⟩⟩
      exact k _ _ _ _ (fmod_in hn).1 (fmod_in hn).2 ha
/-! ### one of a list, a text, a number -/
structure TxD (K : PySem.W.Frag) (mg : Str → Option Value) (P : Program) (w : World) (base : Heap) : Prop extends TxB K mg where
  roll : ∃ f fd, mg "_law_roll" = some (.ref f) ∧ PySem.W.keepIn K (.ref f) = true ∧ Binds K fd ["_law_dice_here", "_law_total"] [] ∧ FnOk P w K mg base CX0 1 f fd ["_law_dice_here", "_law_total"] spRoll
def spOne : Sp := fun vs H Q _ => ∃ (p l : Addr) (xs : List V), vs = [.ref p, .ref l] ∧ DiceAt H p ∧ H l = some (.lst xs) ∧ l ≠ p ∧ 0 < xs.length ∧ xs.length < 1000 ∧
  ∀ (i : Nat) (x : V) (a b c : Int), xs[i]? = some x → 0 ≤ a → Q x (upd H p (.lst [.int a, .int b, .int c]))
theorem scO : FnScope ["_law_dice_here", "_law_items"] ["_law_dice_here", "_law_items"] (defScope sOne) := ⟨rfl, rfl, rfl, by decide +kernel, rfl, by decide +kernel, by decide +kernel⟩
theorem ok_one {f : Addr} {fd : FuncData} (F : Fun K "_law_one_of" "_law_one_of" sOne f fd) (T : TxD K mg P w base) : FnOk P w K mg base CX0 2 f fd ["_law_dice_here", "_law_items"] spOne := by
  obtain ⟨fR, fdR, mR, kR, bR, GR⟩ := T.roll
  refine F.ok scO (fun vs H Q E h => ?_) (fun cdv A outer s H vs Q E hr h => ?_)
  · obtain ⟨p, l, xs, rfl, _⟩ := h
    rfl
  · obtain ⟨p, l, xs, rfl, ⟨a, b, c, hp, ha⟩, hl, hne, h0, h1, k⟩ := h
    refine ⟨_, pss_one (ps_ret (pe_ix ix_list (pv 1) (pe_call GR hr (by rfl) mR kR bR .nil pass0 (pa_cons (pv 0) (pa_cons (pe_callB call_len_seq (by rfl) T.len PySem.boot_len (pa_cons (pv 1) pa_nil)) pa_nil))) (fun _ _ => rfl))), ?_⟩
    refine ⟨_, rfl, _, rfl, _, rfl, l, _, rfl, .inl (SqL.of hl), p, _, a, b, c, rfl, hp, ha, by omega, by omega, fun r x y z h2 h3 h4 => ?_⟩
    obtain ⟨j, rfl⟩ : ∃ j : Nat, r = (j : Int) := ⟨r.toNat, by omega⟩
    have hj : j < xs.length := by omega
    exact ⟨l, _, j, xs[j], rfl, rfl, SqL.of (by rw [upd_ne hne]; exact hl), atI_nat (List.getElem?_eq_getElem hj), k j _ _ _ _ (List.getElem?_eq_getElem hj) h4⟩

structure TxE (K : PySem.W.Frag) (mg : Str → Option Value) (P : Program) (w : World) (base : Heap) : Prop extends TxD K mg P w base where
  one : ∃ f fd, mg "_law_one_of" = some (.ref f) ∧ PySem.W.keepIn K (.ref f) = true ∧ Binds K fd ["_law_dice_here", "_law_items"] [] ∧ FnOk P w K mg base CX0 2 f fd ["_law_dice_here", "_law_items"] spOne
end
end Dc

/-! The small defs: names, numbers. -/
namespace Rd
open PySem PySem.Spec PyProof.Rows L2 Tq Dn Dc
theorem same_new {H : Hp} {p : Addr} {o : HO} (h : H p = none) : Same H (upd H p o) := fun b u e => by (rw [upd_ne (ne_of_none e h)]; exact e)
theorem same_to {H H' : Hp} {p : Addr} {o : HO} (hp : H p = none) (h : Same H H') : Same H (upd H' p o) := fun b u e => by rw [upd_ne (ne_of_none e hp)]; exact h b u e
theorem same_keep {H H' : Hp} {p : Addr} (h : Same H H') : Keep p H H' := fun b o _ e => h b o e
/-- a list is being filled at D: what stands elsewhere is kept -/
theorem off_seq {K : PySem.W.Frag} {D a : Addr} {H H' : Hp} {l xs : List V} (hD : H D = some (.lst l)) (k : Keep D H H') (h : SqT K H a xs) : SqT K H' a xs := by
  rcases h with (h | ⟨o, h⟩) | h
  · exact .inl (.inl (k a _ (fun e => by subst e; rw [hD] at h; cases h) h))
  · exact .inl (.inr ⟨o, k a _ (fun e => by subst e; rw [hD] at h; cases h) h⟩)
  · exact .inr h
/-- what is said of the list at D, i turns done -/
def Fil (H1 : Hp) (D : Addr) (P : Nat → List V → Hp → Prop) (i : Nat) (H : Hp) : Prop := Same H1 H ∧ ∃ acc, H D = some (.lst acc) ∧ P i acc H
/-- .. where one more item y is put -/
def Put (H1 : Hp) (D : Addr) (P : Nat → List V → Hp → Prop) (i : Nat) (y : V) (H : Hp) : Prop := ∃ acc, H D = some (.lst acc) ∧ acc.length < sizeLine ∧ Fil H1 D P i (upd H D (.lst (acc ++ [y])))
def Off (D : Addr) (P : Nat → List V → Hp → Prop) : Prop := ∀ i acc l H H', H D = some (.lst l) → Keep D H H' → P i acc H → P i acc H'
theorem put_of {H1 H H4 : Hp} {D : Addr} {P : Nat → List V → Hp → Prop} {i : Nat} {y : V} {acc : List V} (nD : H1 D = none) (off : Off D P) (s : Same H1 H) (e : H D = some (.lst acc)) (s4 : Same H H4) (l : acc.length < sizeLine) (p : P i (acc ++ [y]) H4) : Put H1 D P i y H4 :=
  ⟨acc, s4 _ _ e, l, same_to nD (s.trans s4), acc ++ [y], upd_same, off _ _ acc _ _ (s4 _ _ e) keep_upd p⟩
theorem fil_of {H1 H H4 : Hp} {D : Addr} {P : Nat → List V → Hp → Prop} {i : Nat} {acc : List V} (s : Same H1 H) (e : H D = some (.lst acc)) (s4 : Same H H4) (p : P i acc H4) : Fil H1 D P i H4 := ⟨s.trans s4, acc, s4 _ _ e, p⟩
/-- a comprehension over a walk -/
theorem lc_fil {J : It} {n : Nat} {G : Hp → Prop} {Y : Nat → Hp → V → Hp → Prop} (w : Walk J n G Y) {g : TG} {tt : TT} {te : TE} {vs : List Nat} {σ : L2.St} {H1 : Hp} {D : Addr} {Qd : Hp → Prop} (nD : H1 D = none) (P : Nat → List V → Hp → Prop)
    (p0 : P 0 [] (upd H1 D (.lst []))) (hG : ∀ H, Same H1 H → G H)
    (hs : ∀ i x acc H H', i < n → Same H1 H → H D = some (.lst acc) → P i acc H → Y i H x H' → g x (wipe σ vs) H' fun σ2 H2 => wipe σ2 vs = wipe σ vs ∧ tt σ2 H2 fun b H3 =>
      if b = true then te σ2 H3 fun y H4 => Put H1 D P (i + 1) y H4 else Fil H1 D P (i + 1) H3)
    (hd : ∀ acc H, Same H1 H → H D = some (.lst acc) → P n acc H → Qd H) :
    ∃ W : Nat → Nat → Hp → Prop, (∃ m, W 0 m (upd H1 D (.lst []))) ∧ ∀ i m H, W i m H →
      (J.stop i H ∧ Qd H) ∨ (J.go i H ∧ ∃ Nx : Hp → Prop, (∀ H', Nx H' → ∃ m', m' < m ∧ W (i + 1) m' H') ∧ ∀ x H', J.yld i H x H' → g x (wipe σ vs) H' fun σ2 H2 => wipe σ2 vs = wipe σ vs ∧ tt σ2 H2 fun b H3 =>
        if b = true then te σ2 H3 fun y H4 => ∃ acc, H4 D = some (.lst acc) ∧ acc.length < sizeLine ∧ Nx (upd H4 D (.lst (acc ++ [y]))) else Nx H3) :=
  lc_it w (Fil H1 D P) ⟨same_new nD, [], upd_same, p0⟩ (fun i H _ z => hG H z.1) (fun i x H H' hi ⟨s, acc, e, p⟩ y => hs i x acc H H' hi s e p y) fun H ⟨s, acc, e, p⟩ => hd acc H s e p
/-! ### the text -/
abbrev sName : Stmt := top 2
abbrev sAsc : Stmt := top 5
abbrev sWhole : Stmt := top 6
abbrev sNumb : Stmt := top 7
abbrev sWithin : Stmt := top 8
abbrev sNames : Stmt := top 40
abbrev sLine : Stmt := top 41
abbrev sPairs : Stmt := top 42
/-- the built-ins that are not names of the module -/
structure TxM (K : PySem.W.Frag) (mg : Str → Option Value) : Prop extends TxB K mg where
  all : mg "all" = none
  isi : mg "isinstance" = none
  str : mg "str" = none
  bool : mg "bool" = none
  tuple : mg "tuple" = none
  sorted : mg "sorted" = none
  set : mg "set" = none
  min : mg "min" = none
  enum : mg "enumerate" = none
  dict : mg "dict" = none
  repr : mg "repr" = none
/-! ### kinds of data -/
def tyD : PyData → String
  | .none => "NoneType"
  | .bool _ => "bool"
  | .int _ => "int"
  | .str _ => "str"
  | .list _ => "list"
  | .tuple _ => "tuple"
  | .dict _ => "dict"
theorem dp_ty {K : PySem.W.Frag} {H : Hp} {v : V} {d : PyData} (h : Dp K H v d) : TyX K H v (.type (tyD d)) := by
  cases h with
  | non => exact .base .non
  | bl b => exact .base (.bl b)
  | int i => exact .base (.int i)
  | str x => exact .base (.str x)
  | lst h a =>
    rcases h with (h | ⟨o, h⟩) | ⟨o, its, n, h1, h2, _⟩
    · exact .base (.lst h)
    · exact .base (.frz h)
    · exact .kList h1 h2
  | tup h a =>
    rcases h with (h | ⟨o, h⟩) | ⟨o, its, n, h1, h2, _⟩
    · exact .base (.tup h)
    · exact .fTuple h
    · exact .kTuple h1 h2
def isD (t : String) (d : PyData) : Bool := decide (tyD d = t)
def tys : List String := ["NoneType", "bool", "int", "str", "list", "tuple", "dict"]
theorem mem_ty (d : PyData) : tyD d ∈ tys := by cases d <;> simp [tyD, tys]
theorem kit_str (d : PyData) : kitB (tyD d) "str" = some (isD "str" d) := (by decide +kernel : ∀ t ∈ tys, kitB t "str" = some (decide (t = "str"))) _ (mem_ty d)
theorem kit_tup (d : PyData) : kitB (tyD d) "tuple" = some (isD "tuple" d) := (by decide +kernel : ∀ t ∈ tys, kitB t "tuple" = some (decide (t = "tuple"))) _ (mem_ty d)
theorem kit_bool (d : PyData) : kitB (tyD d) "bool" = some (isD "bool" d) := (by decide +kernel : ∀ t ∈ tys, kitB t "bool" = some (decide (t = "bool"))) _ (mem_ty d)
theorem kit_int (d : PyData) : kitB (tyD d) "int" = some (isD "int" d || isD "bool" d) := (by decide +kernel : ∀ t ∈ tys, kitB t "int" = some (decide (t = "int") || decide (t = "bool"))) _ (mem_ty d)
theorem isD_str {d : PyData} : isD "str" d = true → ∃ x, d = .str x := by intro h; cases d <;> first | exact ⟨_, rfl⟩ | (exact absurd h (by simp [isD, tyD]))
theorem isD_tup {d : PyData} : isD "tuple" d = true → ∃ x, d = .tuple x := by intro h; cases d <;> first | exact ⟨_, rfl⟩ | (exact absurd h (by simp [isD, tyD]))
theorem isD_int {d : PyData} : isD "int" d = true → ∃ x, d = .int x := by intro h; cases d <;> first | exact ⟨_, rfl⟩ | (exact absurd h (by simp [isD, tyD]))
/-! ### promises -/
def spName (K : PySem.W.Frag) : Sp := fun vs H Q _ => ∃ v d, vs = [v] ∧ Dp K H v d ∧ (∀ s, d = .str s → s.cps.size < sizeLine) ∧ ∀ H', Same H H' → Q (.bl (nameD d)) H'
section
variable {P : Program} {w : World} {K : PySem.W.Frag} {mg : Str → Option Value} {base : Heap}
theorem scNm : FnScope ["value", "letter"] ["value"] (defScope sName) := ⟨rfl, rfl, rfl, by decide +kernel, rfl, by decide +kernel, by decide +kernel⟩
theorem letter_lo (c : Nat) : (!decide ((⟨#[c]⟩ : Str).cps.toList < (("a" : Str)).cps.toList)) = decide (97 ≤ c) := by
  show (!decide ([c] < [97])) = _
  rw [← ltCps_eq, Bool.eq_iff_iff]
  simp [ltCps]
theorem letter_hi (c : Nat) : (!decide (((("z" : Str)).cps.toList) < (⟨#[c]⟩ : Str).cps.toList)) = decide (c ≤ 122) := by
  show (!decide ([122] < [c])) = _
  rw [← ltCps_eq, Bool.eq_iff_iff]
  simp [ltCps]
theorem ok_name {f : Addr} {fd : FuncData} (F : Fun K "is_name" "is_name" sName f fd) (T : TxM K mg) : FnOk P w K mg base CX0 1 f fd ["value"] (spName K) := by
  refine F.ok scNm (fun vs H Q E h => ?_) (fun cdv A outer s H vs Q E hr h => ?_)
  · obtain ⟨v, d, rfl, _⟩ := h; rfl
  · obtain ⟨v, d, rfl, hd, hz, k⟩ := h
    refine ⟨_, pss_cons (ps_if (PW.pt (pw_or (pt_not (pt_val (pe_callB call_isi (by rfl) T.isi PyProof.Rows.boot_isinstance (pa_cons (pv 0) (pa_cons (pe_bltn (v := .ty "str") (by rfl) T.str (by decide +kernel) rfl) pa_nil)))))
        (pw_or1 (pt_not (pt_chain op_le op_le pe_int (pe_callB call_len_str (by rfl) T.len PySem.boot_len (pa_cons (pv 0) pa_nil)) pe_int))))) (pss_one (ps_ret pe_bl)) pss_nil)
      (pss_one (ps_ret (pe_callB (cr_all rfl) (by rfl) T.all (by decide +kernel) (pa_cons (pe_lc (own := [("letter", 1)]) (g := gName 1) (tt := tYes) rfl scNm.nd (pi_str (pv 0))
        (blkOk_by (N := ["value", "letter"]) (sc := defScope sName) (by decide +kernel)) (fun _ _ _ _ _ => pg_name (i := 1) scNm.nd rfl (Or.inl rfl)) (fun _ _ _ _ _ => pts_nil)
        (fun _ _ _ _ _ => pe_chain op_le_str op_le_str pe_str (pv 1) pe_str)) pa_nil)))), ?_⟩
    refine ⟨_, rfl, v, .ty "str", .type (tyD d), .type "str", isD "str" d, rfl, .ty _, dp_ty hd, kit_ty (kit_str d), _, rfl, ?_⟩
    cases hs : isD "str" d with
    | false =>
      refine iteT (iteT ?_)
      have e : nameD d = false := by cases d <;> first | rfl | (exact absurd hs (by simp [isD, tyD]))
      have := k H (Same.refl H)
      rw [e] at this
      exact this
    | true =>
      obtain ⟨x, rfl⟩ := isD_str hs
      cases hd
      have hx : x.cps.size < sizeLine := hz x rfl
      refine iteF ?_
      refine ⟨_, rfl, x, rfl, Nat.le_of_lt hx, _, _, rfl, rfl, _, rfl, ?_⟩
      have low : decide (1 ≤ (x.length : Int)) = decide (1 ≤ x.length) := by simp; omega
      have hgh : decide ((x.length : Int) ≤ 8) = decide (x.length ≤ 8) := by simp; omega
      rw [low]
      refine ite2 (fun h1 => ?_) (fun h1 => ?_)
      · refine ⟨_, _, rfl, rfl, _, rfl, ?_⟩
        show (if (!decide ((x.length : Int) ≤ 8)) = true then _ else _)
        rw [hgh]
        refine ite2 (fun h2 => ?_) (fun h2 => ?_)
        · have := k H (Same.refl H)
          have e : nameD (.str x) = false := by
            show nameS x = false
            unfold nameS
            rw [(by simpa using h2 : decide (x.length ≤ 8) = false)]; simp
          rw [e] at this
          exact this
        · refine ⟨_, rfl, x, rfl, fun D hD => ?_⟩
          have hlen : ∀ i, ((x.cps.toList.take i).map fun c => V.bl (decide (97 ≤ c) && decide (c ≤ 122))).length ≤ x.cps.size := fun i => by rw [List.length_map, List.length_take, Array.length_toList]; omega
          refine lc_fil walk_str hD (fun i acc _ => acc = (x.cps.toList.take i).map fun c => V.bl (decide (97 ≤ c) && decide (c ≤ 122))) (by simp) (fun _ _ => trivial) ?_ ?_
          · rintro i v acc H2 H3 hi s2 e2 rfl ⟨rfl, c, hc, rfl⟩
            refine ⟨rfl, tt_yes ?_⟩
            have nx : x.cps.toList.take (i + 1) = x.cps.toList.take i ++ [c] := by rw [List.take_add_one, Array.getElem?_toList, hc]; rfl
            have off : Off D (fun i acc (_ : Hp) => acc = (x.cps.toList.take i).map fun c => V.bl (decide (97 ≤ c) && decide (c ≤ 122))) := fun _ _ _ _ _ _ _ z => z
            refine ⟨_, rfl, _, _, rfl, rfl, _, rfl, ?_⟩
            rw [letter_lo]
            have step : ∀ b : Bool, b = (decide (97 ≤ c) && decide (c ≤ 122)) → Put H D (fun i acc (_ : Hp) => acc = (x.cps.toList.take i).map fun c => V.bl (decide (97 ≤ c) && decide (c ≤ 122))) (i + 1) (.bl b) H3 := fun b hb =>
              put_of hD off s2 e2 (Same.refl _) (Nat.lt_of_le_of_lt (hlen i) hx) (by rw [nx, List.map_append, hb]; rfl)
            refine ite2 (fun h3 => ?_) (fun h3 => ?_)
            · refine ⟨_, _, rfl, rfl, ?_⟩
              rw [letter_hi]
              exact step _ (by rw [h3]; simp)
            · exact step _ (by rw [(by simpa using h3 : decide (97 ≤ c) = false)]; simp)
          · rintro acc H2 s2 e2 rfl
            refine ⟨D, (x.cps.toList.map fun c => decide (97 ≤ c) && decide (c ≤ 122)), rfl, SqL.of (by rw [e2, ← Array.length_toList, List.take_length, List.map_map]; rfl), ?_⟩
            have e : nameD (.str x) = ((x.cps.toList.map fun c => decide (97 ≤ c) && decide (c ≤ 122)).all id) := by
              show nameS x = _
              unfold nameS
              rw [h1, (by simpa using h2 : decide (x.length ≤ 8) = true), List.all_map]; rfl
            rw [← e]
            exact k _ s2
      · refine ⟨_, rfl, ?_⟩
        refine iteT ?_
        have := k H (Same.refl H)
        have e : nameD (.str x) = false := by
          show nameS x = false
          unfold nameS
          rw [(by simpa using h1 : decide (1 ≤ x.length) = false)]; simp
        rw [e] at this
        exact this
end
end Rd

namespace Rd
open PySem PySem.Spec PyProof.Rows L2 Tq Dn Dc
def posD : PyData → Bool
  | .int i => decide (0 ≤ i)
  | _ => false
abbrev Small (ds : List PyData) : Prop := ∀ s, PyData.str s ∈ ds → s.cps.size < sizeLine
def spWhole (K : PySem.W.Frag) : Sp := fun vs H Q _ => ∃ v d, vs = [v] ∧ Dp K H v d ∧ Q (.bl (isD "int" d)) H
def spNumb (K : PySem.W.Frag) : Sp := fun vs H Q _ => ∃ v d, vs = [v] ∧ Dp K H v d ∧ Q (.bl (posD d)) H
def spWithin (K : PySem.W.Frag) : Sp := fun vs H Q _ => ∃ v d m, vs = [v, .int m] ∧ Dp K H v d ∧ Q (.bl (numD d m)) H
def spNames (K : PySem.W.Frag) : Sp := fun vs H Q _ => ∃ a xs ds, vs = [.ref a] ∧ SqT K H a xs ∧ DpAll K H xs ds ∧ Small ds ∧ ds.length ≤ 100 ∧ ∀ H', Same H H' → Q (.bl (ds.all nameD)) H'
/-- a def of the module, with its promise -/
abbrev Has (P : Program) (w : World) (K : PySem.W.Frag) (mg : Str → Option Value) (base : Heap) (x : Str) (k : Nat) (ps : List Str) (sp : Sp) : Prop :=
  ∃ f fd, mg x = some (.ref f) ∧ PySem.W.keepIn K (.ref f) = true ∧ Binds K fd ps [] ∧ FnOk P w K mg base CX0 k f fd ps sp
section
variable {P : Program} {w : World} {K : PySem.W.Frag} {mg : Str → Option Value} {base : Heap}
theorem scWh : FnScope ["value"] ["value"] (defScope sWhole) := ⟨rfl, rfl, rfl, by decide +kernel, rfl, by decide +kernel, by decide +kernel⟩
theorem ok_whole {f : Addr} {fd : FuncData} (F : Fun K "is_whole_number" "is_whole_number" sWhole f fd) (T : TxM K mg) : FnOk P w K mg base CX0 1 f fd ["value"] (spWhole K) := by
  refine F.ok scWh (fun vs H Q E h => ?_) (fun cdv A outer s H vs Q E hr h => ?_)
  · obtain ⟨v, d, rfl, _⟩ := h; rfl
  · obtain ⟨v, d, rfl, hd, k⟩ := h
    refine ⟨_, pss_one (ps_ret (pe_and (pe_callB call_isi (by rfl) T.isi PyProof.Rows.boot_isinstance (pa_cons (pv 0) (pa_cons (pe_bltn (v := .ty "int") (by rfl) T.int (by decide +kernel) rfl) pa_nil)))
      (pe_one (pe_not (pe_callB call_isi (by rfl) T.isi PyProof.Rows.boot_isinstance (pa_cons (pv 0) (pa_cons (pe_bltn (v := .ty "bool") (by rfl) T.bool (by decide +kernel) rfl) pa_nil))))))), ?_⟩
    refine ⟨_, rfl, v, .ty "int", .type (tyD d), .type "int", _, rfl, .ty _, dp_ty hd, kit_ty (kit_int d), _, rfl, ?_⟩
    have e : ∀ a b : Bool, (isD "int" d = (a && !b)) → (a = (isD "int" d || isD "bool" d)) → (b = isD "bool" d) → True := fun _ _ _ _ _ => trivial
    cases h1 : isD "int" d with
    | true =>
      have h2 : isD "bool" d = false := by obtain ⟨i, rfl⟩ := isD_int h1; rfl
      refine iteT ⟨_, rfl, v, .ty "bool", .type (tyD d), .type "bool", _, rfl, .ty _, dp_ty hd, kit_ty (kit_bool d), _, rfl, ?_⟩
      rw [h2]; rw [h1] at k; exact k
    | false =>
      rw [h1] at k
      cases h2 : isD "bool" d with
      | true =>
        refine iteT ⟨_, rfl, v, .ty "bool", .type (tyD d), .type "bool", _, rfl, .ty _, dp_ty hd, kit_ty (kit_bool d), _, rfl, ?_⟩
        rw [h2]; exact k
      | false => exact iteF k
/-- one of two readings -/
def tOr2 (a b : TE) : TE := fun σ H Q => a σ H Q ∨ b σ H Q
theorem pe_or2 {X : Cx} {e : Expr} {ta tb : TE} (a : PE X e ta) (b : PE X e tb) : PE X e (tOr2 ta tb) := ⟨fun pins s σ H Q I h => h.elim (a.run pins s σ H Q I) (b.run pins s σ H Q I)⟩
def spNameD : Sp := fun vs H Q _ => ∃ b kvs, vs = [.ref b] ∧ H b = some (.dK kvs) ∧ Q (.bl false) H
theorem ok_nameD {f : Addr} {fd : FuncData} (F : Fun K "is_name" "is_name" sName f fd) (T : TxM K mg) : FnOk P w K mg base CX0 1 f fd ["value"] spNameD := by
  refine F.ok scNm (fun vs H Q E h => ?_) (fun cdv A outer s H vs Q E hr h => ?_)
  · obtain ⟨b, kvs, rfl, _⟩ := h; rfl
  · obtain ⟨b, kvs, rfl, hb, k⟩ := h
    refine ⟨_, pss_cons (ps_if (PW.pt (pw_or (pt_not (pt_val (pe_callB call_isi (by rfl) T.isi PyProof.Rows.boot_isinstance (pa_cons (pv 0) (pa_cons (pe_bltn (v := .ty "str") (by rfl) T.str (by decide +kernel) rfl) pa_nil)))))
        (pw_or1 (pt_not (pt_chain op_le op_le pe_int (pe_callB call_len_str (by rfl) T.len PySem.boot_len (pa_cons (pv 0) pa_nil)) pe_int))))) (pss_one (ps_ret pe_bl)) pss_nil)
      (pss_one (ps_ret (pe_callB (cr_all rfl) (by rfl) T.all (by decide +kernel) (pa_cons (pe_lc (own := [("letter", 1)]) (g := gName 1) (tt := tYes) rfl scNm.nd (pi_str (pv 0))
        (blkOk_by (N := ["value", "letter"]) (sc := defScope sName) (by decide +kernel)) (fun _ _ _ _ _ => pg_name (i := 1) scNm.nd rfl (Or.inl rfl)) (fun _ _ _ _ _ => pts_nil)
        (fun _ _ _ _ _ => pe_chain op_le_str op_le_str pe_str (pv 1) pe_str)) pa_nil)))), ?_⟩
    refine ⟨_, rfl, .ref b, .ty "str", .type "dict", .type "str", false, rfl, .ty _, .base (.dK hb), kit_ty (by decide +kernel), _, rfl, ?_⟩
    exact iteT (iteT k)
/-- what the small defs need -/
structure TxN (K : PySem.W.Frag) (mg : Str → Option Value) (P : Program) (w : World) (base : Heap) : Prop extends TxM K mg where
  whole : Has P w K mg base "is_whole_number" 1 ["value"] (spWhole K)
  numb : Has P w K mg base "is_number" 2 ["value"] (spNumb K)
  within_ : Has P w K mg base "is_number_within" 3 ["value", "most"] (spWithin K)
  name : Has P w K mg base "is_name" 1 ["value"] (spName K)
  nameD : Has P w K mg base "is_name" 1 ["value"] spNameD
theorem scNb : FnScope ["value"] ["value"] (defScope sNumb) := ⟨rfl, rfl, rfl, by decide +kernel, rfl, by decide +kernel, by decide +kernel⟩
theorem ok_numb {f : Addr} {fd : FuncData} (F : Fun K "is_number" "is_number" sNumb f fd) (hw : Has P w K mg base "is_whole_number" 1 ["value"] (spWhole K)) : FnOk P w K mg base CX0 2 f fd ["value"] (spNumb K) := by
  obtain ⟨g, gd, mG, kG, bG, GG⟩ := hw
  refine F.ok scNb (fun vs H Q E h => ?_) (fun cdv A outer s H vs Q E hr h => ?_)
  · obtain ⟨v, d, rfl, _⟩ := h; rfl
  · obtain ⟨v, d, rfl, hd, k⟩ := h
    refine ⟨_, pss_one (ps_ret (pe_and (pe_call GG hr (by rfl) mG kG bG .nil pass0 (pa_cons (pv 0) pa_nil)) (pe_one (pe_cmpR op_ge (pv 0) pe_int (nomark _))))), ?_⟩
    refine ⟨_, rfl, v, d, rfl, hd, _, rfl, ?_⟩
    cases h1 : isD "int" d with
    | true =>
      obtain ⟨i, rfl⟩ := isD_int h1
      cases hd
      refine iteT ⟨_, rfl, _, _, rfl, rfl, ?_⟩
      exact k
    | false =>
      have e : posD d = false := by cases d <;> first | rfl | (exact absurd h1 (by simp [isD, tyD]))
      rw [e] at k
      exact iteF k
theorem scWi : FnScope ["value", "most"] ["value", "most"] (defScope sWithin) := ⟨rfl, rfl, rfl, by decide +kernel, rfl, by decide +kernel, by decide +kernel⟩
theorem ok_within {f : Addr} {fd : FuncData} (F : Fun K "is_number_within" "is_number_within" sWithin f fd) (hw : Has P w K mg base "is_number" 2 ["value"] (spNumb K)) : FnOk P w K mg base CX0 3 f fd ["value", "most"] (spWithin K) := by
  obtain ⟨g, gd, mG, kG, bG, GG⟩ := hw
  refine F.ok scWi (fun vs H Q E h => ?_) (fun cdv A outer s H vs Q E hr h => ?_)
  · obtain ⟨v, d, m, rfl, _⟩ := h; rfl
  · obtain ⟨v, d, m, rfl, hd, k⟩ := h
    refine ⟨_, pss_one (ps_ret (pe_and (pe_call GG hr (by rfl) mG kG bG .nil pass0 (pa_cons (pv 0) pa_nil)) (pe_one (pe_cmpR op_le (pv 0) (pv 1) (nomark _))))), ?_⟩
    refine ⟨_, rfl, v, d, rfl, hd, _, rfl, ?_⟩
    cases h1 : posD d with
    | true =>
      obtain ⟨i, rfl⟩ : ∃ i, d = .int i := by cases d <;> first | exact ⟨_, rfl⟩ | (exact absurd h1 (by simp [posD]))
      cases hd
      have e : numD (.int i) m = decide (i ≤ m) := by
        show (decide (0 ≤ i) && decide (i ≤ m)) = _
        rw [(show decide (0 ≤ i) = true from h1), Bool.true_and]
      rw [e] at k
      exact iteT ⟨_, rfl, _, rfl, _, _, rfl, rfl, k⟩
    | false =>
      have e : numD d m = false := by
        cases d <;> first | rfl | skip
        rename_i i
        show (decide (0 ≤ i) && decide (i ≤ m)) = false
        rw [(show decide (0 ≤ i) = false from h1), Bool.false_and]
      rw [e] at k
      exact iteF k
theorem scNs : FnScope ["values", "value"] ["values"] (defScope sNames) := ⟨rfl, rfl, rfl, by decide +kernel, rfl, by decide +kernel, by decide +kernel⟩
theorem ok_names {f : Addr} {fd : FuncData} (F : Fun K "are_names" "are_names" sNames f fd) (T : TxN K mg P w base) : FnOk P w K mg base CX0 2 f fd ["values"] (spNames K) := by
  obtain ⟨g, gd, mG, kG, bG, GG⟩ := T.name
  refine F.ok scNs (fun vs H Q E h => ?_) (fun cdv A outer s H vs Q E hr h => ?_)
  · obtain ⟨a, xs, ds, rfl, _⟩ := h; rfl
  · obtain ⟨a, xs, ds, rfl, ha, hd, hz, hn, k⟩ := h
    refine ⟨_, pss_one (ps_ret (pe_callB (cr_all rfl) (by rfl) T.all PyProof.Rows.boot_all (pa_cons (pe_lc (own := [("value", 1)]) (g := gName 1) (tt := tYes) rfl scNs.nd (pi_tup (pv 0))
        (blkOk_by (N := ["values", "value"]) (sc := defScope sNames) (by decide +kernel)) (fun _ _ _ _ _ => pg_name (i := 1) scNs.nd rfl (Or.inl rfl)) (fun _ _ _ _ _ => pts_nil)
        (fun _ _ _ _ _ => pe_call GG hr (by rfl) mG kG bG .nil pass0 (pa_cons (pv 1) pa_nil))) pa_nil))), ?_⟩
    have hl := dpAll_len hd
    refine ⟨_, rfl, a, rfl, ⟨_, ha⟩, fun D hD => ?_⟩
    have off : Off D (fun i acc (_ : Hp) => acc = (ds.take i).map fun d => V.bl (nameD d)) := fun _ _ _ _ _ _ _ z => z
    refine lc_fil walk_tup hD (fun i acc _ => acc = (ds.take i).map fun d => V.bl (nameD d)) (by simp) (fun H' s' => sqT_up ha s') ?_ ?_
    · rintro i v acc H2 H3 hi s2 e2 rfl ⟨rfl, hv⟩
      obtain ⟨d, hdi, hdv⟩ := dpAll_get hd hv
      refine ⟨rfl, tt_yes ?_⟩
      refine ⟨_, rfl, v, d, rfl, dp_up s2 hdv, fun s e => hz s (e ▸ List.mem_of_getElem? hdi), fun H4 s4 => ?_⟩
      refine put_of hD off s2 e2 s4 ?_ (by rw [List.take_add_one, hdi, List.map_append]; rfl)
      rw [List.length_map, List.length_take]
      rw [sizeLine_eq]
      omega
    · rintro acc H2 s2 e2 rfl
      refine ⟨D, ds.map nameD, rfl, SqL.of (by rw [e2, hl, List.take_length, List.map_map]; rfl), ?_⟩
      have e : (ds.map nameD).all id = ds.all nameD := by rw [List.all_map]; rfl
      rw [e]
      exact k _ s2
/-- names of which the first is none, the second a dict -/
def spNames3 (K : PySem.W.Frag) : Sp := fun vs H Q _ => ∃ (a b : Addr) (u : V) (d : PyData) (kvs : List (Key × V)), vs = [.ref a] ∧ SqT K H a [u, .ref b] ∧ Dp K H u d ∧ nameD d = false ∧ (∀ s, d = .str s → s.cps.size < sizeLine) ∧ H b = some (.dK kvs) ∧ ∀ H', Same H H' → Q (.bl false) H'
theorem ok_names3 {f : Addr} {fd : FuncData} (F : Fun K "are_names" "are_names" sNames f fd) (T : TxN K mg P w base) : FnOk P w K mg base CX0 2 f fd ["values"] (spNames3 K) := by
  obtain ⟨g, gd, mG, kG, bG, GG⟩ := T.name
  obtain ⟨g2, gd2, mG2, kG2, bG2, GG2⟩ := T.nameD
  refine F.ok scNs (fun vs H Q E h => ?_) (fun cdv A outer s H vs Q E hr h => ?_)
  · obtain ⟨a, b, u, d, kvs, rfl, _⟩ := h; rfl
  · obtain ⟨a, b, u, d, kvs, rfl, ha, hu, hd, hz, hb, k⟩ := h
    have e1 : g2 = g := by have := mG2.symm.trans mG; cases this; rfl
    subst e1
    refine ⟨_, pss_one (ps_ret (pe_callB (cr_all rfl) (by rfl) T.all PyProof.Rows.boot_all (pa_cons (pe_lc (own := [("value", 1)]) (g := gName 1) (tt := tYes) rfl scNs.nd (pi_tup (pv 0))
        (blkOk_by (N := ["values", "value"]) (sc := defScope sNames) (by decide +kernel)) (fun _ _ _ _ _ => pg_name (i := 1) scNs.nd rfl (Or.inl rfl)) (fun _ _ _ _ _ => pts_nil)
        (fun _ _ _ _ _ => pe_or2 (pe_call GG hr (by rfl) mG kG bG .nil pass0 (pa_cons (pv 1) pa_nil)) (pe_call GG2 hr (by rfl) mG2 kG2 bG2 .nil pass0 (pa_cons (pv 1) pa_nil)))) pa_nil))), ?_⟩
    refine ⟨_, rfl, a, rfl, ⟨_, ha⟩, fun D hD => ?_⟩
    have off : Off D (fun i acc (_ : Hp) => acc = ([V.bl false, V.bl false] : List V).take i) := fun _ _ _ _ _ _ _ z => z
    refine lc_fil walk_tup hD (fun i acc _ => acc = ([V.bl false, V.bl false] : List V).take i) rfl (fun H' s' => sqT_up ha s') ?_ ?_
    · rintro i v acc H2 H3 hi s2 e2 rfl ⟨rfl, hv⟩
      refine ⟨rfl, tt_yes ?_⟩
      match i, hv with
      | 0, hv =>
        obtain rfl : u = v := Option.some.inj hv
        refine Or.inl ⟨_, rfl, u, d, rfl, dp_up s2 hu, hz, fun H4 s4 => ?_⟩
        rw [hd]
        exact put_of hD off s2 e2 s4 (by rw [sizeLine_eq]; decide) rfl
      | 1, hv =>
        obtain rfl : V.ref b = v := Option.some.inj hv
        refine Or.inr ⟨_, rfl, b, kvs, rfl, s2 _ _ hb, ?_⟩
        exact put_of hD off s2 e2 (Same.refl _) (by rw [sizeLine_eq]; decide) rfl
    · rintro acc H2 s2 e2 rfl
      refine ⟨D, [false, false], rfl, SqL.of e2, ?_⟩
      exact k _ s2
end
end Rd

namespace Rd
open PySem PySem.Spec PyProof.Rows L2 Tq Dn Dc
/-- all texts of a tuple's data are short, and it has few items -/
def Mod_ (d : PyData) : Prop := ∀ ds, d = .tuple ds → Small ds ∧ ds.length ≤ 100
def spLine (K : PySem.W.Frag) : Sp := fun vs H Q _ => ∃ v m, vs = [v, .int m] ∧
  ((∃ d, Dp K H v d ∧ SeqAt.shaped d = true ∧ Mod_ d ∧ ∀ H', Same H H' → Q (.bl (lineD d m)) H') ∨ (TyX K H v (.type "dict") ∧ Q (.bl false) H) ∨
   (∃ (a b : Addr) (u : V) (d : PyData) (kvs : List (Key × V)), v = .ref a ∧ SqT K H a [.str "read", u, .ref b] ∧ Dp K H u d ∧ nameD d = false ∧ (∀ s, d = .str s → s.cps.size < sizeLine) ∧ H b = some (.dK kvs) ∧ ∀ H', Same H H' → Q (.bl false) H'))
structure TxL (K : PySem.W.Frag) (mg : Str → Option Value) (P : Program) (w : World) (base : Heap) : Prop extends TxN K mg P w base where
  names : Has P w K mg base "are_names" 2 ["values"] (spNames K)
  names3 : Has P w K mg base "are_names" 2 ["values"] (spNames3 K)
theorem cut13 (xs : List V) : cutV xs (some 1) (some 3) = (xs.drop (min 1 xs.length)).take (min 3 xs.length - min 1 xs.length) := by
  unfold cutV
  rw [show HT.sIx xs.length 0 (some (1 : Int)) = min 1 xs.length from HT.sIx_nat _ _ 1, show HT.sIx xs.length xs.length (some (3 : Int)) = min 3 xs.length from HT.sIx_nat _ _ 3]
theorem cut1 (xs : List V) : cutV xs (some 1) none = (xs.drop (min 1 xs.length)).take (xs.length - min 1 xs.length) := by
  unfold cutV
  rw [show HT.sIx xs.length 0 (some (1 : Int)) = min 1 xs.length from HT.sIx_nat _ _ 1, HT.sIx_none]
theorem shaped_str {x : Str} (h : PyData.strOk x = true) : SeqAt.shaped (.str x) = true := by
  show (PyData.canLay0 (.str x) && decide (PyData.depth (.str x) ≤ 64)) = true
  simp [PyData.canLay0, PyData.depth, h]
theorem shaped_go : SeqAt.shaped (.str "go") = true := shaped_str w_ok.1
theorem shaped_if : SeqAt.shaped (.str "if") = true := shaped_str w_ok.2.1
theorem lay_rl : PyData.canLayAll0 [.str "read", .str "look"] = true := by simp [PyData.canLayAll0, PyData.canLay0, w_ok.2.2.1, w_ok.2.2.2]
theorem eqVN {n m : Nat} : decide (V.int (n : Int) = V.int (m : Int)) = decide (n = m) := by
  by_cases h : n = m
  · rw [h]; simp
  · rw [decide_eq_false h, decide_eq_false fun e => h (by have := V.int.inj e; omega)]
section
variable {P : Program} {w : World} {K : PySem.W.Frag} {mg : Str → Option Value} {base : Heap}
theorem scLi : FnScope ["value", "many", "word"] ["value", "many"] (defScope sLine) := ⟨rfl, rfl, rfl, by decide +kernel, rfl, by decide +kernel, by decide +kernel⟩
theorem ok_line {f : Addr} {fd : FuncData} (F : Fun K "is_line" "is_line" sLine f fd) (T : TxL K mg P w base) : FnOk P w K mg base CX0 4 f fd ["value", "many"] (spLine K) := by
  obtain ⟨g, gd, mG, kG, bG, GG⟩ := T.within_
  obtain ⟨n, nd, mN, kN, bN, GN⟩ := T.names
  obtain ⟨n3, nd3, mN3, kN3, bN3, GN3⟩ := T.names3
  refine F.ok scLi (fun vs H Q E h => ?_) (fun cdv A outer s H vs Q E hr h => ?_)
  · obtain ⟨v, m, rfl, _⟩ := h; rfl
  · obtain ⟨v, m, rfl, h⟩ := h
    have hu := hr.units
    have hu65 : (A.deeper (envOfC (Str.ofString "is_line") (defScope sLine) s.heap.objs.size f cdv)).units + 65 < cLine := by have := hr.un; omega
    have hr2 := hr.mono (show 2 ≤ 3 by decide)
    refine ⟨_, pss_cons (ps_if (PW.pt (pw_or (pt_not (pt_val (pe_callB call_isi (by rfl) T.isi PyProof.Rows.boot_isinstance (pa_cons (pv 0) (pa_cons (pe_bltn (v := .ty "tuple") (by rfl) T.tuple PyProof.Rows.boot_tuple rfl) pa_nil)))))
        (pw_or1 (pt_cmpR op_lt (pe_callB call_len_seq (by rfl) T.len PySem.boot_len (pa_cons (pv 0) pa_nil)) pe_int (nomark _))))) (pss_one (ps_ret pe_bl)) pss_nil)
      (pss_cons (ps_set (i := 2) scLi.nd rfl (Or.inl rfl) (pe_ix ix_tup (pv 0) pe_int (fun _ _ => rfl)))
      (pss_cons (ps_if (pt_cmpR (op_eqD hu) (pv 2) pe_str (nomark _)) (pss_one (ps_ret (pe_and (pe_cmpR op_eq (pe_callB call_len_seq (by rfl) T.len PySem.boot_len (pa_cons (pv 0) pa_nil)) pe_int (nomark _))
        (pe_one (pe_call GG hr (by rfl) mG kG bG .nil pass0 (pa_cons (pe_ix ix_tup (pv 0) pe_int (fun _ _ => rfl)) (pa_cons (pv 1) pa_nil))))))) pss_nil)
      (pss_cons (ps_if (pt_cmpR (op_eqD hu) (pv 2) pe_str (nomark _)) (pss_one (ps_ret (pe_and (pe_cmpR op_eq (pe_callB call_len_seq (by rfl) T.len PySem.boot_len (pa_cons (pv 0) pa_nil)) pe_int (nomark _))
        (pe_and (pe_call GN hr2 (by rfl) mN kN bN .nil pass0 (pa_cons (pe_slice sl_tup (pv 0) (po_some pe_int) (po_some pe_int)) pa_nil))
        (pe_one (pe_call GG hr (by rfl) mG kG bG .nil pass0 (pa_cons (pe_ix ix_tup (pv 0) pe_int (fun _ _ => rfl)) (pa_cons (pv 1) pa_nil)))))))) pss_nil)
      (pss_one (ps_ret (pe_and (pe_cmpR (op_inDT hu65) (pv 2) (pe_tup (pa_cons pe_str (pa_cons pe_str pa_nil))) (by rfl))
        (pe_and (pe_cmpR op_eq (pe_callB call_len_seq (by rfl) T.len PySem.boot_len (pa_cons (pv 0) pa_nil)) pe_int (nomark _))
        (pe_one (pe_or2 (pe_call GN hr2 (by rfl) mN kN bN .nil pass0 (pa_cons (pe_slice sl_tup (pv 0) (po_some pe_int) po_none) pa_nil)) (pe_call GN3 hr2 (by rfl) mN3 kN3 bN3 .nil pass0 (pa_cons (pe_slice sl_tup (pv 0) (po_some pe_int) po_none) pa_nil))))))))))), ?_⟩
    rcases (show (_ ∨ _) ∨ _ from h.symm) with (⟨ty, k⟩ | ⟨a, b, u, d, kvs, rfl, ha, hud, hnd, hz, hb, k⟩) | ⟨d, hd, hs, hm, k⟩
    · refine ⟨_, rfl, v, .ty "tuple", .type "dict", .type "tuple", false, rfl, .ty _, ty, kit_ty (by decide +kernel), _, rfl, ?_⟩
      exact iteT (iteT k)
    · have hds : SqT K H a [.str "read", u, .ref b] := ha
      have nf1 : PyData.eqv (.str "read") (.str "go") = false := by rw [eqv_str]; decide +kernel
      have nf2 : PyData.eqv (.str "read") (.str "if") = false := by rw [eqv_str]; decide +kernel
      have shr : SeqAt.shaped (.str "read") = true := shaped_str w_ok.2.2.2
      refine ⟨_, rfl, .ref a, .ty "tuple", .type "tuple", .type "tuple", true, rfl, .ty _, ?_, kit_ty (by decide +kernel), _, rfl, iteF ?_⟩
      · rcases ha with (h | ⟨o, h⟩) | ⟨o, its, n, h1, h2, _⟩
        · exact .base (.tup h)
        · exact .fTuple h
        · exact .kTuple h1 h2
      refine ⟨_, rfl, a, _, rfl, .inr ha, _, _, rfl, rfl, _, rfl, iteF ?_⟩
      refine ⟨_, rfl, a, _, _, .str "read", rfl, rfl, ha, atI_nat (j := 0) rfl, ?_⟩
      refine ⟨_, rfl, .str "read", _, .str _, .str _, shr, shaped_go, _, rfl, ?_⟩
      rw [nf1]
      refine iteF ⟨_, rfl, .str "read", _, .str _, .str _, shr, shaped_if, _, rfl, ?_⟩
      rw [nf2]
      refine iteF ?_
      refine ⟨_, rfl, (by show 2 ≤ sizeLine; decide), fun t nt => ?_⟩
      have sn := same_new (o := HO.tup [V.str "read", V.str "look"]) nt
      refine ⟨.str "read", [.str "read", .str "look"], .str _, .tup (SqT.of upd_same) (.cons (.str _) (.cons (.str _) .nil)), shr, lay_rl, _, rfl, ?_⟩
      rw [Bool.bne_false, show ([PyData.str "read", PyData.str "look"].any fun e => PyData.eqv e (.str "read")) = true by simp [eqv_str]]
      refine iteT ⟨_, rfl, a, _, rfl, .inr (sqT_up ha sn), rfl, _, rfl, iteT ?_⟩
      have ct : cutV [.str "read", u, .ref b] (some 1) none = [u, .ref b] := by rw [cut1]; rfl
      refine Or.inr ⟨_, rfl, _, rfl, a, _, rfl, sqT_up ha sn, ?_, fun p np => ?_⟩
      · rw [show HT.sIx [V.str "read", u, V.ref b].length 0 (some (1 : Int)) = min 1 3 from HT.sIx_nat _ _ 1]
        exact fun z => absurd z.1 (by decide)
      rw [ct]
      have sn2 := same_new (o := HO.tup [u, V.ref b]) np
      exact ⟨p, b, u, d, kvs, rfl, SqT.of upd_same, dp_up (sn.trans sn2) hud, hnd, hz, sn2 _ _ (sn _ _ hb), fun H' s' => k H' ((sn.trans sn2).trans s')⟩
    refine ⟨_, rfl, v, .ty "tuple", .type (tyD d), .type "tuple", isD "tuple" d, rfl, .ty _, dp_ty hd, kit_ty (kit_tup d), _, rfl, ?_⟩
    cases h1 : isD "tuple" d with
    | false =>
      refine iteT (iteT ?_)
      have e : lineD d m = false := by cases d <;> first | rfl | (exact absurd h1 (by simp [isD, tyD]))
      have := k H (Same.refl H)
      rw [e] at this
      exact this
    | true =>
      obtain ⟨ds, rfl⟩ := isD_tup h1
      obtain ⟨hz, hn⟩ := hm ds rfl
      cases hd with
      | @tup a xs _ ha hds =>
        have hl := dpAll_len hds
        refine iteF ?_
        refine ⟨_, rfl, a, _, rfl, .inr ha, _, _, rfl, rfl, _, rfl, ?_⟩
        have e0 : decide ((xs.length : Int) < 2) = decide (ds.length < 2) := by rw [hl]; simp; omega
        rw [e0]
        refine ite2 (fun h2 => ?_) (fun h2 => ?_)
        · have e : lineD (.tuple ds) m = false := by show (if ds.length < 2 then false else _) = false; rw [if_pos (of_decide_eq_true h2)]
          have := k H (Same.refl H)
          rw [e] at this
          exact this
        · have h2 : 2 ≤ ds.length := by have := of_decide_eq_false (by simpa using h2 : decide (ds.length < 2) = false); omega
          have e : lineD (.tuple ds) m = lineT ds m := by show (if ds.length < 2 then false else _) = _; rw [if_neg (by omega)]
          rw [e] at k
          obtain ⟨x0, hx0⟩ : ∃ x, xs[0]? = some x := ⟨xs[0], List.getElem?_eq_getElem (by omega)⟩
          obtain ⟨x1, hx1⟩ : ∃ x, xs[1]? = some x := ⟨xs[1], List.getElem?_eq_getElem (by omega)⟩
          obtain ⟨d0, hd0, p0⟩ := dpAll_get hds hx0
          obtain ⟨d1, hd1, p1⟩ := dpAll_get hds hx1
          have s0 := shaped_at hs hd0
          have g0 : ds.getD 0 .none = d0 := by rw [List.getD_eq_getElem?_getD, hd0]; rfl
          have g1 : ds.getD 1 .none = d1 := by rw [List.getD_eq_getElem?_getD, hd1]; rfl
          have ln : ∀ m : Nat, decide (V.int (xs.length : Int) = V.int (m : Int)) = decide (ds.length = m) := fun m => by rw [hl]; exact eqVN
          refine ⟨_, rfl, a, _, _, x0, rfl, rfl, ha, atI_nat (j := 0) hx0, ?_⟩
          refine ⟨_, rfl, d0, _, p0, .str _, s0, shaped_go, _, rfl, ite2 (fun c1 => ?_) (fun c1 => ?_)⟩
          · have L : lineT ds m = (decide (ds.length = 2) && numD d1 m) := by unfold lineT; rw [g0, if_pos c1, g1]
            rw [L] at k
            refine ⟨_, rfl, a, _, rfl, .inr ha, rfl, _, rfl, ?_⟩
            rw [show decide (V.int (xs.length : Int) = V.int 2) = decide (ds.length = 2) from ln 2]
            refine ite2 (fun c2 => ?_) (fun c2 => ?_)
            · refine ⟨_, rfl, a, _, _, x1, rfl, rfl, ha, atI_nat (j := 1) hx1, _, rfl, x1, d1, m, rfl, p1, ?_⟩
              have := k H (Same.refl H)
              rwa [c2, Bool.true_and] at this
            · have := k H (Same.refl H)
              rwa [Bool.not_eq_true _ |>.mp c2, Bool.false_and] at this
          refine ⟨_, rfl, d0, _, p0, .str _, s0, shaped_if, _, rfl, ite2 (fun c2 => ?_) (fun c2 => ?_)⟩
          · have L : lineT ds m = (decide (ds.length = 4) && ((((ds.drop 1).take 2).all nameD) && numD (ds.getD 3 .none) m)) := by unfold lineT; rw [g0, if_neg c1, if_pos c2]
            rw [L] at k
            refine ⟨_, rfl, a, _, rfl, .inr ha, rfl, _, rfl, ?_⟩
            rw [show decide (V.int (xs.length : Int) = V.int 4) = decide (ds.length = 4) from ln 4]
            refine ite2 (fun c3 => ?_) (fun c3 => ?_)
            · have h4 : ds.length = 4 := of_decide_eq_true c3
              obtain ⟨x3, hx3⟩ : ∃ x, xs[3]? = some x := ⟨xs[3], List.getElem?_eq_getElem (by omega)⟩
              obtain ⟨d3, hd3, p3⟩ := dpAll_get hds hx3
              have g3 : ds.getD 3 .none = d3 := by rw [List.getD_eq_getElem?_getD, hd3]; rfl
              have ct : cutV xs (some 1) (some 3) = (xs.drop 1).take 2 := by rw [cut13, hl, h4]; rfl
              refine ⟨_, rfl, _, rfl, _, rfl, a, _, rfl, ha, ?_, fun p np => ?_⟩
              · rw [show HT.sIx xs.length 0 (some (1 : Int)) = min 1 xs.length from HT.sIx_nat _ _ 1, hl, h4]
                exact fun z => absurd z.1 (by decide)
              · rw [ct]
                have sn := same_new (o := HO.tup ((xs.drop 1).take 2)) np
                refine ⟨p, _, (ds.drop 1).take 2, rfl, SqT.of upd_same, dpAll_up sn (dpAll_take 2 (dpAll_drop 1 hds)), fun s hs => hz s (List.mem_of_mem_drop (List.mem_of_mem_take hs)), by rw [List.length_take]; omega, fun H' s' => ?_⟩
                have s2 := sn.trans s'
                refine ⟨_, rfl, ite2 (fun c4 => ?_) (fun c4 => ?_)⟩
                · refine ⟨_, rfl, a, _, _, x3, rfl, rfl, sqT_up ha s2, atI_nat (j := 3) hx3, _, rfl, x3, d3, m, rfl, dp_up s2 p3, ?_⟩
                  have := k H' s2
                  rwa [c3, c4, g3, Bool.true_and, Bool.true_and] at this
                · have := k H' s2
                  rwa [c3, Bool.not_eq_true _ |>.mp c4, Bool.false_and, Bool.and_false] at this
            · have := k H (Same.refl H)
              rwa [Bool.not_eq_true _ |>.mp c3, Bool.false_and] at this
          · have L : lineT ds m = (([PyData.str "read", PyData.str "look"].any fun e => PyData.eqv e d0) && (decide (ds.length = 3) && (ds.drop 1).all nameD)) := by unfold lineT; rw [g0, if_neg c1, if_neg c2]; rfl
            rw [L] at k
            refine ⟨_, rfl, (by show 2 ≤ sizeLine; decide), fun t nt => ?_⟩
            have sn := same_new (o := HO.tup [V.str "read", V.str "look"]) nt
            refine ⟨d0, [.str "read", .str "look"], dp_up sn p0, .tup (SqT.of upd_same) (.cons (.str _) (.cons (.str _) .nil)), s0, lay_rl, _, rfl, ?_⟩
            rw [Bool.bne_false]
            refine ite2 (fun c3 => ?_) (fun c3 => ?_)
            · refine ⟨_, rfl, a, _, rfl, .inr (sqT_up ha sn), rfl, _, rfl, ?_⟩
              rw [show decide (V.int (xs.length : Int) = V.int 3) = decide (ds.length = 3) from ln 3]
              refine ite2 (fun c4 => ?_) (fun c4 => ?_)
              · have h3 : ds.length = 3 := of_decide_eq_true c4
                have ct : cutV xs (some 1) none = xs.drop 1 := by rw [cut1, hl, h3, List.take_of_length_le (by rw [List.length_drop, hl, h3]; decide)]; rfl
                refine Or.inl ⟨_, rfl, _, rfl, a, _, rfl, sqT_up ha sn, ?_, fun p np => ?_⟩
                · rw [show HT.sIx xs.length 0 (some (1 : Int)) = min 1 xs.length from HT.sIx_nat _ _ 1, hl, h3]
                  exact fun z => absurd z.1 (by decide)
                · rw [ct]
                  have sp := same_new (o := HO.tup (xs.drop 1)) np
                  refine ⟨p, _, ds.drop 1, rfl, SqT.of upd_same, dpAll_up (sn.trans sp) (dpAll_drop 1 hds), fun s hs => hz s (List.mem_of_mem_drop hs), by rw [List.length_drop]; omega, fun H' s' => ?_⟩
                  have := k H' ((sn.trans sp).trans s')
                  rwa [c3, c4, Bool.true_and, Bool.true_and] at this
              · have := k _ sn
                rwa [c3, Bool.not_eq_true _ |>.mp c4, Bool.false_and, Bool.and_false] at this
            · have := k _ sn
              rwa [Bool.not_eq_true _ |>.mp c3, Bool.false_and] at this
end
end Rd

namespace Rd
open PySem PySem.Spec PyProof.Rows L2 Tq Dn Dc
abbrev RowsL := List (Addr × Ln)
/-- a tuple of such lines stands at L -/
def LinesAt (K : PySem.W.Frag) (H : Hp) (L : Addr) (rs : RowsL) : Prop := SqT K H L (rs.map fun r => .ref r.1) ∧ ∀ r ∈ rs, SqT K H r.1 r.2.vs
theorem LinesAt.up {K : PySem.W.Frag} {H H' : Hp} {L : Addr} {rs : RowsL} (h : LinesAt K H L rs) (s : Same H H') : LinesAt K H' L rs := ⟨sqT_up h.1 s, fun r hr => sqT_up (h.2 r hr) s⟩
theorem ln_dp {K : PySem.W.Frag} {H : Hp} {a : Addr} {l : Ln} (h : SqT K H a l.vs) : Dp K H (.ref a) l.d := by
  cases l with
  | go n => exact .tup h (.cons (.str _) (.cons (.int _) .nil))
  | ift t p n => exact .tup h (.cons (.str _) (.cons (.str _) (.cons (.str _) (.cons (.int _) .nil))))
  | look t p => exact .tup h (.cons (.str _) (.cons (.str _) (.cons (.str _) .nil)))
  | read t p => exact .tup h (.cons (.str _) (.cons (.str _) (.cons (.str _) .nil)))
theorem lns_dp {K : PySem.W.Frag} {H : Hp} : ∀ {rs : RowsL}, (∀ r ∈ rs, SqT K H r.1 r.2.vs) → DpAll K H (rs.map fun r => .ref r.1) ((rs.map Prod.snd).map Ln.d)
  | [], _ => .nil
  | r :: rs, h => .cons (ln_dp (h r List.mem_cons_self)) (lns_dp fun q hq => h q (.tail _ hq))
theorem LinesAt.dp {K : PySem.W.Frag} {H : Hp} {L : Addr} {rs : RowsL} (h : LinesAt K H L rs) : Dp K H (.ref L) (dls (rs.map Prod.snd)) := .tup h.1 (lns_dp h.2)
/-- a tuple of these pairs stands at p -/
def PairsAt (K : PySem.W.Frag) (H : Hp) (p : Addr) (ps : List (List Str)) : Prop := ∃ rs : List (Row Str), rs.map Prod.snd = ps ∧ SqT K H p (rs.map fun r => .ref r.1) ∧ TupsX K H rs
theorem tupsX_up {K : PySem.W.Frag} {H H' : Hp} {rs : List (Row Str)} (h : TupsX K H rs) (s : Same H H') : TupsX K H' rs := fun r hr => sqT_up (h r hr) s
theorem PairsAt.up {K : PySem.W.Frag} {H H' : Hp} {p : Addr} {ps : List (List Str)} (h : PairsAt K H p ps) (s : Same H H') : PairsAt K H' p ps :=
  let ⟨rs, e, a, b⟩ := h; ⟨rs, e, sqT_up a s, tupsX_up b s⟩
theorem strs_dp {K : PySem.W.Frag} {H : Hp} : ∀ k : List Str, DpAll K H (k.map V.str) (k.map PyData.str)
  | [] => .nil
  | x :: k => .cons (.str x) (strs_dp k)
theorem pairs_dp {K : PySem.W.Frag} {H : Hp} : ∀ {rs : List (Row Str)}, TupsX K H rs → DpAll K H (rs.map fun r => .ref r.1) ((rs.map Prod.snd).map pD)
  | [], _ => .nil
  | r :: rs, h => .cons (.tup (h r List.mem_cons_self) (strs_dp _)) (pairs_dp fun q hq => h q (.tail _ hq))
theorem PairsAt.dp {K : PySem.W.Frag} {H : Hp} {p : Addr} {ps : List (List Str)} (h : PairsAt K H p ps) : Dp K H (.ref p) (pDs ps) := by
  obtain ⟨rs, rfl, a, b⟩ := h
  exact .tup a (pairs_dp b)
def spAscX (K : PySem.W.Frag) : Sp := fun vs H Q _ => ∃ (l : Addr) (ks : List (Row Str)), vs = [.ref l] ∧ SqL K H l (ks.map fun r => V.ref r.1) ∧ TupsX K H ks ∧ ks.length < 64 ∧ (∀ r ∈ ks, r.2 ≠ []) ∧
  ∀ H' p ps, Same H H' → H p = none → Asc (ks.map Prod.snd) ps → PairsAt K H' p ps → Q (.ref p) H'
def spAscS (K : PySem.W.Frag) : Sp := fun vs H Q _ => ∃ (l : Addr) (ks : List Str), vs = [.ref l] ∧ SqL K H l (ks.map V.str) ∧ ks.length < 64 ∧
  ∀ H' p ts, Same H H' → H p = none → AscS ks ts → ts.length ≤ ks.length → H' p = some (.tup (ts.map V.str)) → Q (.ref p) H'
def spPairs (K : PySem.W.Frag) : Sp := fun vs H Q _ => ∃ (L W : Addr) (rs : RowsL) (ws : List Str), vs = [.ref L, .ref W] ∧ LinesAt K H L rs ∧ SqT K H W (ws.map V.str) ∧ ("go" : Str) ∉ ws ∧ rs.length < 64 ∧
  ∀ H' p ps, Same H H' → H p = none → Asc (keysOf ws (rs.map Prod.snd)) ps → PairsAt K H' p ps → Q (.ref p) H'
section
variable {P : Program} {w : World} {K : PySem.W.Frag} {mg : Str → Option Value} {base : Heap}
theorem scAs : FnScope ["values"] ["values"] (defScope sAsc) := ⟨rfl, rfl, rfl, by decide +kernel, rfl, by decide +kernel, by decide +kernel⟩
theorem ok_ascX {f : Addr} {fd : FuncData} (F : Fun K "ascending" "ascending" sAsc f fd) (T : TxM K mg) : FnOk P w K mg base CX0 1 f fd ["values"] (spAscX K) := by
  refine F.ok scAs (fun vs H Q E h => ?_) (fun cdv A outer s H vs Q E hr h => ?_)
  · obtain ⟨l, ks, rfl, _⟩ := h; rfl
  · obtain ⟨l, ks, rfl, hl, hk, few, ne, k⟩ := h
    refine ⟨_, pss_one (ps_ret (pe_callTy call_tuple_of (by rfl) T.tuple PyProof.Rows.boot_tuple (pa_cons (pe_callB (cr_sortX rfl) (by rfl) T.sorted PyProof.Rows.boot_sorted (pa_cons (pe_callTy (cr_setX rfl hr.units) (by rfl) T.set PyProof.Rows.boot_set (pa_cons (pv 0) pa_nil)) pa_nil)) pa_nil))), ?_⟩
    refine ⟨_, rfl, l, ks, rfl, hl, hk, few, fun a L na hof hto => ?_⟩
    have s1 := same_new (o := SetX P w a L) na
    refine ⟨a, L, rfl, upd_same, fun r hr => sqT_up (hk r (hof r hr)) s1, fun r hr => ne r (hof r hr), fun L' p pm few' up np => ?_⟩
    have s2 := s1.trans (same_new (o := HO.lst (L'.map fun r => V.ref r.1)) np)
    refine ⟨p, _, rfl, .inl ⟨SqL.of upd_same, fun q nq => ?_⟩⟩
    have s3 := s2.trans (same_new (o := HO.tup (L'.map fun r => V.ref r.1)) nq)
    refine k _ q (L'.map Prod.snd) s3 (s2.free nq) ⟨?_, fun x => ?_⟩ ⟨L', rfl, SqT.of upd_same, fun r hr => sqT_up (hk r (hof r (pm.mem_iff.mp hr))) s3⟩
    · rw [List.pairwise_map] at up ⊢; exact up
    · rw [(pm.map Prod.snd).mem_iff]
      constructor
      · intro z
        obtain ⟨r, hr, rfl⟩ := List.mem_map.mp z
        exact List.mem_map_of_mem (hof r hr)
      · intro z
        obtain ⟨r, hr, rfl⟩ := List.mem_map.mp z
        exact hto r hr
theorem ok_ascS {f : Addr} {fd : FuncData} (F : Fun K "ascending" "ascending" sAsc f fd) (T : TxM K mg) : FnOk P w K mg base CX0 1 f fd ["values"] (spAscS K) := by
  refine F.ok scAs (fun vs H Q E h => ?_) (fun cdv A outer s H vs Q E hr h => ?_)
  · obtain ⟨l, ks, rfl, _⟩ := h; rfl
  · obtain ⟨l, ks, rfl, hl, few, k⟩ := h
    refine ⟨_, pss_one (ps_ret (pe_callTy call_tuple_of (by rfl) T.tuple PyProof.Rows.boot_tuple (pa_cons (pe_callB (cr_sortT rfl) (by rfl) T.sorted PyProof.Rows.boot_sorted (pa_cons (pe_callTy (cr_setT rfl) (by rfl) T.set PyProof.Rows.boot_set (pa_cons (pv 0) pa_nil)) pa_nil)) pa_nil))), ?_⟩
    refine ⟨_, rfl, l, ks, rfl, hl, few, fun a L na hm hn => ?_⟩
    have s1 := same_new (o := SetT P w a L) na
    refine ⟨a, L, rfl, upd_same, by omega, fun L' p pm up np => ?_⟩
    have s2 := s1.trans (same_new (o := HO.lst (L'.map V.str)) np)
    refine ⟨p, _, rfl, .inl ⟨SqL.of upd_same, fun q nq => ?_⟩⟩
    exact k _ q L' (s2.trans (same_new nq)) (s2.free nq) ⟨up, fun x => by rw [pm.mem_iff, hm]⟩ (by rw [pm.length_eq]; exact hn) upd_same
theorem inV_strs (x : Str) : ∀ ws : List Str, inV (.str x) (ws.map V.str) = ws.contains x
  | [] => rfl
  | y :: ws => by
    have ih := inV_strs x ws
    show (eqV (.str y) (.str x) || inV (.str x) (ws.map V.str)) = _
    rw [ih, List.contains_cons]
    congr 1
    show (y == x) = (x == y)
    exact BEq.comm
theorem flat_strs : ∀ ws : List Str, (ws.map V.str).all flatV = true
  | [] => rfl
  | _ :: ws => flat_strs ws
theorem ln_word (l : Ln) : l.vs[0]? = some (.str l.word) := by cases l <;> rfl
theorem ln_cut {l : Ln} (h : l.word ≠ "go") : cutV l.vs (some 1) (some 3) = l.key.map V.str := by
  cases l with
  | go n => exact absurd rfl h
  | ift t p n => rw [cut13]; rfl
  | look t p => rw [cut13]; rfl
  | read t p => rw [cut13]; rfl
theorem ln_part {l : Ln} : ¬ (HT.sIx l.vs.length 0 (some 1) = 0 ∧ HT.sIx l.vs.length l.vs.length (some 3) = l.vs.length) := by
  rw [show HT.sIx l.vs.length 0 (some (1 : Int)) = min 1 l.vs.length from HT.sIx_nat _ _ 1]
  intro z
  have := z.1
  cases l <;> simp [Ln.vs] at this
theorem ln_key {l : Ln} (h : l.word ≠ "go") : l.key ≠ [] := by cases l <;> first | exact absurd rfl h | exact fun z => nomatch z
structure TxP (K : PySem.W.Frag) (mg : Str → Option Value) (P : Program) (w : World) (base : Heap) : Prop extends TxL K mg P w base where
  line : Has P w K mg base "is_line" 4 ["value", "many"] (spLine K)
  ascX : Has P w K mg base "ascending" 1 ["values"] (spAscX K)
  ascS : Has P w K mg base "ascending" 1 ["values"] (spAscS K)
theorem scPa : FnScope ["lines", "words", "line"] ["lines", "words"] (defScope sPairs) := ⟨rfl, rfl, rfl, by decide +kernel, rfl, by decide +kernel, by decide +kernel⟩
theorem ok_pairs {f : Addr} {fd : FuncData} (F : Fun K "pairs_of" "pairs_of" sPairs f fd) (T : TxP K mg P w base) : FnOk P w K mg base CX0 2 f fd ["lines", "words"] (spPairs K) := by
  obtain ⟨g, gd, mG, kG, bG, GG⟩ := T.ascX
  refine F.ok scPa (fun vs H Q E h => ?_) (fun cdv A outer s H vs Q E hr h => ?_)
  · obtain ⟨L, W, rs, ws, rfl, _⟩ := h; rfl
  · obtain ⟨L, W, rs, ws, rfl, hL, hW, hg, few, k⟩ := h
    refine ⟨_, pss_one (ps_ret (pe_call GG hr (by rfl) mG kG bG .nil pass0 (pa_cons (pe_lc (own := [("line", 2)]) (g := gName 2) (tt := tTest (tOp (rIn K false) (tOp (rIxT K) (tVar 2) (tC (.int 0))) (tVar 1))) (te := tSl (rSlT K) (tVar 2) (tPart (tC (.int 1))) (tPart (tC (.int 3)))) rfl scPa.nd (pi_tup (pv 0))
        (blkOk_by (N := ["lines", "words", "line"]) (sc := defScope sPairs) (by decide +kernel)) (fun _ _ _ _ _ => pg_name (i := 2) scPa.nd rfl (Or.inl rfl))
        (fun _ _ _ _ _ => pts_one (pt_cmpR op_in_seq (pe_ix ix_tup (pv 2) pe_int (fun _ _ => rfl)) (pv 1) (by rfl)))
        (fun _ _ _ _ _ => pe_slice sl_tup (pv 2) (po_some pe_int) (po_some pe_int))) pa_nil))), ?_⟩
    refine ⟨_, rfl, L, rfl, ⟨_, hL.1⟩, fun D hD => ?_⟩
    have off : Off D (fun i acc H' => ∃ ks : List (Row Str), acc = (ks.map fun r => V.ref r.1) ∧ TupsX K H' ks ∧ ks.map Prod.snd = keysOf ws ((rs.take i).map Prod.snd)) :=
      fun i acc l H2 H3 e kp ⟨ks, z1, z2, z3⟩ => ⟨ks, z1, fun r hr => off_seq e kp (z2 r hr), z3⟩
    refine lc_fil walk_tup hD (fun i acc H' => ∃ ks : List (Row Str), acc = (ks.map fun r => V.ref r.1) ∧ TupsX K H' ks ∧ ks.map Prod.snd = keysOf ws ((rs.take i).map Prod.snd)) ⟨[], rfl, fun r z => (by cases z), rfl⟩ (fun H' s' => sqT_up hL.1 s') ?_ ?_
    · rintro i v acc H2 H3 hi s2 e2 ⟨ks, rfl, hks, ek⟩ ⟨rfl, hv⟩
      rw [List.getElem?_map] at hv
      obtain ⟨r, hri, rfl⟩ := Option.map_eq_some_iff.mp hv
      have hr := sqT_up (hL.2 r (List.mem_of_getElem? hri)) s2
      have nx : (rs.take (i + 1)).map Prod.snd = (rs.take i).map Prod.snd ++ [r.2] := by rw [List.take_add_one, hri, List.map_append]; rfl
      have kx : keysOf ws ((rs.take (i + 1)).map Prod.snd) = keysOf ws ((rs.take i).map Prod.snd) ++ keysOf ws [r.2] := by rw [nx]; unfold keysOf; rw [List.filter_append, List.map_append]
      refine ⟨rfl, ?_⟩
      refine ⟨_, rfl, r.1, _, _, _, rfl, rfl, hr, atI_nat (j := 0) (ln_word r.2), _, rfl, W, _, rfl, .inr (sqT_up hW s2), rfl, flat_strs ws, _, rfl, ?_⟩
      show (if inV (.str r.2.word) (ws.map V.str) = true then _ else _)
      rw [inV_strs]
      refine ite2 (fun c => ?_) (fun c => ?_)
      · have hw : r.2.word ≠ "go" := fun e => hg (by rw [← e]; exact List.contains_iff_mem.mp c)
        refine ⟨_, rfl, _, rfl, _, rfl, r.1, _, rfl, hr, ln_part, fun p np => ?_⟩
        rw [ln_cut hw]
        have sn := same_new (o := HO.tup (r.2.key.map V.str)) np
        refine put_of hD off s2 e2 sn ?_ ⟨ks ++ [(p, r.2.key)], by rw [List.map_append]; rfl, fun q hq => ?_, ?_⟩
        · rw [List.length_map]
          have h1 : ks.length ≤ i := by
            have h2 := congrArg List.length ek
            rw [List.length_map] at h2
            rw [h2]
            unfold keysOf
            rw [List.length_map]
            refine Nat.le_trans (List.length_filter_le _ _) ?_
            rw [List.length_map, List.length_take]
            omega
          rw [List.length_map] at hi
          rw [sizeLine_eq]; omega
        · rcases List.mem_append.mp hq with z | z
          · exact sqT_up (hks q z) sn
          · rw [List.mem_singleton.mp z]; exact SqT.of upd_same
        · rw [List.map_append, ek, kx]
          congr 1
          show [r.2.key] = ([r.2].filter fun l => ws.contains l.word).map Ln.key
          rw [List.filter_cons_of_pos (by exact c)]; rfl
      · refine fil_of s2 e2 (Same.refl _) ⟨ks, rfl, hks, ?_⟩
        rw [ek, kx]
        show _ = _ ++ ([r.2].filter fun l => ws.contains l.word).map Ln.key
        rw [List.filter_cons_of_neg (by exact c)]
        simp
    · rintro acc H2 s2 e2 ⟨ks, rfl, hks, ek⟩
      rw [List.length_map, List.take_length] at ek
      refine ⟨D, ks, rfl, SqL.of e2, hks, ?_, fun r hr => ?_, fun H' p ps s' np hA hP => ?_⟩
      · have h2 := congrArg List.length ek
        rw [List.length_map] at h2
        rw [h2]
        unfold keysOf
        rw [List.length_map]
        refine Nat.lt_of_le_of_lt (List.length_filter_le _ _) ?_
        rw [List.length_map]; exact few
      · have : r.2 ∈ keysOf ws (rs.map Prod.snd) := by rw [← ek]; exact List.mem_map_of_mem hr
        obtain ⟨l, hl, e⟩ := List.mem_map.mp this
        obtain ⟨_, hl2⟩ := List.mem_filter.mp hl
        rw [← e]
        exact ln_key fun z => hg (by rw [← z]; exact List.contains_iff_mem.mp hl2)
      · rw [ek] at hA
        exact k H' p ps (s2.trans s') (s2.free np) hA hP
end
end Rd

namespace Rd
open PySem PySem.Spec PyProof.Rows L2 Tq Dn Dc
abbrev cReader : Stmt := top 45
abbrev sInit : Stmt := inClass cReader 0
abbrev sOf : Stmt := inClass cReader 1
abbrev sReading : Stmt := inClass cReader 2
/-- what a def with a star parameter behind n others promises -/
def spStar (n : Nat) (sp : Sp) : Sp := fun vs H Q E => ∃ ws rest, vs = ws ++ rest ∧ ws.length = n ∧ rest.length ≤ sizeLine ∧ ∀ p, H p = Option.none → sp (ws ++ [V.ref p]) (upd H p (.tup rest)) Q E
section
variable {P : Program} {w : World} {K : PySem.W.Frag} {mg : Str → Option Value} {base : Heap}
theorem okStar {x qual : Str} {st : Stmt} {f : Addr} {fd : FuncData} {N ps : List Str} {pv : Str} {k : Nat} {sp : Sp} (F : Fun K x qual st f fd) (S : FnScope N (ps ++ [pv]) (defScope st))
    (hb : ∀ (kV doc pm : Value) (an : Option Addr) (cdv ct : Value) (us rest : List Value), us.length = ps.length → bindArgs (PySem.W.fnOf x qual (defArgs st) (defBody st) (defScope st) .none kV doc pm an cdv ct) ⟨us ++ rest, []⟩ = (newTuple rest >>= fun t => pure (ps.zip us ++ [(pv, t)])))
    (hbody : ∀ (cdv : Value) (A : Around) (outer : List Env) (s : Shared) (H : Hp) (vs : List V) (Q : VK) (E : XK), Room k (A.deeper (envOfC qual (defScope st) s.heap.objs.size f cdv)) → sp vs H Q E →
      ∃ t, PSs (cxOf CX0 P w K mg base N qual (defScope st) f cdv A outer s H E).nox (defBody st) t ∧ t { nx := fun _ H' => Q .non H', rt := Q } (start N vs) H) : FnR P w K mg base CX0 (k + 1) f (spStar ps.length sp) := by
  obtain ⟨oc, od, kV, doc, pm, an, cdv, ct, osl, rfl, lk, hcd⟩ := F.ex
  refine StX.fn_star lk hcd S StX.cxUp_none (hb kV doc pm an cdv ct) fun A outer s H vs Q E hr hsp => ?_
  obtain ⟨t, h, q⟩ := hbody cdv A outer s H vs Q E hr hsp
  exact ⟨t, h.nox, q⟩
/-- the lines make a reader -/
structure RdOk (rs : RowsL) : Prop where
  few : rs.length ≤ 16
  fine : ∀ r ∈ rs, r.2.fine rs.length = true
  six : ∀ ps, Asc (keysOf ["if"] (rs.map Prod.snd)) ps → ps.length ≤ 6
abbrev rdF (L T : Addr) : List (Str × V) := [("_lines", .ref L), ("_tested", .ref T)]
/-- a reader of these lines stands at r -/
def RdAt (K : PySem.W.Frag) (C : Addr) (H : Hp) (r : Addr) (rs : RowsL) : Prop := ∃ dx L T ps, H r = some (.ins C dx (rdF L T)) ∧ LinesAt K H L rs ∧ Asc (keysOf ["if"] (rs.map Prod.snd)) ps ∧ PairsAt K H T ps
theorem RdAt.up {C : Addr} {H H' : Hp} {r : Addr} {rs : RowsL} (h : RdAt K C H r rs) (s : Same H H') : RdAt K C H' r rs :=
  let ⟨dx, L, T, ps, e, a, b, c⟩ := h; ⟨dx, L, T, ps, s _ _ e, a.up s, b, c.up s⟩
def spInit (K : PySem.W.Frag) (C : Addr) : Sp := fun vs H Q _ => ∃ (x dx L : Addr) (rs : RowsL), vs = [.ref x, .ref L] ∧ H x = some (.ins C dx []) ∧ LinesAt K H L rs ∧ RdOk rs ∧
  ∀ H' T ps, Keep x H H' → H' x = some (.ins C dx (rdF L T)) → Asc (keysOf ["if"] (rs.map Prod.snd)) ps → PairsAt K H' T ps → Q .non H'
def spOf (K : PySem.W.Frag) (C : Addr) : Sp := fun vs H Q _ => ∃ (L : Addr) (rs : RowsL), vs = [.ref C, .ref L] ∧ LinesAt K H L rs ∧ RdOk rs ∧ ∀ H' r, Same H H' → H r = none → RdAt K C H' r rs → Q (.ref r) H'
/-- what the class and the module give -/
structure TxR0 (K : PySem.W.Frag) (mg : Str → Option Value) (P : Program) (w : World) (base : Heap) (C : Addr) : Prop extends TxP K mg P w base where
  cl : Cls K C
  nL : NoAttr K C "_lines"
  nT : NoAttr K C "_tested"
  mgC : mg "Reader" = some (.ref C)
  mxL : ∃ t, mg "MAX_LINES" = some (.int 16 t)
  mxT : ∃ t, mg "MAX_TESTED" = some (.int 6 t)
  pairs : Has P w K mg base "pairs_of" 2 ["lines", "words"] (spPairs K)
theorem fine_mod {l : Ln} {m : Nat} (h : l.fine m = true) : Mod_ l.d := by
  have sz : ∀ x : Str, nameS x = true → x.cps.size < sizeLine := fun x hx => by
    unfold nameS at hx
    simp only [Bool.and_eq_true, decide_eq_true_eq] at hx
    have : x.cps.size ≤ 8 := hx.1.2
    rw [sizeLine_eq]; omega
  have wd : ∀ x : Str, x.cps.size ≤ 8 → x.cps.size < sizeLine := fun x hx => by rw [sizeLine_eq]; omega
  rintro ds ⟨⟩
  refine ⟨fun s hs => ?_, by cases l <;> simp [Ln.ds]⟩
  cases l with
  | go n => simp [Ln.ds] at hs; subst hs; exact wd _ (by decide)
  | ift t p n =>
    simp only [Ln.fine, Bool.and_eq_true] at h
    simp [Ln.ds] at hs
    rcases hs with rfl | rfl | rfl
    · exact wd _ (by decide)
    · exact sz _ h.1
    · exact sz _ h.2.1
  | look t p =>
    simp only [Ln.fine, Bool.and_eq_true] at h
    simp [Ln.ds] at hs
    rcases hs with rfl | rfl | rfl
    · exact wd _ (by decide)
    · exact sz _ h.1
    · exact sz _ h.2
  | read t p =>
    simp only [Ln.fine, Bool.and_eq_true] at h
    simp [Ln.ds] at hs
    rcases hs with rfl | rfl | rfl
    · exact wd _ (by decide)
    · exact sz _ h.1
    · exact sz _ h.2
theorem k_lt : ¬ (("_lines" : Str) = "_tested") := by decide +kernel
theorem rd_flds (L T : Addr) : putF "_tested" (.ref T) (putF "_lines" (.ref L) []) = rdF L T := by
  show (if ("_lines" : Str) = "_tested" then _ else _) = _
  rw [if_neg k_lt]; rfl
theorem rd_lines (L T : Addr) : (rdF L T).lookup ("_lines" : Str) = some (V.ref L) := by rw [← rd_flds, lookup_putF, if_neg (fun e => k_lt e), lookup_putF, if_pos rfl]
theorem rd_tested (L T : Addr) : (rdF L T).lookup ("_tested" : Str) = some (V.ref T) := by rw [← rd_flds, lookup_putF, if_pos rfl]
/-- an instance changes: sequences are kept -/
theorem off_ins {D a C dx : Addr} {fs : List (Str × V)} {H H' : Hp} {xs : List V} (hD : H D = some (.ins C dx fs)) (k : Keep D H H') (h : SqT K H a xs) : SqT K H' a xs := by
  rcases h with (h | ⟨o, h⟩) | h
  · exact .inl (.inl (k a _ (fun e => by subst e; rw [hD] at h; cases h) h))
  · exact .inl (.inr ⟨o, k a _ (fun e => by subst e; rw [hD] at h; cases h) h⟩)
  · exact .inr h
theorem LinesAt.off {D C dx L : Addr} {fs : List (Str × V)} {H H' : Hp} {rs : RowsL} (hD : H D = some (.ins C dx fs)) (k : Keep D H H') (h : LinesAt K H L rs) : LinesAt K H' L rs := ⟨off_ins hD k h.1, fun r hr => off_ins hD k (h.2 r hr)⟩
theorem PairsAt.off {D C dx p : Addr} {fs : List (Str × V)} {H H' : Hp} {ps : List (List Str)} (hD : H D = some (.ins C dx fs)) (k : Keep D H H') (h : PairsAt K H p ps) : PairsAt K H' p ps :=
  let ⟨rs, e, a, b⟩ := h; ⟨rs, e, off_ins hD k a, fun r hr => off_ins hD k (b r hr)⟩
theorem fine_shaped {l : Ln} {m : Nat} (h : l.fine m = true) : SeqAt.shaped l.d = true := ln_shaped (fine_safe h)
theorem scIn : FnScope ["self", "lines", "line"] ([("self" : Str)] ++ [("lines" : Str)]) (defScope sInit) := ⟨rfl, rfl, rfl, by decide +kernel, rfl, by decide +kernel, by decide +kernel⟩
/-- len of a tuple -/
def rLenT (K : PySem.W.Frag) : List V → Hp → VK → Prop := fun xs H Q => ∃ p ys, xs = [.ref p] ∧ SqT K H p ys ∧ Q (.int (ys.length : Int)) H
theorem call_lenT {X : Cx} : CallR X (.builtin "len") (rLenT X.K) := by
  intro pins s σ H xs us Q I r h
  obtain ⟨p, ys, e, h1, h2⟩ := h
  exact call_len_seq pins s σ H xs us Q I r ⟨p, ys, e, .inr h1, h2⟩
theorem ok_init {C f : Addr} {fd : FuncData} (F : Fun K "__init__" "Reader.__init__" sInit f fd) (T : TxR0 K mg P w base C) : FnR P w K mg base CX0 5 f (spStar 1 (spInit K C)) := by
  obtain ⟨g, gd, mG, kG, bG, GG⟩ := T.line
  obtain ⟨q, qd, mQ, kQ, bQ, GQ⟩ := T.pairs
  obtain ⟨tl, mL⟩ := T.mxL
  obtain ⟨tt, mT⟩ := T.mxT
  refine okStar (ps := ["self"]) (pv := "lines") F scIn (fun kV doc pm an cdv ct => StX.bind_star1 (B := fun us => bindArgs _ ⟨us, []⟩) (p1 := "self") (pv := "lines") (fun a => rfl) (fun a r rs => rfl)) (fun cdv A outer s H vs Q E hr h => ?_)
  obtain ⟨x, dx, L, rs, rfl, hx, hL, ok, k⟩ := h
  have hr2 := hr.mono (show 2 ≤ 4 by decide)
  refine ⟨_, pss_cons (ps_if (pt_cmpR op_gt (pe_callB call_lenT (by rfl) T.len PySem.boot_len (pa_cons (pv 1) pa_nil)) (pe_glob (v := .int 16) (by rfl) mL ⟨_, rfl⟩) (nomark _)) (pss_one ps_never) pss_nil)
    (pss_cons (ps_if (pt_not (pt_val (pe_callB (cr_all rfl) (by rfl) T.all PyProof.Rows.boot_all (pa_cons (pe_lc (own := [("line", 2)]) (g := gName 2) (tt := tYes) (te := tCall (spLine K) [] E0 (tCons (tVar 2) (tCons (tCB (rLenT K) (tCons (tVar 1) tNil)) tNil))) rfl scIn.nd (pi_tup (pv 1))
        (blkOk_by (N := ["self", "lines", "line"]) (sc := defScope sInit) (by decide +kernel)) (fun _ _ _ _ _ => pg_name (i := 2) scIn.nd rfl (Or.inl rfl)) (fun _ _ _ _ _ => pts_nil)
        (fun _ _ _ _ _ => pe_call GG hr (by rfl) mG kG bG .nil pass0 (pa_cons (pv 2) (pa_cons (pe_callB call_lenT (by rfl) T.len PySem.boot_len (pa_cons (pv 1) pa_nil)) pa_nil)))) pa_nil)))) (pss_one ps_never) pss_nil)
    (pss_cons (ps_fld (pv 0) (pv 1) rfl)
    (pss_cons (ps_fld (pv 0) (pe_call GQ hr2 (by rfl) mQ kQ bQ .nil pass0 (pa_cons (pv 1) (pa_cons (pe_tup (pa_cons pe_str pa_nil)) pa_nil))) rfl)
    (pss_one (ps_if (pt_cmpR op_gt (pe_callB call_lenT (by rfl) T.len PySem.boot_len (pa_cons (pe_fld (pv 0) rfl) pa_nil)) (pe_glob (v := .int 6) (by rfl) mT ⟨_, rfl⟩) (nomark _)) (pss_one ps_never) pss_nil))))), ?_⟩
  refine ⟨_, rfl, L, _, rfl, hL.1, _, _, rfl, rfl, _, rfl, ?_⟩
  refine ite2 (fun z => absurd (of_decide_eq_true z) (by rw [List.length_map]; have := ok.few; omega)) (fun _ => ?_)
  refine ⟨_, rfl, L, rfl, ⟨_, hL.1⟩, fun D hD => ?_⟩
  have off : Off D (fun i acc (_ : Hp) => acc = (rs.take i).map fun _ => V.bl true) := fun _ _ _ _ _ _ _ z => z
  refine lc_fil walk_tup hD (fun i acc _ => acc = (rs.take i).map fun _ => V.bl true) (by simp) (fun H' s' => sqT_up hL.1 s') ?_ ?_
  · rintro i v acc H2 H3 hi s2 e2 rfl ⟨rfl, hv⟩
    rw [List.getElem?_map] at hv
    obtain ⟨r, hri, rfl⟩ := Option.map_eq_some_iff.mp hv
    have hr := sqT_up (hL.2 r (List.mem_of_getElem? hri)) s2
    have fr := ok.fine r (List.mem_of_getElem? hri)
    refine ⟨rfl, tt_yes ?_⟩
    refine ⟨_, rfl, _, rfl, L, _, rfl, sqT_up hL.1 s2, _, _, rfl, .inl ⟨r.2.d, ln_dp hr, fine_shaped fr, fine_mod fr, fun H4 s4 => ?_⟩⟩
    refine put_of hD off s2 e2 s4 ?_ ?_
    · rw [List.length_map, List.length_take, sizeLine_eq]; have := ok.few; omega
    · rw [List.length_map, fine_line fr, List.take_add_one, hri, List.map_append]; rfl
  · rintro acc H2 s2 e2 rfl
    refine ⟨D, rs.map fun _ => true, rfl, SqL.of (by rw [e2, List.length_map, List.take_length, List.map_map]; rfl), ?_⟩
    refine ⟨_, rfl, ?_⟩
    show (if (!((rs.map fun _ => true).all id)) = true then _ else _)
    rw [show ((rs.map fun _ => true).all id) = true by rw [List.all_map]; exact List.all_eq_true.mpr fun _ _ => rfl]
    refine iteF ?_
    have hx2 := s2 _ _ hx
    have kx : Keep x H2 (upd H2 x (.ins C dx (putF "_lines" (.ref L) []))) := keep_upd
    refine ⟨_, rfl, _, rfl, x, C, dx, [], rfl, hx2, T.cl, T.nL, (by show 0 < 1000; decide), ?_⟩
    have hL3 := (hL.up s2).off hx2 kx
    refine ⟨_, rfl, (by show 1 ≤ sizeLine; decide), fun t nt => ?_⟩
    have st := same_new (o := HO.tup [V.str "if"]) nt
    refine ⟨L, t, rs, ["if"], rfl, hL3.up st, SqT.of upd_same, (by decide +kernel), by have := ok.few; omega, fun H' p ps s' np hA hP => ?_⟩
    have hx4 := s' _ _ (st _ _ (show upd H2 x (.ins C dx (putF "_lines" (.ref L) [])) x = _ from upd_same))
    have k5 : Keep x H' (upd H' x (.ins C dx (putF "_tested" (.ref p) (putF "_lines" (.ref L) [])))) := keep_upd
    refine ⟨_, rfl, x, C, dx, _, rfl, hx4, T.cl, T.nT, (by show 1 < 1000; decide), ?_⟩
    rw [rd_flds] at k5 ⊢
    have hP5 := hP.off hx4 k5
    obtain ⟨prs, ep, hp1, hp2⟩ := id hP5
    refine ⟨_, rfl, x, C, dx, _, _, rfl, upd_same, T.cl, T.nT, rd_tested L p, p, _, rfl, hp1, _, _, rfl, rfl, _, rfl, ?_⟩
    refine ite2 (fun z => absurd (of_decide_eq_true z) (by have h6 := ok.six ps hA; rw [← ep, List.length_map] at h6; rw [List.length_map]; omega)) (fun _ => ?_)
    exact k _ p ps ((((same_keep s2).trans kx).trans (same_keep (st.trans s'))).trans k5) upd_same hA hP5
end
end Rd

namespace Rd
open PySem PySem.Spec PyProof.Rows L2 Tq Dn Dc
/-- a classmethod of the class at C, with its promise -/
abbrev HasC (P : Program) (w : World) (K : PySem.W.Frag) (mg : Str → Option Value) (base : Heap) (C : Addr) (m : Str) (k : Nat) (sp : Sp) : Prop :=
  ∃ mc p g, ClX.CRead K C mc ∧ ClX.CMet K C mc m p g ∧ FnR P w K mg base CX0 k g sp
def spReading (K : PySem.W.Frag) (C : Addr) : Sp := fun vs H Q _ => ∃ (t : Str) (a : Addr) (ps : List Str), vs = [.ref C, .str t, .ref a] ∧ SqT K H a (ps.map V.str) ∧ nameS t = true ∧ (∀ p ∈ ps, nameS p = true) ∧ ps.length ≤ 16 ∧
  ∀ H' r rs, Same H H' → H r = none → rs.map Prod.snd = ps.map (Ln.read t) → RdAt K C H' r rs → Q (.ref r) H'
structure TxR1 (K : PySem.W.Frag) (mg : Str → Option Value) (P : Program) (w : World) (base : Heap) (C : Addr) : Prop extends TxR0 K mg P w base C where
  made_ : ∃ f, Mk K C f ∧ FnR P w K mg base CX0 5 f (spStar 1 (spInit K C))
section
variable {P : Program} {w : World} {K : PySem.W.Frag} {mg : Str → Option Value} {base : Heap}
theorem plainR {k : Nat} {f : Addr} {fd : FuncData} {ps : List Str} {sp : Sp} (F : FnOk P w K mg base CX0 k f fd ps sp) (hb : Binds K fd ps []) : FnR P w K mg base CX0 k f sp :=
  (F.raw hb .nil).imp fun vs H Q E h => by rw [List.append_nil]; exact h
/-- a reader just made -/
theorem rd_new {C : Addr} {H' : Hp} {x dx L T : Addr} {rs : RowsL} {ps : List (List Str)} (e : H' x = some (.ins C dx (rdF L T))) (hL : LinesAt K H' L rs) (hA : Asc (keysOf ["if"] (rs.map Prod.snd)) ps) (hP : PairsAt K H' T ps) : RdAt K C H' x rs :=
  ⟨dx, L, T, ps, e, hL, hA, hP⟩
theorem scOf : FnScope ["cls", "lines"] ["cls", "lines"] (defScope sOf) := ⟨rfl, rfl, rfl, by decide +kernel, rfl, by decide +kernel, by decide +kernel⟩
theorem made_reader {C : Addr} {H : Hp} {Q : VK} {L : Addr} {rs : RowsL} (hL : ∀ r ∈ rs, SqT K H r.1 r.2.vs) (ok : RdOk rs) (k : ∀ H' r, Same H H' → H r = none → RdAt K C H' r rs → Q (.ref r) H') :
    ∀ x dx, H x = Option.none → H dx = Option.none → dx ≠ x → spStar 1 (spInit K C) (V.ref x :: (rs.map fun r => V.ref r.1)) (upd (upd H dx (.own x)) x (.ins C dx [])) (fun v H2 => v = .non ∧ Q (.ref x) H2) E0 := by
  intro x dx nx nd ne
  have s1 : Same H (upd (upd H dx (.own x)) x (.ins C dx [])) := same_to nx (same_new nd)
  refine ⟨[.ref x], _, rfl, rfl, by rw [List.length_map, sizeLine_eq]; have := ok.few; omega, fun p np => ?_⟩
  have s2 := same_new (o := HO.tup (rs.map fun r => V.ref r.1)) np
  refine ⟨x, dx, p, rs, rfl, s2 _ _ upd_same, ⟨SqT.of upd_same, fun r hr => sqT_up (hL r hr) (s1.trans s2)⟩, ok, fun H' T ps kp e hA hP => ⟨rfl, ?_⟩⟩
  have hx0 : upd (upd (upd H dx (.own x)) x (.ins C dx [])) p (HO.tup (rs.map fun r => V.ref r.1)) x = some (.ins C dx []) := s2 _ _ upd_same
  refine k H' x (fun b o hb => ?_) nx (rd_new e (LinesAt.off hx0 kp ⟨SqT.of upd_same, fun r hr => sqT_up (hL r hr) (s1.trans s2)⟩) hA hP)
  exact kp b o (ne_of_none hb nx) ((s1.trans s2) b o hb)
theorem ok_of {C f : Addr} {fd : FuncData} (F : Fun K "of" "Reader.of" sOf f fd) (T : TxR1 K mg P w base C) : FnOk P w K mg base CX0 7 f fd ["cls", "lines"] (spOf K C) := by
  obtain ⟨g, M, G⟩ := T.made_
  refine F.ok scOf (fun vs H Q E h => ?_) (fun cdv A outer s H vs Q E hr h => ?_)
  · obtain ⟨L, rs, rfl, _⟩ := h; rfl
  · obtain ⟨L, rs, rfl, hL, ok, k⟩ := h
    refine ⟨_, pss_cons (ps_if (pt_not (pt_val (pe_callB call_isi (by rfl) T.isi PyProof.Rows.boot_isinstance (pa_cons (pv 1) (pa_cons (pe_bltn (v := .ty "tuple") (by rfl) T.tuple PyProof.Rows.boot_tuple rfl) pa_nil))))) (pss_one ps_never) pss_nil)
      (pss_one (ps_ret (pe_makeS (i := 0) M G hr pass0 rfl (Or.inl rfl) (pv 1)))), ?_⟩
    refine ⟨_, rfl, .ref L, .ty "tuple", .type "tuple", .type "tuple", true, rfl, .ty _, dp_ty hL.dp, kit_ty (by decide +kernel), _, rfl, iteF ?_⟩
    exact ⟨rfl, _, rfl, L, _, rfl, .inl hL.1, made_reader (L := L) hL.2 ok k⟩
structure TxR2 (K : PySem.W.Frag) (mg : Str → Option Value) (P : Program) (w : World) (base : Heap) (C : Addr) : Prop extends TxR1 K mg P w base C where
  of_ : HasC P w K mg base C "of" 7 (spOf K C)
theorem scRe : FnScope ["cls", "table", "parts", "part"] ([("cls" : Str), ("table" : Str)] ++ [("parts" : Str)]) (defScope sReading) := ⟨rfl, rfl, rfl, by decide +kernel, rfl, by decide +kernel, by decide +kernel⟩
theorem keys_reads (t : Str) : ∀ ps : List Str, keysOf ["if"] (ps.map (Ln.read t)) = []
  | [] => rfl
  | p :: ps => by
    have ih := keys_reads t ps
    unfold keysOf at ih ⊢
    rw [List.map_cons, List.filter_cons_of_neg (a := Ln.read t p) (p := fun l => [("if" : Str)].contains l.word) (show ¬ ([("if" : Str)].contains ("read" : Str)) = true by decide +kernel)]
    exact ih
theorem asc_nil {ps : List (List Str)} (h : Asc [] ps) : ps = [] := by
  cases ps with
  | nil => rfl
  | cons p ps => exact absurd ((h.mem p).mp List.mem_cons_self) List.not_mem_nil
theorem reads_ok {t : Str} {ps : List Str} {rs : RowsL} (e : rs.map Prod.snd = ps.map (Ln.read t)) (ht : nameS t = true) (hp : ∀ p ∈ ps, nameS p = true) (few : ps.length ≤ 16) : RdOk rs := by
  have hl : rs.length = ps.length := by have := congrArg List.length e; simpa using this
  refine ⟨by omega, fun r hr => ?_, fun qs hq => ?_⟩
  · have : r.2 ∈ ps.map (Ln.read t) := by rw [← e]; exact List.mem_map_of_mem hr
    obtain ⟨p, h1, h2⟩ := List.mem_map.mp this
    rw [← h2]
    show (nameS t && nameS p) = true
    rw [ht, hp p h1]; rfl
  · rw [e, keys_reads] at hq
    rw [asc_nil hq]; decide
theorem ok_reading {C f : Addr} {fd : FuncData} (F : Fun K "reading" "Reader.reading" sReading f fd) (T : TxR2 K mg P w base C) : FnR P w K mg base CX0 8 f (spStar 2 (spReading K C)) := by
  obtain ⟨mc, p0, g, cr, cm, G⟩ := T.of_
  refine okStar (ps := ["cls", "table"]) (pv := "parts") F scRe (fun kV doc pm an cdv ct => StX.bind_star2 (B := fun us => bindArgs _ ⟨us, []⟩) (p1 := "cls") (p2 := "table") (pv := "parts") (fun a b => rfl) (fun a b r rs => rfl)) (fun cdv A outer s H vs Q E hr h => ?_)
  obtain ⟨t, a, ps, rfl, ha, ht, hp, few, k⟩ := h
  refine ⟨_, pss_one (ps_ret (ClX.pe_cmeth (pv 0) cr cm G hr pass0 (pa_cons (pe_callTy call_tuple_of (by rfl) T.tuple PyProof.Rows.boot_tuple (pa_cons (pe_lc (own := [("part", 3)]) (g := gName 3) (tt := tYes) rfl scRe.nd (pi_tup (pv 2))
        (blkOk_by (N := ["cls", "table", "parts", "part"]) (sc := defScope sReading) (by decide +kernel)) (fun _ _ _ _ _ => pg_name (i := 3) scRe.nd rfl (Or.inl rfl)) (fun _ _ _ _ _ => pts_nil)
        (fun _ _ _ _ _ => pe_tup (pa_cons pe_str (pa_cons (pv 1) (pa_cons (pv 3) pa_nil))))) pa_nil)) pa_nil))), ?_⟩
  refine ⟨_, rfl, rfl, _, rfl, a, rfl, ⟨_, ha⟩, fun D hD => ?_⟩
  have off : Off D (fun i acc H' => ∃ rs : RowsL, acc = (rs.map fun r => V.ref r.1) ∧ (∀ r ∈ rs, SqT K H' r.1 r.2.vs) ∧ rs.map Prod.snd = (ps.take i).map (Ln.read t)) :=
    fun i acc l H2 H3 e kp ⟨rs, z1, z2, z3⟩ => ⟨rs, z1, fun r hr => off_seq e kp (z2 r hr), z3⟩
  refine lc_fil walk_tup hD (fun i acc H' => ∃ rs : RowsL, acc = (rs.map fun r => V.ref r.1) ∧ (∀ r ∈ rs, SqT K H' r.1 r.2.vs) ∧ rs.map Prod.snd = (ps.take i).map (Ln.read t)) ⟨[], rfl, fun r z => (by cases z), rfl⟩ (fun H' s' => sqT_up ha s') ?_ ?_
  · rintro i v acc H2 H3 hi s2 e2 ⟨rs, rfl, hrs, er⟩ ⟨rfl, hv⟩
    rw [List.getElem?_map] at hv
    obtain ⟨q, hq, rfl⟩ := Option.map_eq_some_iff.mp hv
    refine ⟨rfl, tt_yes ?_⟩
    refine ⟨_, rfl, _, rfl, (by show 3 ≤ sizeLine; decide), fun p np => ?_⟩
    have sn := same_new (o := HO.tup [V.str "read", V.str t, V.str q]) np
    refine put_of hD off s2 e2 sn ?_ ⟨rs ++ [(p, Ln.read t q)], by rw [List.map_append]; rfl, fun r hr => ?_, ?_⟩
    · have h1 := congrArg List.length er
      rw [List.length_map, List.length_map, List.length_take] at h1
      rw [List.length_map, sizeLine_eq]; omega
    · rcases List.mem_append.mp hr with z | z
      · exact sqT_up (hrs r z) sn
      · rw [List.mem_singleton.mp z]; exact SqT.of upd_same
    · rw [List.map_append, er, List.take_add_one, hq, List.map_append]; rfl
  · rintro acc H2 s2 e2 ⟨rs, rfl, hrs, er⟩
    rw [List.length_map, List.take_length] at er
    refine ⟨D, _, rfl, .inl ⟨SqL.of e2, fun l nl => ?_⟩⟩
    have sn := same_new (o := HO.tup (rs.map fun r => V.ref r.1)) nl
    exact ⟨l, rs, rfl, ⟨SqT.of upd_same, fun r hr => sqT_up (hrs r hr) sn⟩, reads_ok er ht hp few, fun H' r s' nr hr => k H' r rs ((s2.trans sn).trans s') ((s2.trans sn).free nr) er hr⟩
end
end Rd

namespace Rd
open PySem PySem.Spec PyProof.Rows L2 Tq Dn Dc
abbrev sLines : Stmt := inClass cReader 3
abbrev sTested : Stmt := inClass cReader 4
abbrev sPrs : Stmt := inClass cReader 5
abbrev sPlain : Stmt := inClass cReader 6
abbrev sReadings : Stmt := inClass cReader 7
abbrev sGet : Stmt := inClass cReader 14
abbrev sHas : Stmt := inClass cReader 15
abbrev sLen : Stmt := inClass cReader 17
abbrev sEq : Stmt := inClass cReader 18
abbrev sStr : Stmt := inClass cReader 19
abbrev sNeed : Stmt := inClass cReader 20
abbrev lnsOf (rs : RowsL) : List Ln := rs.map Prod.snd
def spPrs (K : PySem.W.Frag) (C : Addr) : Sp := fun vs H Q _ => ∃ (r : Addr) (rs : RowsL), vs = [.ref r] ∧ RdAt K C H r rs ∧ RdOk rs ∧ ∀ H' p ps, Same H H' → H p = none → Asc (keysOf ["read", "look", "if"] (lnsOf rs)) ps → PairsAt K H' p ps → Q (.ref p) H'
def spPlain (K : PySem.W.Frag) (C : Addr) : Sp := fun vs H Q _ => ∃ (r : Addr) (rs : RowsL), vs = [.ref r] ∧ RdAt K C H r rs ∧ RdOk rs ∧ ∀ H', Same H H' → Q (.bl ((lnsOf rs).all fun l => decide (l.word = "read"))) H'
def spLen (K : PySem.W.Frag) (C : Addr) : Sp := fun vs H Q _ => ∃ (r : Addr) (rs : RowsL), vs = [.ref r] ∧ RdAt K C H r rs ∧ Q (.int (rs.length : Int)) H
/-- what isinstance asks of the class -/
structure TxI (K : PySem.W.Frag) (C : Addr) : Prop where
  ha : PySem.W.findIn K (.ref C) "__class__" = some (some (.builtin "object.__class__"))
  hn : PySem.W.specialIn K (.builtin "object.__class__") "__get__" = some (some (.builtin "getset_descriptor.__get__"))
  htk : PySem.W.takesIn K (.builtin "object.__class__") = some true
  hm : PySem.W.mroIn K C (.type "object") = some true
  self : PySem.W.kitOne K (.ref C) (.ref C) = some true
  no : ∀ t ∈ tys, PySem.W.kitOne K (.type t) (.ref C) = some false
/-- another value than a reader, and no instance -/
def NoRd (K : PySem.W.Frag) (H : Hp) (v : V) : Prop := ∃ t, t ∈ tys ∧ TyX K H v (.type t)
theorem dp_no {K : PySem.W.Frag} {H : Hp} {v : V} {d : PyData} (h : Dp K H v d) : NoRd K H v := ⟨_, mem_ty d, dp_ty h⟩
def spEqR (K : PySem.W.Frag) (C : Addr) : Sp := fun vs H Q _ => ∃ (r : Addr) (rs : RowsL) (v : V), vs = [.ref r, v] ∧ RdAt K C H r rs ∧ RdOk rs ∧
  ((∃ b ss, v = .ref b ∧ RdAt K C H b ss ∧ RdOk ss ∧ Q (.bl (decide (lnsOf rs = lnsOf ss))) H) ∨ (NoRd K H v ∧ Q (.bl false) H))
def spHas (K : PySem.W.Frag) (C : Addr) : Sp := fun vs H Q _ => ∃ (r : Addr) (rs : RowsL) (v : V), vs = [.ref r, v] ∧ RdAt K C H r rs ∧ RdOk rs ∧
  ((∃ d, Dp K H v d ∧ SeqAt.shaped d = true ∧ Mod_ d ∧ ∀ H', Same H H' → Q (.bl (lineD d rs.length && (lnsOf rs).any fun l => PyData.eqv l.d d)) H') ∨ (TyX K H v (.type "dict") ∧ Q (.bl false) H))
def rdText (n m : Nat) : Str := (((("reader of " : Str) ++ toString (n : Int)) ++ (" lines, " : Str)) ++ toString (m : Int)) ++ (" tested" : Str)
def spStr (K : PySem.W.Frag) (C : Addr) : Sp := fun vs H Q _ => ∃ (r : Addr) (rs : RowsL), vs = [.ref r] ∧ RdAt K C H r rs ∧ RdOk rs ∧ ∀ ps, Asc (keysOf ["if"] (lnsOf rs)) ps → Q (.str (rdText rs.length ps.length)) H
section
variable {P : Program} {w : World} {K : PySem.W.Frag} {mg : Str → Option Value} {base : Heap}
theorem sc1 {st : Stmt} (h : FnScope ["self"] ["self"] (defScope st)) : FnScope ["self"] ["self"] (defScope st) := h
theorem scLs : FnScope ["self"] ["self"] (defScope sLines) := ⟨rfl, rfl, rfl, by decide +kernel, rfl, by decide +kernel, by decide +kernel⟩
theorem scTs : FnScope ["self"] ["self"] (defScope sTested) := ⟨rfl, rfl, rfl, by decide +kernel, rfl, by decide +kernel, by decide +kernel⟩
theorem ok_lines {C f : Addr} {fd : FuncData} (F : Fun K "lines" "Reader.lines" sLines f fd) (T : TxR0 K mg P w base C) : FnOk P w K mg base CX0 1 f fd ["self"] (getSp C "_lines") := by
  refine F.ok scLs (fun vs H Q E h => ?_) (fun cdv A outer s H vs Q E hr h => ?_)
  · obtain ⟨a, dx, fs, v, rfl, _⟩ := h; rfl
  · obtain ⟨a, dx, fs, v, rfl, ea, l, q⟩ := h
    exact ⟨_, pss_one (ps_ret (pe_fld (pv 0) rfl)), ⟨_, rfl, a, C, dx, fs, v, rfl, ea, T.cl, T.nL, l, q⟩⟩
theorem ok_tested {C f : Addr} {fd : FuncData} (F : Fun K "tested" "Reader.tested" sTested f fd) (T : TxR0 K mg P w base C) : FnOk P w K mg base CX0 1 f fd ["self"] (getSp C "_tested") := by
  refine F.ok scTs (fun vs H Q E h => ?_) (fun cdv A outer s H vs Q E hr h => ?_)
  · obtain ⟨a, dx, fs, v, rfl, _⟩ := h; rfl
  · obtain ⟨a, dx, fs, v, rfl, ea, l, q⟩ := h
    exact ⟨_, pss_one (ps_ret (pe_fld (pv 0) rfl)), ⟨_, rfl, a, C, dx, fs, v, rfl, ea, T.cl, T.nT, l, q⟩⟩
theorem scPs : FnScope ["self"] ["self"] (defScope sPrs) := ⟨rfl, rfl, rfl, by decide +kernel, rfl, by decide +kernel, by decide +kernel⟩
theorem ok_prs {C f : Addr} {fd : FuncData} (F : Fun K "pairs" "Reader.pairs" sPrs f fd) (T : TxR0 K mg P w base C) : FnOk P w K mg base CX0 3 f fd ["self"] (spPrs K C) := by
  obtain ⟨q, qd, mQ, kQ, bQ, GQ⟩ := T.pairs
  refine F.ok scPs (fun vs H Q E h => ?_) (fun cdv A outer s H vs Q E hr h => ?_)
  · obtain ⟨r, rs, rfl, _⟩ := h; rfl
  · obtain ⟨r, rs, rfl, ⟨dx, L, TT, ps, e, hL, _⟩, ok, k⟩ := h
    refine ⟨_, pss_one (ps_ret (pe_call GQ hr (by rfl) mQ kQ bQ .nil pass0 (pa_cons (pe_fld (pv 0) rfl) (pa_cons (pe_tup (pa_cons pe_str (pa_cons pe_str (pa_cons pe_str pa_nil)))) pa_nil)))), ?_⟩
    refine ⟨_, rfl, r, C, dx, _, _, rfl, e, T.cl, T.nL, rd_lines L TT, (by show 3 ≤ sizeLine; decide), fun t nt => ?_⟩
    have st := same_new (o := HO.tup [V.str "read", V.str "look", V.str "if"]) nt
    exact ⟨L, t, rs, ["read", "look", "if"], rfl, hL.up st, SqT.of upd_same, (by decide +kernel), by have := ok.few; omega, fun H' p qs s' np hA hP => k H' p qs (st.trans s') (st.free np) hA hP⟩
theorem scPl : FnScope ["self", "line"] ["self"] (defScope sPlain) := ⟨rfl, rfl, rfl, by decide +kernel, rfl, by decide +kernel, by decide +kernel⟩
theorem scLe : FnScope ["self"] ["self"] (defScope sLen) := ⟨rfl, rfl, rfl, by decide +kernel, rfl, by decide +kernel, by decide +kernel⟩
theorem ok_len {C f : Addr} {fd : FuncData} (F : Fun K "__len__" "Reader.__len__" sLen f fd) (T : TxR0 K mg P w base C) : FnOk P w K mg base CX0 1 f fd ["self"] (spLen K C) := by
  refine F.ok scLe (fun vs H Q E h => ?_) (fun cdv A outer s H vs Q E hr h => ?_)
  · obtain ⟨r, rs, rfl, _⟩ := h; rfl
  · obtain ⟨r, rs, rfl, ⟨dx, L, TT, ps, e, hL, _⟩, k⟩ := h
    refine ⟨_, pss_one (ps_ret (pe_callB call_lenT (by rfl) T.len PySem.boot_len (pa_cons (pe_fld (pv 0) rfl) pa_nil))), ?_⟩
    refine ⟨_, rfl, r, C, dx, _, _, rfl, e, T.cl, T.nL, rd_lines L TT, L, _, rfl, hL.1, ?_⟩
    rw [List.length_map]; exact k
theorem lns_safe {rs : RowsL} (ok : RdOk rs) : ∀ l ∈ lnsOf rs, l.safe := fun l hl => by
  obtain ⟨r, hr, rfl⟩ := List.mem_map.mp hl
  exact fine_safe (ok.fine r hr)
theorem scEq : FnScope ["self", "other"] ["self", "other"] (defScope sEq) := ⟨rfl, rfl, rfl, by decide +kernel, rfl, by decide +kernel, by decide +kernel⟩
theorem ok_eq {C f : Addr} {fd : FuncData} (F : Fun K "__eq__" "Reader.__eq__" sEq f fd) (T : TxR0 K mg P w base C) (I : TxI K C) : FnOk P w K mg base CX0 1 f fd ["self", "other"] (spEqR K C) := by
  refine F.ok scEq (fun vs H Q E h => ?_) (fun cdv A outer s H vs Q E hr h => ?_)
  · obtain ⟨r, rs, v, rfl, _⟩ := h; rfl
  · obtain ⟨r, rs, v, rfl, ⟨dx, L, TT, ps, e, hL, _⟩, ok, k⟩ := h
    refine ⟨_, pss_one (ps_ret (pe_and (pe_callB call_isi (by rfl) T.isi PyProof.Rows.boot_isinstance (pa_cons (pv 1) (pa_cons (pe_glob (v := .ref C) (by rfl) T.mgC rfl) pa_nil)))
      (pe_one (pe_cmpR (op_eqD hr.units) (pe_fld (pv 0) rfl) (pe_fld (pv 1) rfl) (nomark _))))), ?_⟩
    rcases k with ⟨b, ss, rfl, ⟨dx2, L2, TT2, ps2, e2, hL2, _⟩, ok2, k⟩ | ⟨⟨t, ht, ty⟩, k⟩
    · refine ⟨_, rfl, .ref b, .ref C, .ref C, .ref C, true, rfl, .own C, .base (.ins e2 T.cl I.ha I.hn I.htk I.hm), I.self, _, rfl, iteT ?_⟩
      refine ⟨_, rfl, r, C, dx, _, _, rfl, e, T.cl, T.nL, rd_lines L TT, _, rfl, b, C, dx2, _, _, rfl, e2, T.cl, T.nL, rd_lines L2 TT2, ?_⟩
      refine ⟨_, _, hL.dp, hL2.dp, dls_shaped (lns_safe ok), dls_shaped (lns_safe ok2), ?_⟩
      rw [dls_eqv]
      exact k
    · exact ⟨_, rfl, v, .ref C, .type t, .ref C, false, rfl, .own C, ty, I.no t ht, _, rfl, iteF k⟩
theorem scHa : FnScope ["self", "x"] ["self", "x"] (defScope sHas) := ⟨rfl, rfl, rfl, by decide +kernel, rfl, by decide +kernel, by decide +kernel⟩
theorem ok_has {C f : Addr} {fd : FuncData} (F : Fun K "__contains__" "Reader.__contains__" sHas f fd) (T : TxR0 K mg P w base C) : FnOk P w K mg base CX0 5 f fd ["self", "x"] (spHas K C) := by
  obtain ⟨g, gd, mG, kG, bG, GG⟩ := T.line
  refine F.ok scHa (fun vs H Q E h => ?_) (fun cdv A outer s H vs Q E hr h => ?_)
  · obtain ⟨r, rs, v, rfl, _⟩ := h; rfl
  · obtain ⟨r, rs, v, rfl, ⟨dx, L, TT, ps, e, hL, _⟩, ok, k⟩ := h
    have hu65 : (A.deeper (envOfC (Str.ofString "Reader.__contains__") (defScope sHas) s.heap.objs.size f cdv)).units + 65 < cLine := by have := hr.un; omega
    refine ⟨_, pss_one (ps_ret (pe_and (pe_call GG hr (by rfl) mG kG bG .nil pass0 (pa_cons (pv 1) (pa_cons (pe_callB call_lenT (by rfl) T.len PySem.boot_len (pa_cons (pe_fld (pv 0) rfl) pa_nil)) pa_nil)))
      (pe_one (pe_cmpR (op_inDT hu65) (pv 1) (pe_fld (pv 0) rfl) (by rfl))))), ?_⟩
    refine ⟨_, rfl, _, rfl, r, C, dx, _, _, rfl, e, T.cl, T.nL, rd_lines L TT, L, _, rfl, hL.1, v, _, rfl, ?_⟩
    rw [List.length_map]
    rcases k with ⟨d, hd, sd, md, k⟩ | ⟨ty, k⟩
    · refine .inl ⟨d, hd, sd, md, fun H' s' => ⟨_, rfl, ?_⟩⟩
      have k' := k H' s'
      refine ite2 (fun c => ?_) (fun c => ?_)
      · refine ⟨_, rfl, _, rfl, r, C, dx, _, _, rfl, s' _ _ e, T.cl, T.nL, rd_lines L TT, d, _, dp_up s' hd, (hL.up s').dp, sd, lns_lay _ (lns_safe ok), ?_⟩
        rw [c, Bool.true_and] at k'
        rw [Bool.bne_false, List.any_map]
        exact k'
      · rw [Bool.not_eq_true _ |>.mp c, Bool.false_and] at k'
        exact k'
    · exact .inr (.inl ⟨ty, _, rfl, iteF k⟩)
theorem scSt : FnScope ["self"] ["self"] (defScope sStr) := ⟨rfl, rfl, rfl, by decide +kernel, rfl, by decide +kernel, by decide +kernel⟩
theorem num_few : ∀ n : Nat, n < 17 → (toString (n : Int) : Str).length ≤ 2 ∧ (n : Int).natAbs.log2 < 1920 := by decide +kernel
theorem app_len (x y : Str) : (x ++ y).length = x.length + y.length := by
  show (x.cps ++ y.cps).size = _
  rw [Array.size_append]; rfl
theorem emp_app (x : Str) : Str.empty ++ x = x := by
  show Str.mk (Str.empty.cps ++ x.cps) = x
  have : Str.empty.cps = #[] := rfl
  rw [this, Array.empty_append]
theorem ok_str {C f : Addr} {fd : FuncData} (F : Fun K "__str__" "Reader.__str__" sStr f fd) (T : TxR0 K mg P w base C) : FnOk P w K mg base CX0 1 f fd ["self"] (spStr K C) := by
  refine F.ok scSt (fun vs H Q E h => ?_) (fun cdv A outer s H vs Q E hr h => ?_)
  · obtain ⟨r, rs, rfl, _⟩ := h; rfl
  · obtain ⟨r, rs, rfl, ⟨dx, L, TT, ps, e, hL, hA, hP⟩, ok, k⟩ := h
    refine ⟨_, pss_one (ps_ret (pe_joined (.cons pe_str (.cons (pe_fmt (pe_callB call_lenT (by rfl) T.len PySem.boot_len (pa_cons (pe_fld (pv 0) rfl) pa_nil))) (.cons pe_str (.cons (pe_fmt (pe_callB call_lenT (by rfl) T.len PySem.boot_len (pa_cons (pe_fld (pv 0) rfl) pa_nil))) (.cons pe_str .nil))))))), ?_⟩
    have n1 := num_few rs.length (by have := ok.few; omega)
    have n2 := num_few ps.length (by have := ok.six ps hA; omega)
    obtain ⟨prs, ep, hp1, hp2⟩ := id hP
    have el : (prs.map fun r => V.ref r.1).length = ps.length := by rw [← ep, List.length_map, List.length_map]
    have l1 : (("reader of " : Str)).length = 10 := by decide +kernel
    have l2 : ((" lines, " : Str)).length = 8 := by decide +kernel
    have l3 : ((" tested" : Str)).length = 7 := by decide +kernel
    refine ⟨_, rfl, by rw [emp_app, l1, sizeLine_eq]; omega, _, rfl, r, C, dx, _, _, rfl, e, T.cl, T.nL, rd_lines L TT, L, _, rfl, hL.1, .inr ⟨_, rfl, by rw [List.length_map]; exact n1.2, _, rfl, ?_, ?_⟩⟩
    · rw [emp_app, app_len, List.length_map, l1, sizeLine_eq]; omega
    · refine ⟨_, rfl, ?_, _, rfl, r, C, dx, _, _, rfl, e, T.cl, T.nT, rd_tested L TT, TT, _, rfl, hp1, .inr ⟨_, rfl, by rw [el]; exact n2.2, _, rfl, ?_, ?_⟩⟩
      · rw [emp_app, app_len, app_len, List.length_map, l1, l2, sizeLine_eq]; omega
      · rw [emp_app, app_len, app_len, app_len, el, List.length_map, l1, l2, sizeLine_eq]; omega
      · refine ⟨_, rfl, ?_, ?_⟩
        · rw [emp_app, app_len, app_len, app_len, app_len, el, List.length_map, l1, l2, l3, sizeLine_eq]; omega
        · rw [emp_app, el, List.length_map]
          exact k ps hA
end
end Rd

/-! An exception of an own class with an __init__, over any built-in base: made, its field stored -/
namespace PySem
namespace Mk0
open PySem.W PySem.Calls PyProof.Rows PySem.HandSPX Builtin Builtin.ObjectAttr
/-- what is asked of the classes behind the own one -/
structure Bm (B : String) (bm : List Value) : Prop where
  b : bm.contains (.type B) = true
  a : bm.contains (.type "AttributeError") = false
  n : bm.contains (.type "NameError") = false
  o : bm.contains (.type "object") = true
  e : bm.isEmpty = false
  p : ∀ self, refuseLoop self "__setattr__" bm = pure ()
section
variable {M : Model} {A : Around} {E : Value → Shared → Prop} {h : Heap} {g : Array GenState} {d : Drawn} {t : Nat} {os : OsState}
variable {cn cq : Str} {C NS : Addr} {bs bm bmB : List Value} {hd : Bool} {sn : List Str} {su : List Value} {ab : Bool} {co : Option Bool} {dd : Option Addr} {m0 m1 m2 m3 m5 : Option Value} {B newId initId : String}
theorem chk_new (F : ExcBaseFacts B newId initId bmB) (Z : Bm B bm) {us : List Value} {Q : Unit → Shared → Prop} (hC : h.get? C = some (excClassObj cn cq C NS bs bm hd sn su ab co dd m0 m1 m2 m3 m5 newId)) (hq : Q () ⟨h, g, d, t, os⟩) :
    wpAny M A (checkBuiltinCall newId ⟨.ref C :: us, []⟩) Q E ⟨h, g, d, t, os⟩ := by
  have z1 : (Value.ref C :: bm).contains (.type B) = true := by (rw [List.contains_cons, Z.b, Bool.or_true])
  have z2 := F.noStar; (simp only [checkBuiltinCall, F.newKind, F.newSplit, F.newRow])
  repeat (first | refine wpAny_loadPart_at hC ?_ | (refine wpAny_isSubtype_exc hC ?_; rw [z1]) | refine wpAny_staticBase_exc hC ?_ | refine wpAny_madeBy_exc hC ?_ | (simp only [bne_self_eq_false, Bool.false_eq_true, if_false]) | wp_step)
  exact hq
end
section
variable {prog : Program} {w : World} {A : Around} {E : Value → Shared → Prop} {R : Result → Shared → Prop} {h : Heap} {g : Array GenState} {d : Drawn} {t : Nat} {os : OsState}
variable {cn cq : Str} {C NS : Addr} {bs bm bmB : List Value} {hd : Bool} {sn : List Str} {su : List Value} {ab : Bool} {co : Option Bool} {dd : Option Addr} {m0 m1 m2 m3 m5 : Option Value} {B newId initId : String}
theorem new_any (F : ExcBaseFacts B newId initId bmB) (Z : Bm B bm) {us : List Value} (hC : h.get? C = some (excClassObj cn cq C NS bs bm hd sn su ab co dd m0 m1 m2 m3 m5 newId))
    (hq : R (.ok (.ret (.ref (h.objs.size + 1)))) ⟨(h.push (W.kdv_tup us)).push (excO C h.objs.size), g, d, t, os⟩) (hz : us.length ≤ sizeLine) : codeAny (model prog w) A (.builtin newId ⟨.ref C :: us, []⟩) R ⟨h, g, d, t, os⟩ := by
  have z0 := F.ends; have z1 : (Value.ref C :: bm).contains (.type B) = true := by (rw [List.contains_cons, Z.b, Bool.or_true])
  have z2 : (Value.ref C :: bm).contains (.type "AttributeError") = false := by (rw [List.contains_cons, Z.a]; rfl)
  have z3 : (Value.ref C :: bm).contains (.type "NameError") = false := by (rw [List.contains_cons, Z.n]; rfl)
  refine codeAny_builtinAt F.entry ?_; unfold Builtin.«BaseException.__new__»; refine wpAt_bind ?_
  show wpAt _ _ _ (stack >>= _) _ _ _; refine wpAt_bind (wpAt_stack fun p below => wpAt_of_wpAny ?_)
  wp_walk; refine wpAt_of_wpAny ?_; rw [F.owner]
  repeat (first | with_reducible refine wpAny_madeHere_exc F.canon hC ?_ | with_reducible refine wpAny_loadPart_at hC ?_ | (with_reducible refine wpAny_isSubtype_exc hC ?_; first | rw [z1] | rw [z2] | rw [z3]) | wp_step)
  show R _ _; rw [Heap.size_push]; exact hq
theorem type_call_any (F : ExcBaseFacts B newId initId bmB) (Z : Bm B bm) {us : List Value} {fI : Addr} {Q : Fin → Shared → Prop} (hC : h.get? C = some (excClassObj cn cq C NS bs bm hd sn su ab co dd m0 m1 m2 m3 m5 newId))
    (hi : W.Looks (model prog w) h (typeLookup (.ref C) "__init__") (some (.ref fI))) (hb : ∀ self, W.Looks (model prog w) h (bindSpecial (.ref fI) self) (.ref fI, [self])) (hz : us.length ≤ sizeLine)
    (hq : codeAny (model prog w) A (.call (.ref fI) ⟨.ref (h.objs.size + 1) :: us, []⟩) (fun r s' => match r with | .ok (.ret v) => v = .none ∧ Q (.done (.ret (.ref (h.objs.size + 1)))) s' | .ok _ => False | .error e => E e s') ⟨(h.push (W.kdv_tup us)).push (excO C h.objs.size), g, d, t, os⟩) :
    wpAny (model prog w) A (Builtin.«type.__call__» ⟨.ref C :: us, []⟩) Q E ⟨h, g, d, t, os⟩ := by
  repeat (first | with_reducible refine wpAny_loadPart_at hC ?_ | with_reducible refine wpAny_madeBy_exc hC ?_ | wp_step)
  refine codeAny_call_builtin_code (Code.quiet_builtin _ F.quiet) (chk_new F Z hC ?_); refine new_any F Z hC ?_ hz; show wpAny _ _ _ _ _ _
  have k : ∀ b o, h.get? b = some o → ((h.push (W.kdv_tup us)).push (excO C h.objs.size)).get? b = some o := fun b o e => Heap.get?_push_of_some _ (Heap.get?_push_of_some _ e)
  have hC2 := k _ _ hC; have hg2 : ((h.push (W.kdv_tup us)).push (excO C h.objs.size)).get? (h.objs.size + 1) = some (excO C h.objs.size) := by heap_get
  have z4 : (Value.ref C :: bm).contains (.ref C) = true := by simp
  have i1 := hi.keeps k; have b1 := (hb (.ref (h.objs.size + 1))).keeps k; unfold isInstance
  repeat (first | with_reducible refine wpAny_loadPart_at hg2 ?_ | (with_reducible refine wpAny_isSubtype_exc hC2 ?_; rw [z4]) | wp_step)
  show wpAny _ _ (typeLookup (.ref C) _) _ _ _; refine i1.at ?_; refine wpAny_holding (wpAny_bind (b1.at ?_))
  refine wpAny_bind (wpAny_call (codeAny_mono hq fun r s' z => ?_)); rcases r with e | (v | _ | _ | _) <;> first | exact z | exact z.elim | skip
  obtain ⟨rfl, z⟩ := z; first | exact wpAny_pure (wpAny_pure z) | (wp_walk; exact z)
theorem call_any (F : ExcBaseFacts B newId initId bmB) (Z : Bm B bm) {us : List Value} {fI : Addr} (hC : h.get? C = some (excClassObj cn cq C NS bs bm hd sn su ab co dd m0 m1 m2 m3 m5 newId))
    (hi : W.Looks (model prog w) h (typeLookup (.ref C) "__init__") (some (.ref fI))) (hb : ∀ self, W.Looks (model prog w) h (bindSpecial (.ref fI) self) (.ref fI, [self])) (hz : us.length ≤ sizeLine)
    (hq : codeAny (model prog w) (A.under (.builtin "type.__call__" ⟨.ref C :: us, []⟩)) (.call (.ref fI) ⟨.ref (h.objs.size + 1) :: us, []⟩) (W.InitBack (h.objs.size + 1) R) ⟨(h.push (W.kdv_tup us)).push (excO C h.objs.size), g, d, t, os⟩) :
    codeAny (model prog w) A (.call (.ref C) ⟨us, []⟩) R ⟨h, g, d, t, os⟩ := by
  have f1 := tc_lookup; have f2 := tc_bind (.ref C); have f3 : (⟨h, g, d, t, os⟩ : Shared).TypeIs (.ref C) "type" := ⟨_, hC, rfl⟩
  refine codeAny_of_tree ?_; show wpAny _ _ (callAny (.ref C) _) _ _ _
  repeat (any_goals (first | assumption | with_reducible refine wpAny_loadPart_at hC ?_ | wp_step))
  refine ⟨rfl, ?_⟩; refine codeAny_call_builtin_at (Code.quiet_builtin _ (by decide +kernel)) entry_typeCall (wpAny_check_type_call_sub hC (type_call_any F Z hC hi hb hz ?_))
  refine codeAny_mono hq fun r s' z => ?_; rcases r with e | (v | _ | _ | _) <;> exact z
/-- self.name = v, the exception has no dict yet -/
theorem osa_any {K : W.Frag} {name : Str} {tk : Tok} {v : Value} {x : Addr} {fv : Array Value} {cd : ClassData} (X : K.In h) (hx : h.get? x = some { cls := .ref C, data := .fields fv }) (hcd : W.clsIn K C = some cd) (hm : cd.mro = .ref C :: bm) (Z : Bm B bm)
    (hh : cd.hasDict = true) (ha : W.findIn K (.ref C) name = some none)
    (hq : ∀ h' tk' dx, (∀ b o, b ≠ x → h.get? b = some o → h'.get? b = some o) → h.objs.size ≤ dx → dx ≠ x → h'.get? x = some { cls := .ref C, dict := some dx, data := .fields fv } → h'.Ns1 dx (fun y => if y = name then some v else none) → R (.ok (.ret .none)) ⟨h', g, d, tk', os⟩) :
    codeAny (model prog w) A (.call (.builtin "object.__setattr__") ⟨[.ref x, .str name tk, v], []⟩) R ⟨h, g, d, t, os⟩ := by
  have I : W.InstAt h x { cls := .ref C, data := .fields fv } C none := ⟨hx, rfl, rfl, trivial⟩
  have SF := F.store_object; have ne : cd.mro.isEmpty = false := by (rw [hm]; rfl)
  have ho : cd.mro.contains (.type "object") = true := by (rw [hm, List.contains_cons, Z.o, Bool.or_true])
  have hxs : x ≠ h.objs.size := Nat.ne_of_lt (Heap.lt_size hx)
  have sub : W.Looks (model prog w) h (isInstance (.ref x) (.type "object")) true := I.type.andThen (W.looks_mroIn X (by (unfold W.mroIn; rw [hcd, Option.bind_some, if_neg (by rw [ne]; decide), ho])))
  refine codeAny_call_builtin SF.slot.plain SF.entry (@W.check_slot (model prog w) _ _ ⟨h, g, d, t, os⟩ "object.__setattr__" "object" "__setattr__" (.ref x) [.str name tk, v] [] _ SF.kind SF.split sub (SF.args (.ref x) (.str name tk) v) ?_)
  have l1 : W.Looks (model prog w) h (mroOf (.ref C)) cd.mro := (W.looks_clsIn X hcd).andThen .now; have l3 : W.Looks (model prog w) h (storeTaker? none) none := .now
  have l4 : W.Looks (model prog w) h (classData C) cd := W.looks_clsIn X hcd
  have pass : refuseLoop (.ref x) "__setattr__" cd.mro = pure () := by (rw [hm, refuseLoop_ref]; exact Z.p _)
  rw [W.osa_eq, refuse_eq]; refine wpAny_bind (wpAny_bind (I.type.at (wpAny_bind (l1.at ?_)))); rw [pass]
  refine wpAny_pure (wpAny_bind (I.type.at (wpAny_bind ((W.looks_findIn X ha).at (wpAny_bind (l3.at ?_)))))); show wpAny _ _ (storeInOwnDict (.ref x) (.ref C) (.str name tk) name v false) _ _ _
  obtain ⟨nm, bs', mro, ns, qn, hd', sn', sb, ab', col, del⟩ := cd; dsimp only at hh; subst hh; unfold storeInOwnDict ownDictForStores
  repeat (first | with_reducible refine store_in_new ?_ ?_ | with_reducible refine wpAny_loadPart_at hx ?_ | with_reducible refine l4.at ?_ | wp_step)
  · exact ⟨_, #[], _, (Heap.get?_update_ne _ _ _ _ hxs.symm).trans (Heap.get?_push_at rfl rfl), rfl, fun e he => absurd he (by simp), fun _ => rfl⟩
  · intro h' tk' hn' hs; have hx₁ : (h.push { cls := .type "dict", data := .dict #[] }).get? x = some { cls := .ref C, data := .fields fv } := Heap.get?_push_of_some _ hx
    refine hq h' tk' h.objs.size (fun b o hb ho => ?_) (Nat.le_refl _) hxs.symm ?_ hn'
    · exact (hs.2 b (Nat.ne_of_lt (Heap.lt_size ho))).trans ((Heap.get?_update_ne _ _ _ _ hb).trans (Heap.get?_push_of_some _ ho))
    · exact (hs.2 x hxs).trans (Heap.get?_update_self _ hx₁ rfl)
end
/-- the six bases -/
abbrev bIx : List Value := [.type "IndexError", .type "LookupError", .type "Exception", .type "BaseException", .type "object"]
abbrev bKey : List Value := [.type "KeyError", .type "LookupError", .type "Exception", .type "BaseException", .type "object"]
abbrev bOv : List Value := [.type "OverflowError", .type "ArithmeticError", .type "Exception", .type "BaseException", .type "object"]
abbrev bRt : List Value := [.type "RuntimeError", .type "Exception", .type "BaseException", .type "object"]
abbrev bAr : List Value := [.type "ArithmeticError", .type "Exception", .type "BaseException", .type "object"]
abbrev bLk : List Value := [.type "LookupError", .type "Exception", .type "BaseException", .type "object"]
theorem z_ix : Bm "IndexError" bIx := ⟨by (decide +kernel), by (decide +kernel), by (decide +kernel), by (decide +kernel), rfl, fun self => by kernel_rfl⟩
theorem z_key : Bm "LookupError" bKey := ⟨by (decide +kernel), by (decide +kernel), by (decide +kernel), by (decide +kernel), rfl, fun self => by kernel_rfl⟩
theorem z_ov : Bm "OverflowError" bOv := ⟨by (decide +kernel), by (decide +kernel), by (decide +kernel), by (decide +kernel), rfl, fun self => by kernel_rfl⟩
theorem z_rt : Bm "RuntimeError" bRt := ⟨by (decide +kernel), by (decide +kernel), by (decide +kernel), by (decide +kernel), rfl, fun self => by kernel_rfl⟩
theorem z_ar : Bm "ArithmeticError" bAr := ⟨by (decide +kernel), by (decide +kernel), by (decide +kernel), by (decide +kernel), rfl, fun self => by kernel_rfl⟩
theorem z_lk : Bm "LookupError" bLk := ⟨by (decide +kernel), by (decide +kernel), by (decide +kernel), by (decide +kernel), rfl, fun self => by kernel_rfl⟩
#check @F.excBase_LookupError
#check @F.excBase_OverflowError
#check @F.excBase_RuntimeError
#check @F.excBase_ArithmeticError
end Mk0
end PySem

namespace PySem
namespace Mk0
open PySem.W PySem.Calls PyProof.Rows PySem.HandSPX
/-! the text of __init__(self, f): self.f = f -/
def oA (f : Str) (p1 p2 : Pos) : Arguments := { posonlyargs := [], args := [{ arg := "self", annotation := none, pos := p1 }, { arg := f, annotation := none, pos := p2 }], vararg := none, kwonlyargs := [], kw_defaults := [], kwarg := none, defaults := [] }
def oB (f : Str) (q1 q2 q3 q4 : Pos) : List Stmt := [.Assign [.Attribute (.Name "self" q1) f q2] (.Name f q3) q4]
def oS (f : Str) : Scope := { kind := .function, names := [(PySem.Str.ofString "self", .local), (f, .local)], isGenerator := false, isCoroutine := false, more := [] }
/-- the field names of this program -/
abbrev fNames : List Str := ["value", "name", "limit", "readers", "paper", "many"]
/-- what the written part says of the class at C, of its __init__ at fI -/
structure OTxt (K : Frag) (C fI : Addr) (f qual : Str) (B newId : String) (bm : List Value) : Prop where
  fn : f ∈ fNames
  F : ∃ initId bmB, ExcBaseFacts B newId initId bmB
  Z : Bm B bm
  cls : ∃ nm q N bs sn sub ab col dd k0 k1 k2 k3 k5, K.lookup C = some (excClassObj nm q C N bs bm true sn sub ab col dd k0 k1 k2 k3 k5 newId)
  sa : findIn K (.ref C) "__setattr__" = some (some (.builtin "object.__setattr__"))
  ga : findIn K (.ref C) "__getattribute__" = some (some (.builtin "BaseException.__getattribute__"))
  gg : findIn K (.ref C) "__getattr__" = some none
  noN : findIn K (.ref C) f = some none
  iC : findIn K (.ref C) "__init__" = some (some (.ref fI))
  tC : typeIn K (.ref fI) = some (.type "function")
  kC : keepIn K (.ref C) = true
  exC : subIn K (.ref C) (.type "BaseException") = some true
  tyC : typeIn K (.ref C) = some (.type "type")
  hdC : hasDictIn K C = true
  def_ : ∃ (oc : Value) (od : Option Addr) (doc pm : Value) (an : Option Addr) (cdv ct : Value) (osl : Array (Option Value)) (p1 p2 q1 q2 q3 q4 : Pos),
    K.lookup fI = some ⟨oc, od, .func (fnOf "__init__" qual (oA f p1 p2) (oB f q1 q2 q3 q4) (oS f) .none .none doc pm an cdv ct), osl⟩ ∧ codeIn K cdv qual = true
theorem ld_own {M : Model} {s : Shared} {name : Str} {scope : Scope} {L a : Addr} {cd : Value} {m : Str → Option Value} {x : Str} {pos : Pos} {v : Value} {Q : Value → Shared → Prop} {A : Around} {E : Value → Shared → Prop} (hn : s.heap.Ns L m) (hv : m x = some v) (h : Q v s)
    (hk : scope.kind = .function := by rfl) (hl : (envOfC name scope L a cd).kindOf x = some .local := by rfl) (hd : (x == ("__debug__" : Str)) = false := by decide) : wpAny M A (eval (.Name x pos) (envOfC name scope L a cd)) Q E s := wpAny_Name (wpAny_loadName_local hk hl hn hv h) hd
/-- what __init__ leaves of a fresh exception at x -/
structure OEnd (f : Str) (h h' : Heap) (x C dx t1 : Addr) (v : Value) : Prop where
  keep : ∀ b o, b ≠ x → h.get? b = some o → h'.get? b = some o
  obj : h'.get? x = some { cls := .ref C, dict := some dx, data := .fields #[.ref t1, .none, .none, .none, .bool false, .none] }
  big : h.objs.size ≤ dx
  ne : dx ≠ x
  ns : h'.Ns1 dx (fun y => if y = f then some v else none)
/-- one that is made -/
structure OMade (f : Str) (h h' : Heap) (e C d : Addr) (v : Value) : Prop where
  keep : ∀ b o, h.get? b = some o → h'.get? b = some o
  new : h.objs.size ≤ e
  obj : ∃ t1 : Addr, h'.get? e = some { cls := .ref C, dict := some d, data := .fields #[.ref t1, .none, .none, .none, .bool false, .none] }
  big : h.objs.size ≤ d
  ne : d ≠ e
  ns : h'.Ns1 d (fun y => if y = f then some v else none)
section
variable {prog : Program} {w : World} {A : Around} {E : Value → Shared → Prop} {R : Result → Shared → Prop} {s : Shared} {K : Frag} {C fI : Addr} {f qual : Str} {B newId : String} {bm : List Value}
theorem o_init (T : OTxt K C fI f qual B newId bm) {x t0 : Addr} {v : Value} (X : K.In s.heap) (hlim : s.heap.NoLimit) (hx : s.heap.get? x = some (excO C t0)) (hroom : A.depth < recursionLimit)
    (hq : ∀ h' tk dx, OEnd f s.heap h' x C dx t0 v → R (.ok (.ret .none)) { s with heap := h', toks := tk }) : codeAny (model prog w) A (.call (.ref fI) ⟨[.ref x, v], []⟩) R s := by
  obtain ⟨oc, od, doc, pm, an, cdv, ct, osl, p1, p2, q1, q2, q3, q4, ho, hcd⟩ := T.def_
  obtain ⟨nm, q, N, bs, sn, sub, ab, col, dd, k0, k1, k2, k3, k5, hC⟩ := T.cls
  have hcl : clsIn K C = some { name := nm, bases := bs, mro := .ref C :: bm, ns := N, qualname := q, hasDict := true, slotNames := sn, subclasses := sub, abstract := ab, collection := col, hasDel := false } := by (unfold clsIn; rw [hC] <;> rfl)
  have hf := T.fn; have hsa := T.sa; have hno := T.noN; have hZ := T.Z; clear T
  simp only [fNames, List.mem_cons, List.not_mem_nil, or_false] at hf
  rcases hf with rfl | rfl | rfl | rfl | rfl | rfl
  all_goals (refine Att.call_fn (binds := [("self", .ref x), (_, v)]) X hlim ho hcd hroom (BindsTo.of_eq (by first | rfl | with_unfolding_all rfl)) (by first | rfl | decide | with_unfolding_all rfl) (fun s₁ IC => ?_) rfl rfl rfl)
  all_goals (
    obtain ⟨h₁, tk₁, rfl⟩ := IC.toInCall.same; have k : ∀ b o, s.heap.get? b = some o → h₁.get? b = some o := IC.toInCall.keep; have hn := IC.toInCall.ns
    have hxL : s.heap.objs.size ≠ x := Nat.ne_of_gt (Heap.lt_size hx); have X₁ : K.In h₁ := X.keeps k; have hx₁ := k _ _ hx
    show wpAny _ _ (execs _ _) _ _ _; refine wpAny_execs_cons (plainObj_wpAny_Assign_Attribute ?_)
    refine ld_own (v := v) hn (by first | rfl | with_unfolding_all rfl | kernel_rfl) (ld_own (v := .ref x) hn (by first | rfl | with_unfolding_all rfl | kernel_rfl) ?_)
    refine set_plain X₁ (ox := excO C t0) (od := none) ⟨hx₁, rfl, rfl, trivial⟩ hsa ?_
    refine osa_any X₁ hx₁ hcl rfl hZ rfl hno (fun h₃ tk₃ dx k₃ dn dne hx₃ hn₃ => ?_); show wpAny _ _ (execs _ _) _ _ _
    have z : s.heap.objs.size < h₁.objs.size := hn.lt; exact wpAny_execs_nil (hq h₃ tk₃ dx ⟨fun b o hb e => k₃ b o hb (k b o e), hx₃, Nat.le_of_lt (Nat.lt_of_lt_of_le z dn), dne, hn₃⟩))
theorem one_fits (v : Value) : [v].length ≤ sizeLine := by (rw [sizeLine_eq]; exact (by decide : 1 ≤ 16777216))
theorem o_made (T : OTxt K C fI f qual B newId bm) {v : Value} (X : K.In s.heap) (hlim : s.heap.NoLimit) (hroom : A.depth + 1 < recursionLimit)
    (hq : ∀ h' tk e d, OMade f s.heap h' e C d v → R (.ok (.ret (.ref e))) { s with heap := h', toks := tk }) : codeAny (model prog w) A (.call (.ref C) ⟨[v], []⟩) R s := by
  obtain ⟨nm, q, N, bs, sn, sub, ab, col, dd, k0, k1, k2, k3, k5, hC⟩ := T.cls; obtain ⟨initId, bmB, F⟩ := T.F; obtain ⟨hp, g, dr, tk, os⟩ := s
  have k : ∀ b o, hp.get? b = some o → ((hp.push (kdv_tup [v])).push (excO C hp.objs.size)).get? b = some o := fun b o e => Heap.get?_push_of_some _ (Heap.get?_push_of_some _ e)
  have hget : ((hp.push (kdv_tup [v])).push (excO C hp.objs.size)).get? (hp.objs.size + 1) = some (excO C hp.objs.size) := by heap_get
  refine call_any F T.Z (X _ _ hC) (looks_findIn X T.iC) (fun self => bind_fn X self T.tC) (one_fits v) ?_
  refine o_init (s := ⟨(hp.push (kdv_tup [v])).push (excO C hp.objs.size), g, dr, tk, os⟩) T (X.keeps k) (hlim.keeps k) hget ?_ fun h' tk' dx ⟨k', hx, dn, dne, hns⟩ => ?_
  · show A.depth + 1 < recursionLimit; exact hroom
  · have old : ∀ b o, hp.get? b = some o → h'.get? b = some o := fun b o e => k' b o (Nat.ne_of_lt (Nat.lt_succ_of_lt (Heap.lt_size e))) (k b o e)
    have z : hp.objs.size + 1 + 1 ≤ dx := by first | (simpa only [Heap.size_push] using dn) | exact dn | (have q := dn; rw [Heap.size_push, Heap.size_push] at q; exact q)
    exact ⟨rfl, hq h' tk' (hp.objs.size + 1) dx ⟨old, Nat.le_succ _, ⟨_, hx⟩, Nat.le_trans (Nat.le_trans (Nat.le_succ _) (Nat.le_succ _)) z, dne, hns⟩⟩
end
end Mk0
end PySem

namespace Ox
open PySem PySem.Spec PyProof.Rows L2
theorem relO_one {f g : Str} {v : V} {v' : Value} (r : RelV v v') : RelO (List.lookup g [(f, v)]) (if g = f then some v' else none) := by
  by_cases hw : g = f
  · subst hw; rw [if_pos rfl, show List.lookup g [(g, v)] = some v by simp [List.lookup]]; exact r
  · rw [if_neg hw, show List.lookup g [(f, v)] = none by simp [List.lookup, show (g == f) = false by simpa using hw]]; trivial
section
variable {X : Cx} {C fI : Addr} {f qual : Str} {B newId : String} {bm : List Value}
/-- C(e), C an exception class of one's own with a field f, made to be raised -/
def tOi (C : Addr) (f : Str) (ta : TA) : L2.St → Hp → XK → Prop := fun σ H Q => ta σ H fun vs H1 => ∃ v, vs = [v] ∧ ∀ d, H1 d = none → Q (.ref C) (some d) (upd H1 d (.xd [(f, v)]))
theorem pmk_oi {a : Expr} {ta : TA} {p pos : Pos} {k : Nat} {x : Str} (T : PySem.Mk0.OTxt X.K C fI f qual B newId bm) (gC : X.mg x = some (.ref C)) (hr : Room k X.A) (ha : PA X [a] ta) (hg : Gl X x := by rfl) (hdb : (x == ("__debug__" : Str)) = false := by decide)
    (he : starEach (a :: []) X.env = (false, eval a X.env) :: starEach [] X.env := by rfl) (hpl : (backTo pos (starEach [] X.env)).any (·.1) = false := by rfl) : L2N.PMk X (.Call (.Name x p) [a] [] pos) (tOi C f ta) := by
  intro pins s σ H Q I h; refine wpAny_Call_Name_kw (ld_glob I hg gC ?_ hdb)
  refine PySem.W.callWith_K (h₀ := X.base) I.ok.mod.kin T.kC (thn (ha.run pos pins s σ H _ I h) fun us s1 ⟨vs, H1, I1, r1, v, ev, q1⟩ => ?_) he hpl
  subst ev; refine ⟨I1.kIn, ?_⟩; obtain ⟨v', e', rv⟩ := vals1 r1; subst e'
  · show wpAny _ _ (call (.ref C) [v']) _ _ _; have hlim := I1.nolimit; obtain ⟨hp, g, dr, tk, os⟩ := s1
    refine wpAny_call (PySem.Mk0.o_made T I1.kIn hlim (by have := hr.dp; omega) fun h' tk' e d M => ?_)
    show L2N.MkP X pins σ Q (.ref e) ⟨h', g, dr, tk', os⟩
    obtain ⟨t1, hoe⟩ := M.obj; have hns := M.ns; obtain ⟨G', g1, g2⟩ := restrict h' fun b => decide (b ≠ e)
    have gk : ∀ b, b ≠ e → G'.get? b = h'.get? b := fun b hb => g1 b (decide_eq_true hb); have ge : G'.get? e = none := g2 e (by simp)
    have old : ∀ b o, hp.get? b = some o → G'.get? b = some o := fun b o q => (gk b (Nat.ne_of_lt (Nat.lt_of_lt_of_le (Heap.lt_size q) M.new))).trans (M.keep b o q)
    have ob : ObjOk X.prog X.w (upd H1 d (.xd [(f, v)])) G' d (.xd [(f, v)]) := ⟨_, hns.at (fun o q => (gk d M.ne).trans q), fun g => relO_one rv⟩
    have J : Inv X pins σ (upd H1 d (.xd [(f, v)])) ⟨G', g, dr, tk', os⟩ := I1.laid (t' := tk') old M.big ob
    refine ⟨e, _, _, ⟨G', g, dr, tk', os⟩, _, .ref C, some d, rfl, J, fun b o q => ?_, ge, hoe, ⟨rfl, rfl, fun vs z => by cases z; rfl⟩, rfl, rfl, ?_, rfl, I1.bare, raises_own T.exC T.tyC, q1 d (I1.hok.fresh M.big)⟩
    · by_cases hb : b = e
      · have q' : G'.get? b = some o := q
        rw [hb, ge] at q'; cases q'
      · exact (gk b hb).symm.trans q
    · rw [upd_ne (Ne.symm M.ne)]; exact I1.hok.fresh M.new
/-- C(e) as a value -/
def tOv (C : Addr) (f : Str) (ta : TA) : TE := fun σ H Q => ta σ H fun vs H1 => ∃ v, vs = [v] ∧ ∀ e d, H1 e = none → H1 d = none → d ≠ e → Q (.ref e) (upd (upd H1 d (.xd [(f, v)])) e (exo e C (some d)))
theorem pe_ov {a : Expr} {ta : TA} {p pos : Pos} {k : Nat} {x : Str} (T : PySem.Mk0.OTxt X.K C fI f qual B newId bm) (gC : X.mg x = some (.ref C)) (hr : Room k X.A) (ha : PA X [a] ta) (hg : Gl X x := by rfl) (hdb : (x == ("__debug__" : Str)) = false := by decide)
    (he : starEach (a :: []) X.env = (false, eval a X.env) :: starEach [] X.env := by rfl) (hpl : (backTo pos (starEach [] X.env)).any (·.1) = false := by rfl) : PE X (.Call (.Name x p) [a] [] pos) (tOv C f ta) := by
  refine ⟨fun pins s σ H Q I h => ?_⟩; refine wpAny_Call_Name_kw (ld_glob I hg gC ?_ hdb)
  refine PySem.W.callWith_K (h₀ := X.base) I.ok.mod.kin T.kC (thn (ha.run pos pins s σ H _ I h) fun us s1 ⟨vs, H1, I1, r1, v, ev, q1⟩ => ?_) he hpl
  subst ev; refine ⟨I1.kIn, ?_⟩; obtain ⟨v', e', rv⟩ := vals1 r1; subst e'
  · show wpAny _ _ (call (.ref C) [v']) _ _ _; have hlim := I1.nolimit; obtain ⟨hp, g, dr, tk, os⟩ := s1
    refine wpAny_call (PySem.Mk0.o_made T I1.kIn hlim (by have := hr.dp; omega) fun h' tk' e d M => ?_)
    show EP X pins σ Q (.ref e) ⟨h', g, dr, tk', os⟩
    obtain ⟨t1, hoe⟩ := M.obj; have hns := M.ns; have he1 : H1 e = none := I1.hok.fresh M.new; have hd1 : H1 d = none := I1.hok.fresh M.big
    have ob : ObjOk X.prog X.w (upd H1 d (.xd [(f, v)])) h' d (.xd [(f, v)]) := ⟨_, hns, fun g => relO_one rv⟩
    have J0 : Inv X pins σ (upd H1 d (.xd [(f, v)])) ⟨h', g, dr, tk', os⟩ := I1.laid (t' := tk') M.keep M.big ob
    have he2 : upd H1 d (.xd [(f, v)]) e = none := by (rw [upd_ne (Ne.symm M.ne)]; exact he1)
    -- e itself: a new object beside d
    have nod : ∀ {b : Addr} {o : Obj}, hp.get? b = some o → b ≠ e ∧ b ≠ d := fun q => ⟨Nat.ne_of_lt (Nat.lt_of_lt_of_le (Heap.lt_size q) M.new), Nat.ne_of_lt (Nat.lt_of_lt_of_le (Heap.lt_size q) M.big)⟩
    have U : Un X.fs [] H1 (upd (upd H1 d (.xd [(f, v)])) e (exo e C (some d))) hp h' := ⟨fun b o q n _ _ => M.keep b o q, fun b o q n _ _ => ⟨o.slots, M.keep b o q⟩, fun b o q n _ => by (rw [upd_ne (nod q).1, upd_ne (nod q).2]; exact n), fun b o q _ => ⟨o, M.keep b o q⟩,
      fun b xs q => by (rw [upd_ne (ne_of_none q he1), upd_ne (ne_of_none q hd1)]; exact q), fun b o u q => by (rw [upd_ne (ne_of_none q he1), upd_ne (ne_of_none q hd1)]; exact q), fun b ps q => ⟨#[], by (rw [upd_ne (ne_of_none q he1), upd_ne (ne_of_none q hd1), q]; simp)⟩⟩
    have ok2 : HOk X.prog X.w (upd (upd H1 d (.xd [(f, v)])) e (exo e C (some d))) h' := fun b o q => by
      by_cases hb : b = e
      · subst hb; rw [upd_same] at q; cases q; exact exo_ok hoe
      · rw [upd_ne hb] at q
        exact (J0.hok b o q).stay (fun c u hc z => z) (fun c hc => by (rw [upd_ne (ne_of_none hc he2)]; exact hc)) fun c xs hc => by (rw [upd_ne (ne_of_none hc he2)]; exact hc)
    exact ⟨.ref e, _, I1.un (t' := tk') U ok2, rfl, q1 e d he1 hd1 M.ne⟩
/-- e.f of an exception that is held as a value -/
def tXv (C : Addr) (f : Str) (te : TE) : TE := fun σ H Q => te σ H fun x H1 => ∃ (a d : Addr) (v : V), x = .ref a ∧ H1 a = some (exo a C (some d)) ∧ H1 d = some (.xd [(f, v)]) ∧ Q v H1
theorem pe_xv {e : Expr} {te : TE} {pos : Pos} (T : PySem.Mk0.OTxt X.K C fI f qual B newId bm) (he : PE X e te) (hb : attributeBase e f X.env (eval e X.env) = eval e X.env := by rfl) : PE X (.Attribute e f pos) (tXv C f te) := by
  refine ⟨fun pins s σ H Q I h => ?_⟩; refine attr_of hb (thn (he.run pins s σ H _ I h) fun u s1 ⟨x, H1, I1, rx, a, d, v, ex, ea, ed, q⟩ => ?_)
  subst ex; obtain rfl : u = Value.ref a := rx; obtain ⟨t1, ha⟩ := exo_at I1.hok ea
  have hx : ObjOk X.prog X.w H1 s1.heap d (.xd [(f, v)]) := I1.hok d _ ed; obtain ⟨mA, hns, hr⟩ := hx; obtain ⟨od, ho, hl⟩ := lookIn_ns hns
  obtain ⟨u, hu, ru⟩ := RelO.some_of (v := v) (o := mA f) (by have z := hr f; rw [show List.lookup f [(f, v)] = some v by simp [List.lookup]] at z; exact z)
  have J : PySem.W.InstAt s1.heap a _ C (some od) := ⟨ha, rfl, rfl, ho⟩
  exact HandSPX.exc_get I1.kIn J T.ga T.gg T.exC (PySem.W.findObj_own T.hdC T.noN rfl (by (rw [hl, hu]))) (handed_of ru) ⟨v, H1, I1.tok _, ru, q⟩
end
end Ox

namespace Ox
open PySem PySem.Spec PyProof.Rows L2
/-- behind an except suite the slot of its name is empty -/
abbrev gone (i : Nat) (D : Ends) : Ends := { nx := fun σ' H' => D.nx (σ'.set i none) H', rt := D.rt, bk := fun σ' H' => D.bk (σ'.set i none) H', ct := fun σ' H' => D.ct (σ'.set i none) H' }
/-- what several clauses, all with a name in the slot i, wish of an exception -/
def wAll (K : PySem.W.Frag) (i : Nat) (Wout : WX) (D : Ends) : List (Value × (Addr → Value → Option Addr → TS)) → WX
  | [] => Wout
  | (c, ts) :: r => fun cls d σ H => ∃ b, PySem.W.exmOne K cls c = some b ∧ (b = true → ∀ a, H a = none → ts a cls d (gone i D) (σ.set i (some (.ref a))) H) ∧ (b = false → wAll K i Wout D r cls d σ H)
inductive Clauses (X : Cx) (n : Str) : List ExceptHandler → List (Value × (Addr → Value → Option Addr → TS)) → Prop
  | nil : Clauses X n [] []
  | cons {x : Str} {c : Value} {ts : Addr → Value → Option Addr → TS} {b₀ : Stmt} {su : List Stmt} {np pos' : Pos} {hds : List ExceptHandler} {l : List (Value × (Addr → Value → Option Addr → TS))} (hc : Names X x c)
      (hsu : ∀ (a : Addr) (oe : Obj) (cls : Value) (d : Option Addr) (pn : List (Addr × Obj)), L2N.Zn cls d oe → (∃ vs, oe.data = .fields vs) → PSs (X.suite a ((a, oe) :: pn)) (b₀ :: su) (ts a cls d)) (r : Clauses X n hds l) : Clauses X n (.ExceptHandler (some (.Name x np)) (some n) (b₀ :: su) pos' :: hds) ((c, ts) :: l)
section
variable {X : Cx} {n : Str} {i : Nat} {body : List Stmt} {h₀ : ExceptHandler} {hds : List ExceptHandler} {l : List (Value × (Addr → Value → Option Addr → TS))} {pos : Pos} {tb : WX → TS} {Wout : WX}
theorem ps_try_all (hs : X.stack = X.env :: X.outer) (hf : X.env.frame = some X.env.locals) (hN : X.N.Nodup) (hi : X.N[i]? = some n) (hln : X.env.kindOf n = some .local) (tk : L2N.Takes X Wout)
    (hb : ∀ (W : WX) (pn : List (Addr × Obj)) (xe : Value → Shared → Prop), L2N.Takes (X.tr pn xe) W → PassesOwn (model X.prog X.w) X.A X.env xe → PSs (X.tr pn xe) body (tb W))
    (hh : Clauses X n (h₀ :: hds) l) : PS X (.Try body (h₀ :: hds) [] [] pos) (fun D σ H => tb (wAll X.K i Wout D l) D σ H) := by
  refine ⟨fun pins s σ H D I h => ?_⟩; have ok := I.ok; have hfr : X.A.frames = some (X.env :: X.outer) := by (rw [ok.frames, hs])
  have hloc : Loc X.env.scope n := .inl hln; refine wpAny_Try_except ?_
  refine wpAny_mono ((hb (wAll X.K i Wout D l) (X.pn ++ pins) (fun e s₁ => wpAny (model X.prog X.w) X.A (noteFrame e X.env) (fun _ s₂ => wpAny (model X.prog X.w) X.A (setFlight e none) (fun _ s₃ => wpAny (model X.prog X.w) X.A (handleBy e X.env (h₀ :: hds)) (SP X pins D) X.xe s₃) X.xe s₂) X.xe s₁)
    (fun u s' xx => ?_) PassesOwn.looking).run [] s σ H D (I.toTry _) h) (fun fl s1 hsp => ?_) (fun e s1 he => he)
  · obtain ⟨a, B, sI, pins', σ', H', cls, d, rfl, J', nb, up, sky, na, os, ag, w⟩ := xx; have J : Inv X pins σ' H' sI := J'.ofTry ok
    have sky' : Sky B (X.env :: X.outer) a (L2N.Zn cls d) X.env.locals s'.heap := by (rw [← hs]; exact sky)
    show wpAny (model X.prog X.w) X.A (noteFrame (.ref a) X.env) _ _ _; refine L2N.Sky.land L2N.Zn.steady hfr hf sky' fun h3 fl3 up3 => ?_
    have J3 : Inv X pins σ' H' { s' with heap := h3 } := J.landed nb fl3.1 (up.trans up3) os ag; obtain ⟨oe3, vs3, he3, hz3, hd3⟩ := fl3.there
    have nfr : a ∉ frs (X.env :: X.outer) := fun hm => by
      obtain ⟨_, o', e', hnf⟩ := fl3.2.2.1.mem hm
      rw [he3] at e'; cases e'; exact hnf _ hd3
    have nL : a ≠ X.env.locals := fun z => nfr (List.mem_filterMap.mpr ⟨X.env, List.mem_cons_self, by (rw [hf, z])⟩)
    have nF : a ∉ X.fs := fun hm => by
      obtain ⟨e, he, q⟩ := List.mem_filterMap.mp hm
      exact nfr (List.mem_filterMap.mpr ⟨e, List.mem_cons_of_mem _ he, q⟩)
    have S3 := J3.suite he3 hd3 na nL nF
    have LT : PySem.W.Looks (model X.prog X.w) h3 (typeOf (.ref a)) cls := fun A Q E s k q => wpAny_typeOf_ref (k _ _ he3) (by (rw [hz3.1]; exact q))
    have go : ∀ {hds' : List ExceptHandler} {l' : List (Value × (Addr → Value → Option Addr → TS))}, Clauses X n hds' l' → wAll X.K i Wout D l' cls d σ' H' → wpAny (model X.prog X.w) X.A (handleBy (.ref a) X.env hds') (SP X pins D) X.xe { s' with heap := h3 } := by
      intro hds' l' hk
      induction hk with
      | nil =>
        intro w; refine wpAny_handleBy_nil ?_; obtain ⟨k1, k2, k3, oe, vs, T, oT, ts', he, hz, hd, h1, hr⟩ := id fl3; unfold PySem.passOn
        refine wpAny_bind (wpAny_field he hd h1 ?_); rw [if_neg (show ¬ ((Value.ref T == Value.none) = true) from by simp)]
        have fin : wpAny (model X.prog X.w) X.A (setFlight (.ref a) X.env.frame) (fun _ s4 => wpAny (model X.prog X.w) X.A (throw (.ref a) : Sem Flow) (SP X pins D) X.xe s4) X.xe { s' with heap := h3 } := by
          rw [hf]; refine PySem.HandSPX.setFlight_upZ fl3 fun h4 hh4 up4 => wpAny_throw (tk _ _ ?_)
          exact ⟨a, B, sI, pins, σ', H', cls, d, rfl, J, nb, (up.trans up3).trans up4, .inr (.inr (by (rw [hs]; exact hh4))), na, os, ag, w⟩
        first | exact wpAny_bind (wpAny_pure (wpAny_bind fin)) | exact wpAny_bind fin
      | @cons x c ts b₀ su np pos' hds2 l2 hc hsu r ih =>
        intro w; obtain ⟨b, hb1, hyes, hno⟩ := w; refine wpAny_handleBy_cons (codeAny_handlers_test ?_) (by intro q; cases q)
        have LM := PySem.W.exm_one (M := model X.prog X.w) (J3.kIn) LT hb1
        have test : ∀ {Q : Value → Shared → Prop} {E : Value → Shared → Prop}, Q c { s' with heap := h3 } → wpAny (model X.prog X.w) (X.A.mark (some (.ref a))) (eval (.Name x np) X.env) Q E { s' with heap := h3 } := fun {Q E} q => by
          obtain ⟨hg, hdbg, hm | ⟨hm, hv, hnn⟩⟩ := hc
          · exact ld_glob (X := X.suite a ((a, oe3) :: (X.pn ++ pins))) S3 hg hm q hdbg
          · exact ld_blt (X := X.suite a ((a, oe3) :: (X.pn ++ pins))) S3 hg hm hv q hnn hdbg
        refine test (LM.here ?_)
        cases b with
        | false => show wpAny _ X.A (handleBy (.ref a) X.env hds2) _ _ _; exact ih (hno rfl)
        | true =>
          refine codeAny_handlers_suite_as ?_; refine PySem.HandSPX.lands_againZ fl3 fun h4 fl4 up4 => ?_
          have J4 : Inv X pins σ' H' { s' with heap := h4 } := J.landed nb fl4.1 ((up.trans up3).trans up4) os ag; obtain ⟨oe4, vs4, he4, hz4, hd4⟩ := fl4.there
          have S4 := J4.suite he4 hd4 na nL nF; refine store_ok (X := X.suite a ((a, oe4) :: (X.pn ++ pins))) (v := .ref a) S4 hN hi hloc rfl (fun s5 S5 => ?_) (.inr hln)
          refine wpAny_mono ((hsu a oe4 cls d (X.pn ++ pins) hz4 ⟨_, hd4⟩).run [] s5 _ H' _ S5 (hyes rfl a na)) (fun fl s6 hsp => ?_) (fun _ _ z => False.elim z)
          have end_ : ∀ {σ6 : L2.St} {H6 : Hp} {Q : Shared → Prop}, Inv (X.suite a ((a, oe4) :: (X.pn ++ pins))) [] σ6 H6 s6 → (∀ s7, Inv X pins (σ6.set i none) H6 s7 → Q s7) →
              wpAny (model X.prog X.w) X.A (do bindName X.env n .none; unbindBehindTheSuite X.env n pos') (fun _ s7 => Q s7) X.xe s6 := fun {σ6 H6 Q} S6 hq => gone_ok (S6.unsuite ok) hN hi hln hq
          cases fl with
          | next => obtain ⟨σ6, H6, S6, q6⟩ := hsp; exact end_ S6 fun s7 J7 => ⟨_, _, J7, q6⟩
          | brk => obtain ⟨σ6, H6, S6, q6⟩ := hsp; exact end_ S6 fun s7 J7 => ⟨_, _, J7, q6⟩
          | cont => obtain ⟨σ6, H6, S6, q6⟩ := hsp; exact end_ S6 fun s7 J7 => ⟨_, _, J7, q6⟩
          | ret u => obtain ⟨v6, σ6, H6, S6, r6, q6⟩ := hsp; exact end_ S6 fun s7 J7 => ⟨_, _, _, J7, r6, q6⟩
    exact go hh w
  · cases fl with
    | next => obtain ⟨σ', H', J', q⟩ := hsp; exact wpAny_execs_nil ⟨σ', H', J'.ofTry ok, q⟩
    | brk => obtain ⟨σ', H', J', q⟩ := hsp; exact ⟨σ', H', J'.ofTry ok, q⟩
    | cont => obtain ⟨σ', H', J', q⟩ := hsp; exact ⟨σ', H', J'.ofTry ok, q⟩
    | ret u => obtain ⟨v, σ', H', J', r, q⟩ := hsp; exact ⟨v, σ', H', J'.ofTry ok, r, q⟩
end
end Ox

namespace Ox
open PySem PySem.Spec PyProof.Rows L2
/-- isinstance(a, c), a an exception that is pinned, of the class at D, with the dict d -/
def rIsP (K : PySem.W.Frag) (D a : Addr) (d : Option Addr) : List V → Hp → VK → Prop := fun xs H Q => ∃ (c : V) (cv : Value) (b : Bool), xs = [.ref a, c] ∧ (∀ u, RelV c u → u = cv) ∧ PySem.W.kitOne K (.ref D) cv = some b ∧ (∀ dd, d = some dd → ∃ fs, H dd = some (.xd fs)) ∧ Q (.bl b) H
theorem call_isP {X : Cx} {a D : Addr} {oe : Obj} {d : Option Addr} (C : ExcC X.K D) (hp : (a, oe) ∈ X.pn) (hz : Zc (.ref D) d oe) (hf : ∃ vs, oe.data = .fields vs) : CallR X (.builtin "isinstance") (rIsP X.K D a d) := by
  intro pins s σ H xs us Q I r h; obtain ⟨c, cv, b, rfl, hcv, e, hd, q⟩ := h; obtain ⟨u1, u2, rfl, r1, r2⟩ := vals2 r
  cases (show u1 = Value.ref a from r1); have ec := hcv _ r2; subst ec; obtain ⟨hget, _⟩ := I.pin (a, oe) (List.mem_append.mpr (.inl hp)); obtain ⟨vs, hv⟩ := hf
  have hcl : (PySem.W.clsIn X.K D).isSome = true := by
    obtain ⟨cd, hc, _⟩ := PySem.W.any_some C.hd
    rw [hc]; rfl
  obtain ⟨od, J⟩ : ∃ od, PySem.W.InstAt s.heap a oe D od := by
    cases d with
    | none => exact ⟨none, hget, hz.1, by (unfold PySem.W.notCls; rw [hv] <;> rfl), by (rw [hz.2]; trivial)⟩
    | some dd =>
      obtain ⟨fs, e1⟩ := hd dd rfl; have hx : ObjOk X.prog X.w H s.heap dd (.xd fs) := I.hok dd _ e1; obtain ⟨mA, hns, hr⟩ := hx; obtain ⟨od, ho, hl⟩ := lookIn_ns hns
      exact ⟨some od, hget, hz.1, by (unfold PySem.W.notCls; rw [hv] <;> rfl), by (rw [hz.2]; exact ho)⟩
  exact PySem.W.kia_one (PySem.W.kitx_exc hcl C.hg C.hk C.hs C.ha C.hn C.ht C.hm) I.kIn J e (fun z => nomatch z) fun tk => ⟨.bl b, H, I.kept (t' := tk) fun _ _ z => z, rfl, q⟩

/-- .. where the class is told by the question -/
def rIsX (K : PySem.W.Frag) (cls : Value) (a : Addr) (d : Option Addr) : List V → Hp → VK → Prop := fun xs H Q => ∃ D, cls = .ref D ∧ ExcC K D ∧ rIsP K D a d xs H Q
theorem call_isX {X : Cx} {a : Addr} {cls : Value} {oe : Obj} {d : Option Addr} (hp : (a, oe) ∈ X.pn) (hz : Zc cls d oe) (hf : ∃ vs, oe.data = .fields vs) : CallR X (.builtin "isinstance") (rIsX X.K cls a d) := by
  intro pins s σ H xs us Q I r h; obtain ⟨D, rfl, EC, h⟩ := h
  exact call_isP EC hp hz hf pins s σ H xs us Q I r h
/-! ### a def that is handed the exception which the suite holds -/
structure FnP (P : Program) (w : World) (K : PySem.W.Frag) (mg : Str → Option Value) (base : Heap) (CX : CXT) (k : Nat) (f : Addr) (fd : FuncData) (ps : List Str) (sp : Addr → Value → Option Addr → Sp) : Prop where
  len : ∀ a cls d vs H Q E, sp a cls d vs H Q E → vs.length = ps.length
  run : ∀ (p : Addr × Obj) (cls : Value) (d : Option Addr), Zc cls d p.2 → (∃ vs, p.2.data = .fields vs) → ∀ (A : Around) (outer : List Env) (s : Shared) (H : Hp) (args : Args) (us : List Value) (vs : List V) (Q : VK) (E : XK), L2H.RoomH k A → L2H.PinOk outer H s p → Env0 P w K mg base A outer s H → BindsTo s fd args (ps.zip us) → Vals vs us → sp p.1 cls d vs H Q E →
    codeAny (model P w) A (.call (.ref f) args) (CR CX outer P w H s Q E) s
theorem fn_ofP {CX : CXT} {P : Program} {w : World} {K : PySem.W.Frag} {mg : Str → Option Value} {base : Heap} {k : Nat} {f : Addr} {name qual : Str} {params : Arguments} {body : List Stmt} {scope : Scope} {dV kV doc pm cdv ct oc : Value} {an od : Option Addr} {osl : Array (Option Value)} {N ps : List Str} {sp : Addr → Value → Option Addr → Sp}
    (lk : K.lookup f = some ⟨oc, od, .func (PySem.W.fnOf name qual params body scope dV kV doc pm an cdv ct), osl⟩) (hcd : PySem.W.codeIn K cdv qual = true) (S : FnScope N ps scope) (len : ∀ a cls d vs H Q E, sp a cls d vs H Q E → vs.length = ps.length)
    (hbody : ∀ (p : Addr × Obj) (cls : Value) (d : Option Addr), Zc cls d p.2 → (∃ vs, p.2.data = .fields vs) → ∀ (A : Around) (outer : List Env) (s : Shared) (H : Hp) (vs : List V) (Q : VK) (E : XK), L2H.RoomH k (A.deeper (envOfC qual scope s.heap.objs.size f cdv)) → sp p.1 cls d vs H Q E →
      ∃ t, PSs (L2H.cxH CX P w K mg base N qual scope f cdv A outer s H E p) body t ∧ t { nx := fun _ H' => Q .non H', rt := Q } (L2.start N vs) H) : FnP P w K mg base CX (k + 1) f (PySem.W.fnOf name qual params body scope dV kV doc pm an cdv ct) ps sp := by
  refine ⟨len, fun p cls d hz hf A outer s H args us vs Q E hr hpin e0 hb r hsp => ?_⟩; have hl := len _ _ _ _ _ _ _ hsp
  have KX : K.In s.heap := e0.mod.kin.keeps fun b o e => (e0.bs b o e).1; have lim : s.heap.NoLimit := e0.mod.nolimit.keeps fun b o e => (e0.bs b o e).1
  have hkind : ∀ y ∈ ps.zip us, scope.names.lookup y.1 = some .local ∨ (scope.names.lookup y.1 = some .cell ∧ ((cellsFrom (s.heap.objs.size + 1) scope.names []).lookup y.1).isSome = true) := fun ⟨n, v⟩ hy => (S.par n (List.of_mem_zip hy).1).elim .inl fun q => .inr ⟨q, PySem.W.cellsFrom_some _ _ _ (.inl q)⟩
  refine codeAny_call_function hr.depth (KX _ _ lk) rfl S.co S.gen rfl (PySem.W.codeRec_of KX hcd) (hb _ _ _ _ ?_); refine wpAny_newFunctionEnv_cells S.kind hkind fun env he s1 x => ?_
  subst he; refine ⟨lim.keeps x.toInCall.keep, codeAny_func ?_⟩; obtain ⟨t, ht, hq⟩ := hbody p cls d hz hf A outer s H vs Q E (hr.deeper _) hsp
  have I : Inv (L2H.cxH CX P w K mg base N qual scope f cdv A outer s H E p) [] (L2.start N vs) H s1 := L2H.inv_startH S hpin e0 hl r x
  refine wpAny_mono (ht.run [] s1 (L2.start N vs) H _ I hq) (fun fl s' hs => ?_) fun e s' hs => hs
  have fin : ∀ {σ' : L2.St} {H' : Hp} {v : V} {u : Value}, Inv (L2H.cxH CX P w K mg base N qual scope f cdv A outer s H E p) [] σ' H' s' → RelV v u → Q v H' → CE outer P w H s Q u s' := fun {σ' H' v u} J rv q => ⟨v, H', J.os, J.bare, J.base, J.hok, rv, q⟩
  cases fl with
  | ret u => obtain ⟨v, σ', H', J, rv, q⟩ := hs; exact fin J rv q
  | next => obtain ⟨σ', H', J, q⟩ := hs; exact fin (v := V.non) (u := Value.none) J rfl q
  | brk => obtain ⟨_, _, _, q⟩ := hs; exact False.elim q
  | cont => obtain ⟨_, _, _, q⟩ := hs; exact False.elim q
theorem _root_.L2.Fun.okP {P : Program} {w : World} {K : PySem.W.Frag} {mg : Str → Option Value} {base : Heap} {x qual : Str} {st : Stmt} {f : Addr} {fd : FuncData} {N ps : List Str} {k : Nat} {sp : Addr → Value → Option Addr → Sp} (F : Fun K x qual st f fd) (S : FnScope N ps (defScope st)) (len : ∀ a cls d vs H Q E, sp a cls d vs H Q E → vs.length = ps.length)
    (hbody : ∀ (cdv : Value) (p : Addr × Obj) (cls : Value) (d : Option Addr), Zc cls d p.2 → (∃ vs, p.2.data = .fields vs) → ∀ (A : Around) (outer : List Env) (s : Shared) (H : Hp) (vs : List V) (Q : VK) (E : XK), L2H.RoomH k (A.deeper (envOfC qual (defScope st) s.heap.objs.size f cdv)) → sp p.1 cls d vs H Q E →
      ∃ t, PSs (L2H.cxH CX0 P w K mg base N qual (defScope st) f cdv A outer s H E p) (defBody st) t ∧ t { nx := fun _ H' => Q .non H', rt := Q } (L2.start N vs) H) : FnP P w K mg base CX0 (k + 1) f fd ps sp := by
  obtain ⟨oc, od, kV, doc, pm, an, cdv, ct, osl, rfl, lk, hcd⟩ := F.ex
  exact fn_ofP lk hcd S len fun p cls d hz hf A outer s H vs Q E hr h => hbody cdv p cls d hz hf A outer s H vs Q E hr h
section
variable {X : Cx} {k : Nat} {f : Addr} {fd : FuncData} {ps : List Str} {sp : Addr → Value → Option Addr → Sp} {x : Str} {p q pos : Pos} {e : Expr} {es : List Expr} {t : TA}
def tCallP (sp : Addr → Value → Option Addr → Sp) (a : Addr) (cls : Value) (d : Option Addr) (t : TA) : TE := fun σ H Q => t σ H fun vs H1 => sp a cls d vs H1 Q E0
theorem pe_callP {pn : Addr × Obj} {cls : Value} {d : Option Addr} (hz : Zc cls d pn.2) (hf : ∃ vs, pn.2.data = .fields vs) (F : FnP X.prog X.w X.K X.mg X.base CX0 k f fd ps sp) (hr : L2H.RoomH k X.A) (hp : pn ∈ X.pn) (hg : Gl X x) (hm : X.mg x = some (.ref f)) (hk : PySem.W.keepIn X.K (.ref f) = true) (hb : Binds X.K fd ps [])
    (ha : PA X (e :: es) t) (hdb : (x == ("__debug__" : Str)) = false := by decide) (he : starEach (e :: es) X.env = (false, eval e X.env) :: starEach es X.env := by rfl) (hpl : (backTo pos (starEach es X.env)).any (·.1) = false := by rfl) : PE X (.Call (.Name x q) (e :: es) [] pos) (tCallP sp pn.1 cls d t) := by
  refine ⟨fun pins s σ H Q I h => ?_⟩; refine wpAny_Call_Name_kw (ld_glob I hg hm ?_ hdb)
  refine PySem.W.callWith_K (h₀ := X.base) I.ok.mod.kin hk (thn (ha.run pos pins s σ H _ I h) fun us s1 ⟨vs, H1, I1, r, h1⟩ => ⟨I1.kIn, ?_⟩) he hpl
  have hl : us.length = ps.length := by (rw [← r.length]; exact F.len _ _ _ _ _ _ _ h1)
  have b := hb s1 us I1.kIn (by (rw [List.append_nil]; exact hl)); rw [List.append_nil] at b
  have P1 := I1.pin pn (List.mem_append_left _ hp); have hpin : L2H.PinOk X.stack H1 s1 pn := ⟨P1.1, P1.2.1, fun hm => (List.mem_cons.mp (I1.stkSub pn.1 hm)).elim P1.2.2.1 P1.2.2.2.1, P1.2.2.2.2⟩
  refine wpAny_call (codeAny_mono (F.run pn cls d hz hf X.A X.stack s1 H1 ⟨us, []⟩ us vs Q E0 hr hpin I1.env0 b r h1) fun r s' hq => ?_)
  cases r with
  | error e => exact False.elim hq
  | ok fl =>
    cases fl with
    | ret u => exact I1.after hq
    | next => exact False.elim hq
    | brk => exact False.elim hq
    | cont => exact False.elim hq
end
end Ox

namespace Ox
open PySem PySem.Spec PyProof.Rows L2 L2H
/-- a comprehension's block within an except suite: the pins stay -/
abbrev blkP (X : Cx) (s : Shared) (H : Hp) (scope : Scope) (cenv : Env) (fp : List Addr) : Cx := { X.blk s H scope cenv fp with pn := X.pn }
theorem okP {X : Cx} {s : Shared} {H : Hp} {scope : Scope} {cenv : Env} {fp : List Addr} (ok : (X.blk s H scope cenv fp).Ok) : (blkP X s H scope cenv fp).Ok :=
  ⟨ok.mod, ok.kind, ok.glob, ok.blt, ok.above, ok.inj, ok.has, ok.cab, ok.hd, ok.frames, ok.stk, ok.exf, ok.bs, ok.bsz, ok.noex, ok.exfs, ok.funs, ok.frf⟩
theorem blkP_start {X : Cx} {pins : List (Addr × Obj)} {σ σ' : L2.St} {H H0 H' : Hp} {s s' sb : Shared} {scope : Scope} {cenv : Env} {fp : List Addr} (I : Inv X pins σ H s) (hk : ∀ b o, s.heap.get? b = some o → H b = none → s'.heap.get? b = some o ∧ H' b = none) (hL : cenv.locals = s.heap.objs.size)
    (J : Inv (X.blk sb H0 scope cenv fp) [] σ' H' s') : Inv (blkP X sb H0 scope cenv fp) [] σ' H' s' := by
  refine ⟨okP J.ok, J.os, J.bare, J.base, J.loc, J.cell, J.free, J.freeC, fun p hp => ?_, J.hok, J.len⟩
  have hp' : p ∈ X.pn := by simpa using hp
  obtain ⟨e, n, ne, nf, d⟩ := I.pin p (List.mem_append_left _ hp'); obtain ⟨e2, n2⟩ := hk _ _ e n
  refine ⟨e2, n2, fun z => ?_, fun hm => (List.mem_cons.mp (I.stkSub p.1 hm)).elim ne nf, d⟩
  have z' : p.1 = cenv.locals := z; rw [hL] at z'; exact absurd (Heap.lt_size e) (by (rw [z']; exact Nat.lt_irrefl _))
section
variable {X : Cx}
theorem lc_hot {pins : List (Addr × Obj)} {s : Shared} {σ : L2.St} {H : Hp} {Q : VK} {elt tg iter : Expr} {ifs : List Expr} {scope : Scope} {own : List (Str × Nat)} {pos pos' : Pos} {wi : TI} {g : TG} {tt : TT} {te : TE} {use : Option (Value → Sem Unit)} {Qf : Value → Shared → Prop}
    (hc : HotC X) (hN : X.N.Nodup) (I : Inv X pins σ H s) (hi : PIH X tg iter wi) (ok : BlkOk X.N X.env.scope scope own)
    (hg : ∀ (s : Shared) (H : Hp) (C : Addr) (cl : List (Str × Addr)) (fp : List Addr), PG (blkP X s H scope (compEnvC scope cl C X.env) fp) tg g) (ht : ∀ (s : Shared) (H : Hp) (C : Addr) (cl : List (Str × Addr)) (fp : List Addr), PTs (blkP X s H scope (compEnvC scope cl C X.env) fp) ifs tt)
    (he : ∀ (s : Shared) (H : Hp) (C : Addr) (cl : List (Str × Addr)) (fp : List Addr), PE (blkP X s H scope (compEnvC scope cl C X.env) fp) elt te) (hs : ∀ x, foldedSetIterable iter X.env x = pure x) (h : tLc wi g tt te (own.map (·.2)) σ H Q)
    (hRR : ∀ D C s' m H', Inv X pins σ H' s' → Q (.ref D) H' → s'.heap.Ns C m → FpOk X pins H' C → compPost (model X.prog X.w) X.A X.xe use Qf (.ref D) C (.ok .next) s') :
    wpAny (model X.prog X.w) X.A (comprehension (.ListComp elt [⟨tg, iter, ifs, 0⟩] scope pos) scope X.env pos' (newList []) false (eval iter X.env) use) Qf X.xe s := by
  have hfree : ∀ y ∈ scope.names, y.2 = .free → ∃ c, X.env.cells.lookup y.1 = some c := fun y hy e => (ok.free y hy e).elim (fun k => I.ok.has _ (.inl k)) fun k => I.ok.has _ (.inr k)
  refine wpAny_comprehension_free (use := use) rfl hs (closure_ok hfree) ok.kind (fun y hy e => by (rw [ok.uniq y hy, e])) (thn (hi.run pins s σ H _ I h) fun xv s1 hx => thn hx fun itv s2 h2 => ?_)
  obtain ⟨it, fp, tn, J, H2, e, I2, T, st2, f2, q⟩ := h2; subst e; refine wpAny_newObj_type (newEnv_comp ?_) (by (show 0 ≤ sizeLine; decide))
  generalize hD : s2.heap.objs.size = D; have hDn : H2 D = none := I2.hok.fresh (Nat.le_of_eq hD); obtain ⟨W, ⟨m0, w0⟩, turn⟩ := q D hDn
  generalize hs3 : ({ s2 with heap := s2.heap.push { cls := .type "list", data := .seq ([] : List Value).toArray } } : Shared) = s3
  have I3 : Inv X pins σ (upd H2 D (.lst [])) s3 := by
    rw [← hs3]; refine I2.laid (t' := s2.toks) (fun b o e => Heap.get?_push_of_some _ e) (Nat.le_of_eq hD) ⟨Nat.zero_le _, [], 0, .nil, ?_⟩
    rw [← hD]; exact Heap.get?_push_size _ rfl
  have h3 : s3.heap = s2.heap.push { cls := .type "list", data := .seq ([] : List Value).toArray } := by (rw [← hs3])
  have sz : ∀ b ∈ fp, b < s2.heap.objs.size := fun b hb => by
    obtain ⟨o, e, _⟩ := T.obj _ _ st2 b hb; exact Heap.lt_size e
  have f3 : ∀ b ∈ fp, FpOk X pins (upd H2 D (.lst [])) b ∧ b < s3.heap.objs.size := fun b hb => by
    have hlt := sz b hb; refine ⟨⟨?_, (f2 b hb).2⟩, by (rw [h3, Heap.size_push]; exact Nat.lt_succ_of_lt hlt)⟩
    rw [upd_ne (by (rw [← hD]; exact Nat.ne_of_lt hlt))]; exact (f2 b hb).1
  have st3 : tn 0 s3.heap := T.keep _ _ _ st2 fun b _ o e => by (rw [h3]; exact Heap.get?_push_of_some _ e)
  have I4 := block_start I3 ok hN f3
  have pg := hg s3 (upd H2 D (.lst [])) s3.heap.objs.size (cellsFrom (s3.heap.objs.size + 1) scope.names (cloFrom X.env.cells scope.names [])) fp
  have pt := ht s3 (upd H2 D (.lst [])) s3.heap.objs.size (cellsFrom (s3.heap.objs.size + 1) scope.names (cloFrom X.env.cells scope.names [])) fp
  have pe := he s3 (upd H2 D (.lst [])) s3.heap.objs.size (cellsFrom (s3.heap.objs.size + 1) scope.names (cloFrom X.env.cells scope.names [])) fp
  show codeAny _ _ (.compStart (.ListComp elt [⟨tg, iter, ifs, 0⟩] scope pos) 0 (.ref it) (.ref D) (compEnvC scope (cellsFrom (s3.heap.objs.size + 1) scope.names (cloFrom X.env.cells scope.names [])) s3.heap.objs.size X.env)) (compPost (model X.prog X.w) X.A X.xe use Qf (.ref D) s3.heap.objs.size) { s3 with heap := pushCells (s3.heap.push { cls := .type "dict", data := .dict #[] }) scope.names }
  have nfp : ∀ b ∈ fp, (upd H2 D (.lst [])) b = none := fun b hb => (f3 b hb).1.1
  generalize hce : compEnvC scope (cellsFrom (s3.heap.objs.size + 1) scope.names (cloFrom X.env.cells scope.names [])) s3.heap.objs.size X.env = ce at I4 pg pt pe ⊢
  have cL : ce.locals = s3.heap.objs.size := by (subst hce; rfl)
  generalize hH3 : upd H2 D (.lst []) = H3 at I3 I4 pg pt pe w0 nfp f3; have keep4 : ∀ b o, s3.heap.get? b = some o → (pushCells (s3.heap.push { cls := .type "dict", data := .dict #[] }) scope.names).get? b = some o := fun b o e => pushCells_keeps _ _ _ _ (Heap.get?_push_of_some _ e)
  generalize hs4 : ({ s3 with heap := pushCells (s3.heap.push { cls := .type "dict", data := .dict #[] }) scope.names } : Shared) = s4 at I4 ⊢
  have I4 : Inv (blkP X s3 H3 scope ce fp) [] (wipe σ (own.map (·.2))) H3 s4 := blkP_start I3 (fun b o e n => ⟨by (rw [← hs4]; exact keep4 b o e), n⟩) cL I4
  have hcB : HotC (blkP X s3 H3 scope ce fp) := hc
  have st4 : tn 0 s4.heap := T.keep _ _ _ st3 fun b _ o e => by (rw [← hs4]; exact keep4 b o e)
  have stat : ∀ {σ' : L2.St} {H' : Hp} {s' : Shared}, Inv (blkP X s3 H3 scope ce fp) [] σ' H' s' → (∀ b ∈ fp, H' b = none) → ∀ b ∈ fp, FpOk (blkP X s3 H3 scope ce fp) [] H' b := fun {σ' H' s'} I' hn b hb =>
    ⟨hn b hb, (I'.ok.exf b hb).1, I'.ok.exfs b hb, .inl hb, fun x c e => (I'.ok.exf b hb).2 x c e, fun p hp => (f3 b hb).1.2.2.2.2.2 p (List.mem_append_left _ (by simpa using hp))⟩
  have loop : codeAny (model X.prog X.w) X.A (.compLoop (.ListComp elt [⟨tg, iter, ifs, 0⟩] scope pos) 0 (.ref it) (.ref D) ce) (compPost (model X.prog X.w) X.A X.xe use Qf (.ref D) s3.heap.objs.size) s4 := by
    refine compLoop_any (fun n s' => ∃ i H', Inv (blkP X s3 H3 scope ce fp) [] (wipe σ (own.map (·.2))) H' s' ∧ tn i s'.heap ∧ (∀ b ∈ fp, H' b = none) ∧ W i n H') ?_ m0 ⟨0, H3, I4, st4, nfp, w0⟩
    rintro n s5 ⟨i, H5, I5, st5, n5, w5⟩
    rcases turn i n H5 w5 with ⟨stop, qq⟩ | ⟨go, Nx, hNx, step⟩
    · have td := T.done (blkP X s3 H3 scope ce fp) rfl rfl rfl hcB i [] s5 _ H5 (fun _ _ => False) I5 (stat I5 n5) st5 stop
      refine thnF td fun r s6 ⟨hr, I6⟩ => ?_
      subst hr; have I7 : Inv X pins σ H5 s6 := I3.call' (ch := fp) I6.os I6.base I6.hok I6.bare fun b hb => ⟨(f3 b hb).1.2.2.2.1, (f3 b hb).1.2.1, (f3 b hb).1.2.2.2.2.1, (f3 b hb).1.2.2.2.2.2⟩
      have nC : H5 s3.heap.objs.size = none := by
        have z : H5 ce.locals = none := I6.free
        rw [cL] at z; exact z
      obtain ⟨m, hn, _⟩ := I6.loc; have hn : s6.heap.Ns ce.locals m := hn; rw [cL] at hn; exact hRR D s3.heap.objs.size s6 m H5 I7 qq hn (I3.fpOk (Nat.le_refl _) nC)
    · have ti := T.item (blkP X s3 H3 scope ce fp) rfl rfl rfl hcB i [] s5 _ H5 (fun _ _ => False) I5 (stat I5 n5) st5 go
      refine thnF ti fun r s6 ⟨u, hr, h6⟩ => ?_
      subst hr; refine thnF h6 fun _ s7 ⟨x, H7, I7, r7, y7, st7, n7⟩ => ?_
      have I7' := I7.pinned (stat I7 n7) (T.obj _ _ st7); refine thnF (pg.run _ s7 _ H7 x u _ I7' r7 (step x H7 y7)) fun _ s8 ⟨σ8, H8, I8, hw8, q8⟩ => ?_
      refine thnF (pt.run _ s8 σ8 H8 _ I8 q8) fun b s9 ⟨H9, I9, q9⟩ => ?_
      have fin : ∀ {s' : Shared} {H' : Hp}, Inv (blkP X s3 H3 scope ce fp) ([] ++ pinsAt fp s7.heap) σ8 H' s' → Nx H' → ∃ m, m < n ∧ ∃ i H', Inv (blkP X s3 H3 scope ce fp) [] (wipe σ (own.map (·.2))) H' s' ∧ tn i s'.heap ∧ (∀ b ∈ fp, H' b = none) ∧ W i m H' := fun {s' H'} I' nx => by
        obtain ⟨m', hm, w'⟩ := hNx H' nx
        have pin' : ∀ b ∈ fp, ∀ o, s7.heap.get? b = some o → s'.heap.get? b = some o ∧ H' b = none := fun b hb o e => let z := I'.pin (b, o) (List.mem_append_right _ (List.mem_append_right _ (mem_pinsAt hb e))); ⟨z.1, z.2.1⟩
        have hl : (wipe σ (own.map (·.2))).length = σ8.length := by (rw [← hw8, wipe_length])
        refine ⟨m', hm, i + 1, H', (I'.unpinned (pins := [])).weak hl (fun j v e => ?_), T.keep _ _ _ st7 fun b hb o e => (pin' b hb o e).1, fun b hb => ?_, w'⟩
        · rw [← hw8] at e; exact (wipe_some e).1
        · obtain ⟨o, e, _⟩ := T.obj _ _ st7 b hb; exact (pin' b hb o e).2
      cases b with
      | false => simp only [Bool.false_eq_true, if_false] at q9 ⊢; exact fin I9 q9
      | true =>
        simp only [if_true] at q9 ⊢; refine thnF (pe.run _ s9 σ8 H9 _ I9 q9) fun z s10 ⟨yv, H10, I10, r10, acc, hD10, hz10, nx⟩ => ?_
        exact app_ok (X := blkP X s3 H3 scope ce fp) I10 hD10 hz10 r10 fun s11 I11 => fin I11 nx
  exact codeAny_compStart_list loop (T.self X.A 0 _ _ _ st4 loop)
theorem ps_setLcH {i : Nat} {y : Str} {py : Pos} {elt tg iter : Expr} {ifs : List Expr} {scope : Scope} {own : List (Str × Nat)} {pos spos : Pos} {wi : TI} {g : TG} {tt : TT} {te : TE} (hc : HotC X) (hN : X.N.Nodup) (hy : X.N[i]? = some y) (hyl : X.env.scope.names.lookup y = some .local)
    (hsw : swapsWith (.ListComp elt [⟨tg, iter, ifs, 0⟩] scope pos) (some (.Name y py)) spos.line X.env = pure true) (hi : PIH X tg iter wi) (ok : BlkOk X.N X.env.scope scope own)
    (hg : ∀ (s : Shared) (H : Hp) (C : Addr) (cl : List (Str × Addr)) (fp : List Addr), PG (blkP X s H scope (compEnvC scope cl C X.env) fp) tg g) (ht : ∀ (s : Shared) (H : Hp) (C : Addr) (cl : List (Str × Addr)) (fp : List Addr), PTs (blkP X s H scope (compEnvC scope cl C X.env) fp) ifs tt)
    (he : ∀ (s : Shared) (H : Hp) (C : Addr) (cl : List (Str × Addr)) (fp : List Addr), PE (blkP X s H scope (compEnvC scope cl C X.env) fp) elt te) (hs : ∀ x, foldedSetIterable iter X.env x = pure x := by intro _; rfl) :
    PS X (.Assign [.Name y py] (.ListComp elt [⟨tg, iter, ifs, 0⟩] scope pos) spos) (tAsg (tLc wi g tt te (own.map (·.2))) (gName i)) := by
  refine ⟨fun pins s σ H D I h => ?_⟩; rw [exec_Assign_Name_used _ _ _ _ hsw]; refine wpAny_bind (wpAny_standAt (wpAny_bind ?_))
  show wpAny _ X.A (do let _ ← comprehension (.ListComp elt [⟨tg, iter, ifs, 0⟩] scope pos) scope X.env (firstIterPos [⟨tg, iter, ifs, 0⟩] pos) (newList []) false (eval iter X.env) (some (assign (.Name y py) X.env))) _ _ s
  have h : tLc wi g tt te (own.map (·.2)) σ H (fun x H1 => gName i x σ H1 D.nx) := h
  refine wpAny_bind (thn (lc_hot (Qf := fun _ s' => SP X pins D .next s') hc hN I hi ok hg ht he hs h fun L C s' m H' I' q hn f => ?_) fun _ s' hq => wpAny_pure (wpAny_pure hq))
  show wpAny _ _ (assign (.Name y py) X.env (.ref L)) _ _ _
  refine wpAny_assign_Name (store_ok2 (v := V.ref L) I' hN hy (.inl hyl) rfl (fun s2 I2 ⟨a, sb, ha⟩ => ?_) (.inr hyl)); obtain ⟨f0, f1, f2, f3, f4, f5⟩ := f
  have haC : C ≠ a := ha.elim (fun z => by (rw [z]; exact f1)) fun z e => f4 y a z e.symm
  exact ⟨m, hn.sameBut sb haC, fun h3 sb3 => ⟨_, H', I2.turned (t' := s2.toks) (fun b o hb e => (sb3.2 b hb).trans e) f0 f1 f3 f4 f5, q⟩⟩
end
end Ox

namespace Ox
open PySem PySem.Spec PyProof.Rows L2
/-! ### data, told of the abstract heap: what is tracked alone -/
mutual
inductive Dq (H : Hp) : V → PyData → Prop
  | non : Dq H .non .none
  | bl (b : Bool) : Dq H (.bl b) (.bool b)
  | int (i : Int) : Dq H (.int i) (.int i)
  | str (x : Str) : Dq H (.str x) (.str x)
  | lst {a : Addr} {xs : List V} {ds : List PyData} : H a = some (.lst xs) → DqAll H xs ds → Dq H (.ref a) (.list ds)
  | tup {a : Addr} {xs : List V} {ds : List PyData} : H a = some (.tup xs) → DqAll H xs ds → Dq H (.ref a) (.tuple ds)
  | dct {a : Addr} {kvs : List (Key × V)} {ds : List PyData} : H a = some (.dK kvs) → DqAll H (kvs.map (·.2)) ds → Dq H (.ref a) (.dict ((kvs.map fun p => match p.1 with | .inl i => PyData.int i | .inr x => PyData.str x).zip ds))
inductive DqAll (H : Hp) : List V → List PyData → Prop
  | nil : DqAll H [] []
  | cons {v : V} {vs : List V} {d : PyData} {ds : List PyData} : Dq H v d → DqAll H vs ds → DqAll H (v :: vs) (d :: ds)
end
theorem DqAll.length {H : Hp} : ∀ {vs : List V} {ds : List PyData}, DqAll H vs ds → vs.length = ds.length
  | _, _, .nil => rfl
  | _, _, .cons _ h => congrArg (· + 1) (DqAll.length h)
mutual
theorem Dq.keeps {H H' : Hp} (k : ∀ b o, H b = some o → H' b = some o) : ∀ {v : V} {d : PyData}, Dq H v d → Dq H' v d
  | _, _, .non => .non
  | _, _, .bl b => .bl b
  | _, _, .int i => .int i
  | _, _, .str x => .str x
  | _, _, .lst h a => .lst (k _ _ h) (DqAll.keeps k a)
  | _, _, .tup h a => .tup (k _ _ h) (DqAll.keeps k a)
  | _, _, .dct h a => .dct (k _ _ h) (DqAll.keeps k a)
theorem DqAll.keeps {H H' : Hp} (k : ∀ b o, H b = some o → H' b = some o) : ∀ {vs : List V} {ds : List PyData}, DqAll H vs ds → DqAll H' vs ds
  | _, _, .nil => .nil
  | _, _, .cons h a => .cons (Dq.keeps k h) (DqAll.keeps k a)
end
theorem dq_bools {H : Hp} : ∀ bs : List Bool, DqAll H (bs.map V.bl) (bs.map PyData.bool)
  | [] => .nil
  | b :: bs => .cons (.bl b) (dq_bools bs)
theorem dq_ints {H : Hp} : ∀ bs : List Int, DqAll H (bs.map V.int) (bs.map PyData.int)
  | [] => .nil
  | b :: bs => .cons (.int b) (dq_ints bs)
section
variable {X : Cx} {pins : List (Addr × Obj)} {σ : L2.St} {H : Hp} {s : Shared}
theorem reads_keys {P : Program} {w : World} {h : Heap} : ∀ {kvs : List (Key × V)} {vs : List (Key × Value)} {es : List DictEntry}, KV kvs vs → PySem.Pairs (mixKind P w) es vs →
    ReadsAll h (es.map (·.key)) (kvs.map fun p => match p.1 with | .inl i => PyData.int i | .inr x => PyData.str x) [] ∧ Vals (kvs.map (·.2)) (es.map (·.val))
  | _, _, _, .nil, .nil => ⟨.nil, .nil⟩
  | _, _, _, .cons (a := ⟨k, v⟩) r t, .cons (e := e) hk hv q => by
    obtain ⟨h1, h2⟩ := reads_keys (h := h) t q; obtain ⟨r1, r2⟩ := r; refine ⟨?_, .cons (by (show RelV v e.val; rw [hv]; exact r2)) h2⟩
    rw [mixKind_is] at hk; rw [← r1] at hk
    rcases keyIs_shape hk with ⟨i, t, e1, e2⟩ | ⟨x, t, e1, e2⟩
    · simp only at e1; subst e1; exact .cons (as := []) (bs := []) (by (show Reads h e.key _ []; rw [e2]; exact .int i t)) h1
    · simp only at e1; subst e1; exact .cons (as := []) (bs := []) (by (show Reads h e.key _ []; rw [e2]; exact .str x t)) h1
mutual
theorem Dq.reads (I : Inv X pins σ H s) : ∀ {v : V} {d : PyData} {u : Value}, Dq H v d → RelV v u → ∃ as, Reads s.heap u d as ∧ ∀ b ∈ as, H b ≠ none
  | _, _, _, .non, r => by cases r; exact ⟨[], .none, fun b hb => absurd hb (by simp)⟩
  | _, _, _, .bl b, r => by cases r; exact ⟨[], .bool b, fun b hb => absurd hb (by simp)⟩
  | _, _, _, .int i, r => by obtain ⟨t, rfl⟩ := r; exact ⟨[], .int i t, fun b hb => absurd hb (by simp)⟩
  | _, _, _, .str x, r => by obtain ⟨t, rfl⟩ := r; exact ⟨[], .str x t, fun b hb => absurd hb (by simp)⟩
  | _, _, _, .lst (a := a) (xs := xs) h q, r => by
    cases r; obtain ⟨_, its, n, rv, e⟩ : ObjOk X.prog X.w H s.heap a (.lst xs) := I.hok a _ h; obtain ⟨as, h1, h2⟩ := DqAll.reads I q rv
    refine ⟨_, .list e rfl rfl h1, fun b hb => ?_⟩
    rcases List.mem_cons.mp hb with z | z
    · rw [z, h]; exact fun y => nomatch y
    · exact h2 b z
  | _, _, _, .tup (a := a) (xs := xs) h q, r => by
    cases r; obtain ⟨_, its, rv, o, e, hc, n, hd⟩ : ObjOk X.prog X.w H s.heap a (.tup xs) := I.hok a _ h; obtain ⟨as, h1, h2⟩ := DqAll.reads I q rv
    exact ⟨_, .tuple e hc hd h1, h2⟩
  | _, _, _, .dct (a := a) (kvs := kvs) (ds := ds) h q, r => by
    cases r; obtain ⟨_, _, vs, rk, o, es, ep, e, hx, hd, _, hp, _⟩ : ObjOk X.prog X.w H s.heap a (.dK kvs) := I.hok a _ h
    obtain ⟨k1, k2⟩ := reads_keys (h := s.heap) rk hp; obtain ⟨as, h1, h2⟩ := DqAll.reads I q k2; have hl : (kvs.map (·.2)).length = ds.length := q.length
    have e1 : (((kvs.map fun p => match p.1 with | .inl i => PyData.int i | .inr x => PyData.str x).zip ds).map (·.1)) = (kvs.map fun p => match p.1 with | .inl i => PyData.int i | .inr x => PyData.str x) := List.map_fst_zip (by simp at hl ⊢; omega)
    have e2 : (((kvs.map fun p => match p.1 with | .inl i => PyData.int i | .inr x => PyData.str x).zip ds).map (·.2)) = ds := List.map_snd_zip (by simp at hl ⊢; omega)
    refine ⟨_, .dict (as := []) (bs := as) e hx.1 hd (by (rw [e1]; exact k1)) (by (rw [e2]; exact h1)), fun b hb => ?_⟩
    rcases List.mem_cons.mp (by simpa using hb) with z | z
    · rw [z, h]; exact fun y => nomatch y
    · exact h2 b z
theorem DqAll.reads (I : Inv X pins σ H s) : ∀ {vs : List V} {ds : List PyData} {us : List Value}, DqAll H vs ds → Vals vs us → ∃ as, ReadsAll s.heap us ds as ∧ ∀ b ∈ as, H b ≠ none
  | _, _, _, .nil, r => by cases r; exact ⟨[], .nil, fun b hb => absurd hb (by simp)⟩
  | _, _, _, .cons h q, r => by
    cases r with
    | cons r1 r2 =>
      obtain ⟨as, h1, h2⟩ := Dq.reads I h r1; obtain ⟨bs, h3, h4⟩ := DqAll.reads I q r2
      exact ⟨_, .cons h1 h3, fun b hb => (List.mem_append.mp hb).elim (h2 b) (h4 b)⟩
end
/-- repr(x), x a tuple, a list or a dict of data -/
def rRepr : List V → Hp → VK → Prop := fun xs H Q => ∃ (a : Addr) (d : PyData), xs = [.ref a] ∧ Dq H (.ref a) d ∧ d.showable = true ∧ d.depth ≤ 50 ∧ d.shown.length ≤ sizeLine ∧ Q (.str d.shown) H
theorem call_reprD {X : Cx} (hg : X.A.guards = some []) (hu : X.A.units + 64 < cLine) (hs : ∃ o, X.base.get? sysModules = some o) : CallR X (.builtin "repr") rRepr := by
  intro pins s σ H xs us Q I r h; obtain ⟨a, d, rfl, hd, h1, h2, h3, q⟩ := h; obtain ⟨u, rfl, ru⟩ := vals1 r; cases (show u = Value.ref a from ru)
  obtain ⟨as, hr, hn⟩ := hd.reads I (u := .ref a) rfl; obtain ⟨o, ho⟩ := hs
  have hsm : d.hasDict = true → sysModules ∉ as := fun _ hm => hn _ hm (I.bs _ _ ho).2
  exact repr_of_reads' hr h1 hsm hg (by omega) (fun _ _ e => e) (fun h' u tk k => ⟨.str _, H, I.kept (t' := tk) k, ⟨_, rfl⟩, q⟩) h3
end

/-! ### a def that asks repr: nothing is being shown around it -/
structure FnG (P : Program) (w : World) (K : PySem.W.Frag) (mg : Str → Option Value) (base : Heap) (k : Nat) (f : Addr) (fd : FuncData) (ps : List Str) (sp : Sp) : Prop where
  len : ∀ vs H Q E, sp vs H Q E → vs.length = ps.length
  run : ∀ (A : Around) (outer : List Env) (s : Shared) (H : Hp) (args : Args) (us : List Value) (vs : List V) (Q : VK) (E : XK), A.guards = some [] → Room k A → Env0 P w K mg base A outer s H → BindsTo s fd args (ps.zip us) → Vals vs us → sp vs H Q E → codeAny (model P w) A (.call (.ref f) args) (CR CX0 outer P w H s Q E) s
theorem _root_.L2.Fun.okG {P : Program} {w : World} {K : PySem.W.Frag} {mg : Str → Option Value} {base : Heap} {x qual : Str} {st : Stmt} {f : Addr} {fd : FuncData} {N ps : List Str} {k : Nat} {sp : Sp} (F : Fun K x qual st f fd) (S : FnScope N ps (defScope st)) (len : ∀ vs H Q E, sp vs H Q E → vs.length = ps.length)
    (hbody : ∀ (cdv : Value) (A : Around) (outer : List Env) (s : Shared) (H : Hp) (vs : List V) (Q : VK) (E : XK), A.guards = some [] → Room k (A.deeper (envOfC qual (defScope st) s.heap.objs.size f cdv)) → sp vs H Q E →
      ∃ t, PSs (cxOf CX0 P w K mg base N qual (defScope st) f cdv A outer s H E).nox (defBody st) t ∧ t { nx := fun _ H' => Q .non H', rt := Q } (start N vs) H) : FnG P w K mg base (k + 1) f fd ps sp := by
  obtain ⟨oc, od, kV, doc, pm, an, cdv, ct, osl, rfl, lk, hcd⟩ := F.ex; refine ⟨len, fun A outer s H args us vs Q E hgd hr e0 hb r hsp => ?_⟩; have hl := len _ _ _ _ hsp
  have KX : K.In s.heap := e0.mod.kin.keeps fun b o e => (e0.bs b o e).1; have lim : s.heap.NoLimit := e0.mod.nolimit.keeps fun b o e => (e0.bs b o e).1
  have hkind : ∀ y ∈ ps.zip us, (defScope st).names.lookup y.1 = some .local ∨ ((defScope st).names.lookup y.1 = some .cell ∧ ((cellsFrom (s.heap.objs.size + 1) (defScope st).names []).lookup y.1).isSome = true) := fun ⟨n, v⟩ hy => (S.par n (List.of_mem_zip hy).1).elim .inl fun q => .inr ⟨q, PySem.W.cellsFrom_some _ _ _ (.inl q)⟩
  refine codeAny_call_function hr.depth (KX _ _ lk) rfl S.co S.gen rfl (PySem.W.codeRec_of KX hcd) (hb _ _ _ _ ?_); refine wpAny_newFunctionEnv_cells S.kind hkind fun env he s1 x => ?_
  subst he; refine ⟨lim.keeps x.toInCall.keep, codeAny_func ?_⟩; obtain ⟨t, ht, hq⟩ := hbody cdv A outer s H vs Q E hgd (hr.deeper _) hsp
  have I : Inv (cxOf CX0 P w K mg base N qual (defScope st) f cdv A outer s H E) [] (start N vs) H s1 := inv_start S hr.hd e0 hl r x
  refine wpAny_mono (ht.nox.run [] s1 (start N vs) H _ I hq) (fun fl s' hs => ?_) fun e s' hs => hs
  have fin : ∀ {σ' : L2.St} {H' : Hp} {v : V} {u : Value}, Inv (cxOf CX0 P w K mg base N qual (defScope st) f cdv A outer s H E) [] σ' H' s' → RelV v u → Q v H' → CE outer P w H s Q u s' := fun {σ' H' v u} J rv q => ⟨v, H', J.os, J.bare, J.base, J.hok, rv, q⟩
  cases fl with
  | ret u => obtain ⟨v, σ', H', J, rv, q⟩ := hs; exact fin J rv q
  | next => obtain ⟨σ', H', J, q⟩ := hs; exact fin (v := V.non) (u := Value.none) J rfl q
  | brk => obtain ⟨_, _, _, q⟩ := hs; exact False.elim q
  | cont => obtain ⟨_, _, _, q⟩ := hs; exact False.elim q
section
variable {X : Cx} {k : Nat} {f : Addr} {fd : FuncData} {ps : List Str} {sp : Sp} {x : Str} {q pos : Pos} {e : Expr} {es : List Expr} {t : TA}
theorem pe_callG (F : FnG X.prog X.w X.K X.mg X.base k f fd ps sp) (hgd : X.A.guards = some []) (hr : Room k X.A) (hg : Gl X x) (hm : X.mg x = some (.ref f)) (hk : PySem.W.keepIn X.K (.ref f) = true) (hb : Binds X.K fd ps [])
    (ha : PA X (e :: es) t) (hdb : (x == ("__debug__" : Str)) = false := by decide) (he : starEach (e :: es) X.env = (false, eval e X.env) :: starEach es X.env := by rfl) (hpl : (backTo pos (starEach es X.env)).any (·.1) = false := by rfl) : PE X (.Call (.Name x q) (e :: es) [] pos) (tCall sp [] E0 t) := by
  refine ⟨fun pins s σ H Q I h => ?_⟩; refine wpAny_Call_Name_kw (ld_glob I hg hm ?_ hdb)
  refine PySem.W.callWith_K (h₀ := X.base) I.ok.mod.kin hk (thn (ha.run pos pins s σ H _ I h) fun us s1 ⟨vs, H1, I1, r, h1⟩ => ⟨I1.kIn, ?_⟩) he hpl
  have h1 : sp vs H1 Q E0 := by simpa using (show sp (vs ++ []) H1 Q E0 from h1)
  have hl : us.length = ps.length := by (rw [← r.length]; exact F.len _ _ _ _ h1)
  have b := hb s1 us I1.kIn (by (rw [List.append_nil]; exact hl)); rw [List.append_nil] at b
  refine wpAny_call (codeAny_mono (F.run X.A X.stack s1 H1 ⟨us, []⟩ us vs Q E0 hgd hr I1.env0 b r h1) fun r s' hq => ?_)
  cases r with
  | error e => exact False.elim hq
  | ok fl =>
    cases fl with
    | ret u => exact I1.after hq
    | next => exact False.elim hq
    | brk => exact False.elim hq
    | cont => exact False.elim hq
end
end Ox

namespace Ox
open PySem PySem.Spec PyProof.Rows L2
theorem law_callG {P : Program} {w : World} {K : PySem.W.Frag} {mg mb : Str → Option Value} {k : Nat} {fa a : Addr} {fd : FuncData} {x : Str} {sp : Sp} {s₁ : Shared} {vs : List Value} {ns : List Int} (KX : K.In s₁.heap) (hns : s₁.heap.Ns mainGlobals mg) (hb : s₁.heap.Ns builtinsNs mb)
    (hbb : ∀ x : Str, x ≠ "__name__" → mb x = bootBuiltins x) (hlim : s₁.heap.NoLimit) (hsys : ∃ mm, s₁.heap.Ns sysModules mm) (hg : s₁.gens = #[]) (ha : s₁.heap.get? a = some { cls := .type "list", data := .seq vs.toArray }) (hi : IntsAre vs ns) (hl : ns.length ≤ sizeLine) (hr : Room k callerA)
    (F : ∀ base : Heap, K.In base → base.Ns mainGlobals mg → (∃ o, base.get? sysModules = some o) → FnG P w K mg base k fa fd [x] sp) (hbind : ∀ (s : Shared) (u : Value), BindsTo s fd ⟨[u], []⟩ [(x, u)]) (hsp : ∀ H : Hp, SqL K H a (ns.map V.int) → sp [.ref a] H (fun v _ => v = .bl true) fun _ _ _ => False) :
    codeAny (model P w) callerA (.call (.ref fa) ⟨[.ref a], []⟩) (fun r s' => r = .ok (.ret (.bool true)) ∧ OldK s₁.heap s'.heap ∧ s'.os = s₁.os ∧ AllBare s'.gens) s₁ := by
  have rv := vals_ints hi; have lenV := hi.length
  have core : ∀ H : Hp, (∀ b u, H b = some u → b = a ∧ K.lookup a = none ∧ ∃ o xs, u = .frz o (.lst xs)) → SqL K H a (ns.map V.int) → HOk P w H s₁.heap →
      codeAny (model P w) callerA (.call (.ref fa) ⟨[.ref a], []⟩) (fun r s' => r = .ok (.ret (.bool true)) ∧ OldK s₁.heap s'.heap ∧ s'.os = s₁.os ∧ AllBare s'.gens) s₁ := by
    intro H hA hS hok
    have base_of : ∀ {b : Addr} {o : Obj}, s₁.heap.get? b = some o → H b = none → (hidT s₁.heap H).get? b = some o := fun e n => hidT_get e n
    have noD : ∀ {b : Addr} {o : Obj} {es : Array DictEntry} {ep : Nat}, s₁.heap.get? b = some o → o.data = .dict es ep → H b = none := fun {b o es ep} e d => by
      cases q : H b with
      | none => rfl
      | some u =>
        have e' := (hA b u q).1; subst e'; rw [ha] at e; cases e; have d' : Data.seq vs.toArray _ = Data.dict es ep := d; cases d'
    have nsK : ∀ {b : Addr} {m : Str → Option Value}, s₁.heap.Ns b m → (hidT s₁.heap H).Ns b m := fun {b m} ⟨o, es, ep, e, d, r⟩ => ⟨o, es, ep, base_of e (noD e d), d, r⟩
    have hKb : K.In (hidT s₁.heap H) := fun b o e => base_of (KX b o e) (by
      cases q : H b with
      | none => rfl
      | some u => have z := hA b u q; rw [z.1, z.2.1] at e; cases e)
    have hM : Mod K mg (hidT s₁.heap H) := ⟨hKb, nsK hns, ⟨mb, nsK hb, hbb⟩, let ⟨mc, h1, h2⟩ := hlim; ⟨mc, nsK h1, h2⟩⟩
    have hS1 : ∃ o, (hidT s₁.heap H).get? sysModules = some o := by
      obtain ⟨mm, hm⟩ := hsys; obtain ⟨o, es, ep, e, _⟩ := nsK hm; exact ⟨o, e⟩
    have e0 : Env0 P w K mg (hidT s₁.heap H) callerA [] s₁ H := ⟨rfl, hM, fun b o e => of_hidT e, Nat.le_of_eq (hidT_size _ _), trivial, fun b hb => absurd (show b ∈ ([] : List Addr) from hb) (by simp), hok, .of_eq hg⟩
    refine codeAny_mono ((F _ hKb (nsK hns) hS1).run callerA [] s₁ H ⟨[.ref a], []⟩ [.ref a] [.ref a] _ _ rfl hr e0 (hbind s₁ (.ref a)) (.cons rfl .nil) (hsp H hS)) fun r s' h => ?_
    cases r with
    | error e => exact False.elim h
    | ok fl =>
      cases fl with
      | next => exact False.elim h
      | brk => exact False.elim h
      | cont => exact False.elim h
      | ret u =>
        obtain ⟨v, H', os, bare, un, hok', r', q⟩ := h; have q' : v = .bl true := q; subst q'; obtain rfl : u = Value.bool true := r'
        refine ⟨rfl, OldK.of_keep fun b o e => ?_, os, bare⟩
        cases q : H b with
        | none => exact un.keep b o e q (by intro z; exact absurd (show b ∈ ([] : List Addr) from z) (by simp)) (by simp)
        | some u =>
          obtain ⟨_, _, ob, xs, z⟩ := hA b u q; subst z; have z2 := un.frzs b ob _ q; obtain ⟨e1, _⟩ := hok b _ q; obtain ⟨e2, _⟩ := hok' b _ z2
          rw [e] at e1; cases e1; exact e2
  cases hk : K.lookup a with
  | some o =>
    have e := KX a o hk; rw [ha] at e; cases e
    exact core (fun _ => none) (fun b u z => nomatch (show (none : Option HO) = some u from z)) (.inr ⟨_, vs.toArray, _, hk, rfl, rfl, rfl, by (rw [List.size_toArray, lenV]; exact hl), by simpa using rv⟩) (fun b u z => nomatch (show (none : Option HO) = some u from z))
  | none =>
    refine core (fun b => if b = a then some (.frz { cls := .type "list", data := .seq vs.toArray } (.lst (ns.map V.int))) else none) (fun b u z => ?_) (.inl (.inr ⟨{ cls := .type "list", data := .seq vs.toArray }, if_pos rfl⟩)) (fun b u z => ?_)
    · by_cases hb : b = a
      · exact ⟨hb, hk, _, _, (Option.some.inj ((if_pos hb).symm.trans z)).symm⟩
      · exact nomatch ((if_neg hb).symm.trans z)
    · by_cases hb : b = a
      · have z' := Option.some.inj ((if_pos hb).symm.trans z); subst z'; subst hb; exact ⟨ha, by (rw [List.length_map]; exact hl), vs, _, rv, ha⟩
      · exact nomatch ((if_neg hb).symm.trans z)
theorem walkG {l : PySem.W.OpenLaw} {n k : Nat} {q : Program} {loose : List Str} {XP : (Str → Option Value) → Heap → Prop} {YP : World → Heap → Prop} {d : DefRec} {K : Params → PySem.W.Frag} {sp : PySem.W.Frag → Sp} {x : Str} (hn : l.most = some n) (hn2 : n ≤ sizeLine) (hdf : d.params.defaults = []) (hr : Room k callerA)
    (hq : importsNone q = true) (hY : ∀ (w : World) (h : Heap), YP w h → (K w.params).In h)
    (F : ∀ (w : World) (mg : Str → Option Value) (fa : Addr) (h : Heap), (K w.params).In h → h.Ns mainGlobals mg → mg d.name = some (.ref fa) →
      ∃ fd : FuncData, (∀ (s : Shared) (u : Value), BindsTo s fd ⟨[u], []⟩ [(x, u)]) ∧ ∀ base : Heap, (K w.params).In base → base.Ns mainGlobals mg → (∃ o, base.get? sysModules = some o) → FnG l.prog w (K w.params) mg base k fa fd [x] (sp (K w.params)))
    (hsp : ∀ (K : PySem.W.Frag) (H : Hp) (a : Addr) (ns : List Int), ns.length ≤ n → SqL K H a (ns.map V.int) → sp K [.ref a] H (fun v _ => v = .bl true) fun _ _ _ => False) : PySem.W.WalkO q loose XP YP l.row.toRowW d [] (fun f vs => PySem.call f vs) := by
  refine Att.attach_call hn hdf fun w s₀ s₁ mg mb fa o pm cd doc a vs ns G Y ho hd hcd hmg hobj hints hlen hg => ?_
  have KX := hY w _ Y; obtain ⟨fd, hb, hF⟩ := F w mg fa _ KX G.T.g hmg; have hs := (G.T.seer hq).mods
  exact law_callG KX G.T.g G.T.b G.T.builtins G.T.nolimit (let ⟨mm, h, _⟩ := hs; ⟨mm, h⟩) hg hobj hints (Nat.le_trans hlen hn2) hr hF hb fun H hS => hsp _ H a ns hlen hS
end Ox

namespace Rd
open PySem PySem.Spec PyProof.Rows L2 Tq Dn Dc Ox
/-! ### repr of any data -/
def Shows (H : Hp) (v : V) (t : Str) : Prop :=
  (v = .non ∧ t = "None") ∨ (∃ b, v = .bl b ∧ t = if b then "True" else "False") ∨ (∃ i : Int, v = .int i ∧ i.natAbs.log2 < 1920 ∧ t = toString i) ∨ (∃ x, v = .str x ∧ (reprText x).length ≤ sizeLine ∧ t = reprText x) ∨
    (∃ a d, v = .ref a ∧ Dq H v d ∧ d.showable = true ∧ d.depth ≤ 50 ∧ d.shown.length ≤ sizeLine ∧ t = d.shown)
theorem Shows.up {H H' : Hp} {v : V} {t : Str} (h : Shows H v t) (s : Same H H') : Shows H' v t := by
  rcases h with h | h | h | h | ⟨a, d, e, hd, r⟩
  · exact .inl h
  · exact .inr (.inl h)
  · exact .inr (.inr (.inl h))
  · exact .inr (.inr (.inr (.inl h)))
  · exact .inr (.inr (.inr (.inr ⟨a, d, e, hd.keeps s, r⟩)))
def rShow : List V → Hp → VK → Prop := fun xs H Q => ∃ v t, xs = [v] ∧ Shows H v t ∧ Q (.str t) H
theorem call_show {X : Cx} (hg : X.A.guards = some []) (hu : X.A.units + 64 < cLine) (hs : ∃ o, X.base.get? sysModules = some o) : CallR X (.builtin "repr") rShow := by
  intro pins s σ H xs us Q I r h
  obtain ⟨v, t, rfl, h, q⟩ := h
  rcases h with ⟨rfl, rfl⟩ | ⟨b, rfl, rfl⟩ | ⟨i, rfl, hz, rfl⟩ | ⟨x, rfl, hz, rfl⟩ | ⟨a, d, rfl, hd, h1, h2, h3, rfl⟩
  · obtain ⟨u, rfl, ru⟩ := vals1 r
    cases (show u = Value.none from ru)
    exact PySem.P.repr_of_none ⟨.str _, H, I.tok _, ⟨_, rfl⟩, q⟩
  · obtain ⟨u, rfl, ru⟩ := vals1 r
    cases (show u = Value.bool b from ru)
    exact PySem.P.repr_of_bool ⟨.str _, H, I.tok _, ⟨_, by cases b <;> rfl⟩, q⟩
  · obtain ⟨u, rfl, tk, rfl⟩ := vals1 r
    exact PySem.P.repr_of_int hz ⟨.str _, H, I.tok _, ⟨_, rfl⟩, q⟩
  · obtain ⟨u, rfl, tk, rfl⟩ := vals1 r
    exact PySem.P.repr_of_str ⟨.str _, H, I.tok _, ⟨_, rfl⟩, q⟩ hz
  · exact call_reprD hg hu hs pins s σ H _ us Q I r ⟨a, d, rfl, hd, h1, h2, h3, q⟩
/-! ### what may raise -/
theorem passN0 {X : Cx} {σ : L2.St} : PassesAt (L2N.CX X.prog X.w) X σ E0 := fun pins H s e s' I c => by
  obtain ⟨_, _, _, _, _, _, _, _, _, _, _, _, z⟩ := c; exact z.elim
theorem okN {P : Program} {w : World} {K : PySem.W.Frag} {mg : Str → Option Value} {base : Heap} {x qual : Str} {st : Stmt} {f : Addr} {fd : FuncData} {N ps : List Str} {k : Nat} {sp : Sp} (F : Fun K x qual st f fd) (S : FnScope N ps (defScope st)) (len : ∀ vs H Q E, sp vs H Q E → vs.length = ps.length)
    (hbody : ∀ (cdv : Value) (A : Around) (outer : List Env) (s : Shared) (H : Hp) (vs : List V) (Q : VK) (E : XK), Room k (A.deeper (envOfC qual (defScope st) s.heap.objs.size f cdv)) → sp vs H Q E →
      ∃ t, PSs (cxOf (L2N.CX P w) P w K mg base N qual (defScope st) f cdv A outer s H E) (defBody st) t ∧ t { nx := fun _ H' => Q .non H', rt := Q } (start N vs) H) : FnOk P w K mg base (L2N.CX P w) (k + 1) f fd ps sp := by
  obtain ⟨oc, od, kV, doc, pm, an, cdv, ct, osl, rfl, lk, hcd⟩ := F.ex
  exact fn_of lk hcd S len fun A outer s H vs Q E hr hsp => hbody cdv A outer s H vs Q E hr hsp
def spNeed (K : PySem.W.Frag) (C CN : Addr) : Sp := fun vs H Q E => ∃ (r : Addr) (rs : RowsL) (v : V) (d : PyData), vs = [.ref r, v] ∧ RdAt K C H r rs ∧ Dp K H v d ∧
  ((numD d ((rs.length : Int) - 1) = true ∧ Q .non H) ∨ (numD d ((rs.length : Int) - 1) = false ∧ ∀ dd, H dd = none → E (.ref CN) (some dd) (upd H dd (.xd [("value", v)]))))
def spGet (K : PySem.W.Frag) (C CN : Addr) : Sp := fun vs H Q E => ∃ (r : Addr) (rs : RowsL) (v : V) (d : PyData), vs = [.ref r, v] ∧ RdAt K C H r rs ∧ Dp K H v d ∧
  ((∃ n q, v = .int ((n : Nat) : Int) ∧ rs[n]? = some q ∧ Q (.ref q.1) H) ∨ (numD d ((rs.length : Int) - 1) = false ∧ ∀ dd, H dd = none → E (.ref CN) (some dd) (upd H dd (.xd [("value", v)]))))
structure TxG (K : PySem.W.Frag) (mg : Str → Option Value) (P : Program) (w : World) (base : Heap) (C CN : Addr) : Prop extends TxR0 K mg P w base C where
  gN : mg "InvalidNumber" = some (.ref CN)
  oN : ∃ J, PySem.Mk0.OTxt K CN J "value" "InvalidNumber.__init__" "IndexError" "IndexError.__new__" PySem.Mk0.bIx
section
variable {P : Program} {w : World} {K : PySem.W.Frag} {mg : Str → Option Value} {base : Heap}
theorem scNe : FnScope ["self", "at"] ["self", "at"] (defScope sNeed) := ⟨rfl, rfl, rfl, by decide +kernel, rfl, by decide +kernel, by decide +kernel⟩
theorem ok_need {C CN f : Addr} {fd : FuncData} (F : Fun K "_need_line" "Reader._need_line" sNeed f fd) (T : TxG K mg P w base C CN) : FnOk P w K mg base (L2N.CX P w) 4 f fd ["self", "at"] (spNeed K C CN) := by
  obtain ⟨g, gd, mG, kG, bG, GG⟩ := T.within_
  obtain ⟨J, oN⟩ := T.oN
  refine okN F scNe (fun vs H Q E h => ?_) (fun cdv A outer s H vs Q E hr h => ?_)
  · obtain ⟨r, rs, v, d, rfl, _⟩ := h; rfl
  · obtain ⟨r, rs, v, d, rfl, ⟨dx, L, TT, ps, e, hL, _⟩, hd, k⟩ := h
    refine ⟨_, pss_one (ps_if (pt_not (pt_val (pe_call GG hr (by rfl) mG kG bG .nil pass0 (pa_cons (pv 1) (pa_cons (pe_op op_sub (pe_callB call_lenT (by rfl) T.len PySem.boot_len (pa_cons (pe_fld (pv 0) rfl) pa_nil)) pe_int) pa_nil)))))
      (pss_one (L2N.ps_raise rfl (L2N.takes_of rfl rfl rfl rfl) (pmk_oi oN T.gN hr (pa_cons (pv 1) pa_nil)))) pss_nil), ?_⟩
    refine ⟨_, rfl, _, rfl, r, C, dx, _, _, rfl, e, T.cl, T.nL, rd_lines L TT, L, _, rfl, hL.1, _, _, rfl, rfl, v, d, _, rfl, hd, ?_⟩
    rw [List.length_map]
    refine ⟨_, rfl, ?_⟩
    rcases k with ⟨hn, k⟩ | ⟨hn, k⟩
    · rw [hn]; exact iteF k
    · rw [hn]; exact iteT ⟨_, rfl, _, rfl, fun dd nd => k dd nd⟩
structure TxG2 (K : PySem.W.Frag) (mg : Str → Option Value) (P : Program) (w : World) (base : Heap) (C CN : Addr) : Prop extends TxG K mg P w base C CN where
  need : ∃ f fd, Meth K C "_need_line" f ∧ Binds K fd ["self", "at"] [] ∧ FnOk P w K mg base (L2N.CX P w) 4 f fd ["self", "at"] (spNeed K C CN)
theorem scGe : FnScope ["self", "at"] ["self", "at"] (defScope sGet) := ⟨rfl, rfl, rfl, by decide +kernel, rfl, by decide +kernel, by decide +kernel⟩
theorem rd_no {L T : Addr} {m : Str} (h1 : m ≠ "_lines") (h2 : m ≠ "_tested") : (rdF L T).lookup m = none := by
  rw [← rd_flds, lookup_putF, if_neg h2, lookup_putF, if_neg h1]; rfl
theorem ok_get {C CN f : Addr} {fd : FuncData} (F : Fun K "__getitem__" "Reader.__getitem__" sGet f fd) (T : TxG2 K mg P w base C CN) : FnOk P w K mg base (L2N.CX P w) 5 f fd ["self", "at"] (spGet K C CN) := by
  obtain ⟨g, gd, M, bG, GG⟩ := T.need
  refine okN F scGe (fun vs H Q E h => ?_) (fun cdv A outer s H vs Q E hr h => ?_)
  · obtain ⟨r, rs, v, d, rfl, _⟩ := h; rfl
  · obtain ⟨r, rs, v, d, rfl, hR, hd, k⟩ := h
    obtain ⟨dx, L, TT, ps, e, hL, _⟩ := id hR
    refine ⟨_, pss_cons (ps_expr (pe_meth (pv 0) T.cl M GG hr bG .nil (L2N.passes_call (L2N.takes_of rfl rfl rfl rfl) (fun _ _ _ _ h => h)) (pa_cons (pv 1) pa_nil)))
      (pss_one (ps_ret (pe_ix ix_tup (pe_fld (pv 0) rfl) (pv 1) (fun _ _ => rfl)))), ?_⟩
    refine ⟨_, rfl, r, dx, _, rfl, e, rd_no (by decide +kernel) (by decide +kernel), _, rfl, r, rs, v, d, rfl, hR, hd, ?_⟩
    rcases k with ⟨n, q, rfl, hq, k⟩ | ⟨hn, k⟩
    · cases hd
      have hn : n < rs.length := (List.getElem?_eq_some_iff.mp hq).1
      refine .inl ⟨?_, ?_⟩
      · show (decide (0 ≤ (n : Int)) && decide ((n : Int) ≤ (rs.length : Int) - 1)) = true
        simp; omega
      · exact ⟨_, rfl, r, C, dx, _, _, rfl, e, T.cl, T.nL, rd_lines L TT, _, rfl, L, _, _, .ref q.1, rfl, rfl, hL.1, atI_nat (by rw [List.getElem?_map, hq]; rfl), k⟩
    · exact .inr ⟨hn, k⟩
end
end Rd

namespace Rd
open PySem PySem.Spec PyProof.Rows L2 Tq Dn Dc Ox
def rTupOf (K : PySem.W.Frag) : List V → Hp → VK → Prop := fun xs H Q => ∃ p ys, xs = [.ref p] ∧ SqL K H p ys ∧ ∀ l, H l = none → Q (.ref l) (upd H l (.tup ys))
theorem call_tupOf {X : Cx} : CallR X (.type "tuple") (rTupOf X.K) := by
  intro pins s σ H xs us Q I r h
  obtain ⟨p, ys, e, h1, h2⟩ := h
  exact call_tuple_of pins s σ H xs us Q I r ⟨p, ys, e, .inl ⟨h1, h2⟩⟩
end Rd

namespace Rd
open PySem PySem.Spec PyProof.Rows L2 Tq Dn Dc Ox
abbrev sLn : Stmt := top 50
abbrev sLns : Stmt := top 51
def T3 : List Str := ["item", "order", "buyer"]
def P2 : List Str := ["live", "arch"]
/-- a drawn line -/
def Ln.drawn (m : Nat) : Ln → Prop
  | .go n => n ≤ m
  | .ift t p n => t ∈ T3 ∧ p ∈ P2 ∧ n ≤ m
  | .look t p => t ∈ T3 ∧ p ∈ P2
  | .read t p => t ∈ T3 ∧ p ∈ P2
theorem names_t : ∀ t ∈ T3, nameS t = true := by decide +kernel
theorem names_p : ∀ p ∈ P2, nameS p = true := by decide +kernel
theorem drawn_fine {l : Ln} {m : Nat} (h : l.drawn m) : l.fine m = true := by
  cases l with
  | go n => exact decide_eq_true h
  | ift t p n => show (nameS t && (nameS p && decide (n ≤ m))) = true; rw [names_t t h.1, names_p p h.2.1, decide_eq_true h.2.2]; rfl
  | look t p => show (nameS t && nameS p) = true; rw [names_t t h.1, names_p p h.2]; rfl
  | read t p => show (nameS t && nameS p) = true; rw [names_t t h.1, names_p p h.2]; rfl
theorem sub_len {α : Type} [DecidableEq α] : ∀ {xs ys : List α}, xs.Nodup → (∀ x ∈ xs, x ∈ ys) → xs.length ≤ ys.length
  | [], _, _, _ => Nat.zero_le _
  | x :: xs, ys, nd, h => by
    obtain ⟨n1, n2⟩ := List.nodup_cons.mp nd
    have hx := h x List.mem_cons_self
    have ih := sub_len (xs := xs) (ys := ys.erase x) n2 fun z hz => by
      have hz2 := h z (.tail _ hz)
      exact (List.mem_erase_of_ne (fun e => n1 (by rw [← e]; exact hz))).mpr hz2
    rw [List.length_erase_of_mem hx] at ih
    have : 0 < ys.length := List.length_pos_of_mem hx
    rw [List.length_cons]; omega
def six : List (List Str) := [["item", "live"], ["item", "arch"], ["order", "live"], ["order", "arch"], ["buyer", "live"], ["buyer", "arch"]]
theorem in_six : ∀ t ∈ T3, ∀ p ∈ P2, [t, p] ∈ six := by decide +kernel
theorem drawn_ok {rs : RowsL} (h : ∀ r ∈ rs, r.2.drawn rs.length) (few : rs.length ≤ 16) : RdOk rs := by
  refine ⟨few, fun r hr => drawn_fine (h r hr), fun ps hA => ?_⟩
  refine Nat.le_trans (sub_len (up_nodup hA.up) (ys := six) fun k hk => ?_) (by decide)
  obtain ⟨l, hl, rfl⟩ := List.mem_map.mp ((hA.mem k).mp hk)
  obtain ⟨h1, h2⟩ := List.mem_filter.mp hl
  obtain ⟨r, hr, rfl⟩ := List.mem_map.mp h1
  have hd := h r hr
  cases e : r.2 with
  | go n => rw [e] at h2; exact absurd h2 (by show ¬ ([("if" : Str)].contains ("go" : Str)) = true; decide +kernel)
  | ift t p n => rw [e] at hd; exact in_six t hd.1 p hd.2.1
  | look t p => rw [e] at hd; exact in_six t hd.1 p hd.2
  | read t p => rw [e] at hd; exact in_six t hd.1 p hd.2
structure TxE2 (K : PySem.W.Frag) (mg : Str → Option Value) (P : Program) (w : World) (base : Heap) : Prop extends TxM K mg where
  roll : Has P w K mg base "_law_roll" 1 ["_law_dice_here", "_law_total"] spRoll
  one : Has P w K mg base "_law_one_of" 2 ["_law_dice_here", "_law_items"] spOne
def spLn : Sp := fun vs H Q _ => ∃ (p : Addr) (m : Nat), vs = [.ref p, .int (m : Int)] ∧ DiceAt H p ∧ m ≤ 16 ∧ ∀ a l H', Keep p H H' → DiceAt H' p → H a = none → H' a = some (.tup l.vs) → Ln.drawn m l → Q (.ref a) H'
def sizes : List Nat := [0, 1, 2, 3, 4, 5, 7, 9, 16]
def spLns (K : PySem.W.Frag) : Sp := fun vs H Q _ => ∃ (p : Addr) (mm : Nat), vs = [.ref p, .int (mm : Int)] ∧ mm ≤ 16 ∧ DiceAt H p ∧ ∀ (L : Addr) (rs : RowsL) (H' : Hp), Keep p H H' → DiceAt H' p → H L = none → H' L = some (.tup (rs.map fun r => .ref r.1)) → (∀ r ∈ rs, H' r.1 = some (.tup r.2.vs)) → (∀ r ∈ rs, r.2.drawn rs.length) → rs.length ≤ mm → Q (.ref L) H'
section
variable {P : Program} {w : World} {K : PySem.W.Frag} {mg : Str → Option Value} {base : Heap}
theorem scLn : FnScope ["_law_dice_here", "_law_size", "_law_way", "_law_table", "_law_part"] ["_law_dice_here", "_law_size"] (defScope sLn) := ⟨rfl, rfl, rfl, by decide +kernel, rfl, by decide +kernel, by decide +kernel⟩
theorem pick_s {xs : List Str} {i : Nat} {x : V} (h : (xs.map V.str)[i]? = some x) : ∃ s ∈ xs, x = .str s := by
  rw [List.getElem?_map] at h
  obtain ⟨s, hs, rfl⟩ := Option.map_eq_some_iff.mp h
  exact ⟨s, List.mem_of_getElem? hs, rfl⟩
theorem keep_free {p q : Addr} {H H' : Hp} (k : Keep p H H') (hD : DiceAt H' p) (n : H' q = none) : H q = none := by
  obtain ⟨a, b, c, hp, _⟩ := hD
  cases e : H q with
  | none => rfl
  | some o =>
    have hq : q ≠ p := fun z => by rw [z, hp] at n; cases n
    rw [k q o hq e] at n; cases n
/-- what is new stands apart from the dice -/
theorem dice_ne {p q : Addr} {H : Hp} (hD : DiceAt H p) (n : H q = none) : q ≠ p := fun e => by
  obtain ⟨a, b, c, hp, _⟩ := hD
  rw [e, hp] at n; cases n
theorem dice_upd {p q : Addr} {H : Hp} {o : HO} (hD : DiceAt H p) (n : q ≠ p) : DiceAt (upd H q o) p := by
  obtain ⟨a, b, c, hp, h⟩ := hD
  exact ⟨a, b, c, by rw [upd_ne (Ne.symm n)]; exact hp, h⟩
theorem ok_ln {f : Addr} {fd : FuncData} (F : Fun K "_law_line" "_law_line" sLn f fd) (T : TxE2 K mg P w base) : FnOk P w K mg base CX0 3 f fd ["_law_dice_here", "_law_size"] spLn := by
  obtain ⟨fR, fdR, mR, kR, bR, GR⟩ := T.roll
  obtain ⟨fO, fdO, mO, kO, bO, GO⟩ := T.one
  refine F.ok scLn (fun vs H Q E h => ?_) (fun cdv A outer s H vs Q E hr h => ?_)
  · obtain ⟨p, m, rfl, _⟩ := h; rfl
  · obtain ⟨p, m, rfl, hD, hm, k⟩ := h
    have hr1 : Room 1 _ := hr.mono (by decide)
    refine ⟨_, pss_cons (ps_par (i := 2) (j := 3) rfl scLn.nd rfl rfl (by decide) rfl rfl (pa_cons (pe_call GR hr1 (by rfl) mR kR bR .nil pass0 (pa_cons (pv 0) (pa_cons pe_int pa_nil))) (pa_cons (pe_call GO hr (by rfl) mO kO bO .nil pass0 (pa_cons (pv 0) (pa_cons (pe_lst (pa_cons pe_str (pa_cons pe_str (pa_cons pe_str pa_nil)))) pa_nil))) pa_nil)) (by rfl))
      (pss_cons (ps_set (i := 4) scLn.nd rfl (Or.inl rfl) (pe_call GO hr (by rfl) mO kO bO .nil pass0 (pa_cons (pv 0) (pa_cons (pe_lst (pa_cons pe_str (pa_cons pe_str pa_nil))) pa_nil))))
      (pss_cons (ps_if (pt_cmpR op_eq (pv 2) pe_int (nomark _)) (pss_one (ps_ret (pe_tup (pa_cons pe_str (pa_cons (pe_call GR hr1 (by rfl) mR kR bR .nil pass0 (pa_cons (pv 0) (pa_cons (pe_op op_add (pv 1) pe_int) pa_nil))) pa_nil))))) pss_nil)
      (pss_cons (ps_if (pt_cmpR op_lt (pv 2) pe_int (nomark _)) (pss_one (ps_ret (pe_tup (pa_cons pe_str (pa_cons (pv 3) (pa_cons (pv 4) (pa_cons (pe_call GR hr1 (by rfl) mR kR bR .nil pass0 (pa_cons (pv 0) (pa_cons (pe_op op_add (pv 1) pe_int) pa_nil))) pa_nil))))))) pss_nil)
      (pss_one (ps_ret (pe_ifExp (pt_cmpR op_eq (pv 2) pe_int (nomark _)) (pe_tup (pa_cons pe_str (pa_cons (pv 3) (pa_cons (pv 4) pa_nil)))) (pe_tup (pa_cons pe_str (pa_cons (pv 3) (pa_cons (pv 4) pa_nil)))))))))), ?_⟩
    obtain ⟨a, b, c, hp, ha⟩ := id hD
    refine ⟨_, rfl, p, 8, a, b, c, rfl, hp, ha, by decide, by decide, fun r x1 y1 z1 h1 h2 h3 => ?_⟩
    have k1 : Keep p H (upd H p (.lst [.int x1, .int y1, .int z1])) := keep_upd
    have d1 : DiceAt (upd H p (.lst [.int x1, .int y1, .int z1])) p := .upd h3
    generalize upd H p (HO.lst [V.int x1, V.int y1, V.int z1]) = H1 at k1 d1 ⊢
    refine ⟨_, rfl, (by show 3 ≤ sizeLine; decide), fun l1 n1 => ?_⟩
    have e1 := dice_ne d1 n1
    refine ⟨p, l1, _, rfl, dice_upd d1 e1, upd_same, e1, (by show 0 < 3; decide), (by show 3 < 1000; decide), fun i1 v1 a1 b1 c1 hv1 ha1 => ?_⟩
    obtain ⟨t, ht, rfl⟩ := pick_s (xs := T3) hv1
    have k2 : Keep p H (upd (upd H1 l1 (.lst [.str "item", .str "order", .str "buyer"])) p (.lst [.int a1, .int b1, .int c1])) := (k1.trans (keep_new n1)).trans keep_upd
    have d2 : DiceAt (upd (upd H1 l1 (.lst [.str "item", .str "order", .str "buyer"])) p (.lst [.int a1, .int b1, .int c1])) p := .upd ha1
    generalize upd (upd H1 l1 (HO.lst [V.str "item", V.str "order", V.str "buyer"])) p (HO.lst [V.int a1, V.int b1, V.int c1]) = H2 at k2 d2 ⊢
    refine ⟨_, _, rfl, ?_⟩
    refine ⟨_, rfl, (by show 2 ≤ sizeLine; decide), fun l2 n2 => ?_⟩
    have e2 := dice_ne d2 n2
    refine ⟨p, l2, _, rfl, dice_upd d2 e2, upd_same, e2, (by show 0 < 2; decide), (by show 2 < 1000; decide), fun i2 v2 a2 b2 c2 hv2 ha2 => ?_⟩
    obtain ⟨q, hq, rfl⟩ := pick_s (xs := P2) hv2
    have k3 : Keep p H (upd (upd H2 l2 (.lst [.str "live", .str "arch"])) p (.lst [.int a2, .int b2, .int c2])) := (k2.trans (keep_new n2)).trans keep_upd
    have d3 : DiceAt (upd (upd H2 l2 (.lst [.str "live", .str "arch"])) p (.lst [.int a2, .int b2, .int c2])) p := .upd ha2
    generalize upd (upd H2 l2 (HO.lst [V.str "live", V.str "arch"])) p (HO.lst [V.int a2, V.int b2, V.int c2]) = H3 at k3 d3 ⊢
    obtain ⟨a3, b3, c3, hp3, ha3⟩ := id d3
    have fin : ∀ (l : Ln) (H4 : Hp), Keep p H H4 → DiceAt H4 p → l.drawn m → ∀ u, H4 u = none → Q (.ref u) (upd H4 u (.tup l.vs)) := fun l H4 k4 d4 dr u nu =>
      k u l _ (k4.trans (keep_new nu)) (dice_upd d4 (dice_ne d4 nu)) (keep_free k4 d4 nu) upd_same dr
    refine ⟨_, rfl, rfl, _, rfl, ite2 (fun c0 => ?_) (fun c0 => ?_)⟩
    · refine ⟨_, rfl, _, rfl, _, _, rfl, rfl, p, _, a3, b3, c3, rfl, hp3, ha3, by omega, by omega, fun n x y z g1 g2 g3 => ?_⟩
      refine ⟨(by show 2 ≤ sizeLine; decide), fun u nu => ?_⟩
      have := fin (.go n.toNat) _ (k3.trans keep_upd) (.upd g3) (by show n.toNat ≤ m; omega) u nu
      rw [show ((Ln.go n.toNat).vs) = [.str "go", .int n] by show [V.str "go", V.int (n.toNat : Int)] = _; rw [Int.toNat_of_nonneg g1]] at this
      exact this
    refine ⟨_, rfl, _, _, rfl, rfl, _, rfl, ite2 (fun c1' => ?_) (fun c1' => ?_)⟩
    · refine ⟨_, rfl, _, rfl, _, rfl, _, rfl, _, _, rfl, rfl, p, _, a3, b3, c3, rfl, hp3, ha3, by omega, by omega, fun n x y z g1 g2 g3 => ?_⟩
      refine ⟨(by show 4 ≤ sizeLine; decide), fun u nu => ?_⟩
      have := fin (.ift t q n.toNat) _ (k3.trans keep_upd) (.upd g3) ⟨ht, hq, by omega⟩ u nu
      rw [show ((Ln.ift t q n.toNat).vs) = [.str "if", .str t, .str q, .int n] by show [V.str "if", V.str t, V.str q, V.int (n.toNat : Int)] = _; rw [Int.toNat_of_nonneg g1]] at this
      exact this
    refine ⟨_, rfl, rfl, _, rfl, ite2 (fun c2' => ?_) (fun c2' => ?_)⟩
    · exact ⟨_, rfl, _, rfl, (by show 3 ≤ sizeLine; decide), fun u nu => fin (.look t q) _ k3 d3 ⟨ht, hq⟩ u nu⟩
    · exact ⟨_, rfl, _, rfl, (by show 3 ≤ sizeLine; decide), fun u nu => fin (.read t q) _ k3 d3 ⟨ht, hq⟩ u nu⟩
end
end Rd

namespace Rd
open PySem PySem.Spec PyProof.Rows L2 Tq Dn Dc Ox
structure TxE3 (K : PySem.W.Frag) (mg : Str → Option Value) (P : Program) (w : World) (base : Heap) : Prop extends TxE2 K mg P w base where
  ln : Has P w K mg base "_law_line" 3 ["_law_dice_here", "_law_size"] spLn
theorem scLns : FnScope ["_law_dice_here", "_law_most", "_law_size", "_law_one", "_law_turn"] ["_law_dice_here", "_law_most"] (defScope sLns) := ⟨rfl, rfl, rfl, by decide +kernel, rfl, by decide +kernel, by decide +kernel⟩
abbrev vN (n : Nat) : V := .int (n : Int)
theorem sizes_le : ∀ n ∈ sizes, n ≤ 16 := by decide
section
variable {P : Program} {w : World} {K : PySem.W.Frag} {mg : Str → Option Value} {base : Heap}
theorem ok_lns {f : Addr} {fd : FuncData} (F : Fun K "_law_lines" "_law_lines" sLns f fd) (T : TxE3 K mg P w base) : FnOk P w K mg base CX0 4 f fd ["_law_dice_here", "_law_most"] (spLns K) := by
  obtain ⟨fL, fdL, mL, kL, bL, GL⟩ := T.ln
  obtain ⟨fO, fdO, mO, kO, bO, GO⟩ := T.one
  refine F.ok scLns (fun vs H Q E h => ?_) (fun cdv A outer s H vs Q E hr h => ?_)
  · obtain ⟨p, mm, rfl, _⟩ := h; rfl
  · obtain ⟨p, mm, rfl, hmm, hDi, k⟩ := h
    have hr2 : Room 2 _ := hr.mono (by decide)
    refine ⟨_, pss_cons (ps_set (i := 2) scLns.nd rfl (Or.inr rfl) (pe_call GO hr2 (by rfl) mO kO bO .nil pass0 (pa_cons (pv 0) (pa_cons (pe_lc (own := [("_law_one", 3)]) (g := gName 3) (tt := tTest (tOp (rI0 fun i j => .bl (decide (i ≤ j))) (tVar 3) (tVar 1))) (te := tVar 3) rfl scLns.nd
          (pi_tup (pe_tup (pa_cons pe_int (pa_cons pe_int (pa_cons pe_int (pa_cons pe_int (pa_cons pe_int (pa_cons pe_int (pa_cons pe_int (pa_cons pe_int (pa_cons pe_int pa_nil)))))))))))
          (blkOk_by (N := ["_law_dice_here", "_law_most", "_law_size", "_law_one", "_law_turn"]) (sc := defScope sLns) (by decide +kernel)) (fun _ _ _ _ _ => pg_name (i := 3) scLns.nd rfl (Or.inl rfl))
          (fun _ _ _ _ _ => pts_one (pt_cmpR op_le (pv 3) (pv 1) (nomark _))) (fun _ _ _ _ _ => pv 3)) pa_nil))))
      (pss_one (ps_ret (pe_callTy call_tupOf (by rfl) T.tuple PyProof.Rows.boot_tuple (pa_cons (pe_lc (own := [("_law_turn", 4)]) (g := gName 4) (tt := tYes) rfl scLns.nd (pi_range1 (by rfl) T.range (pa_cons (pv 2) pa_nil))
          (blkOk_by (N := ["_law_dice_here", "_law_most", "_law_size", "_law_one", "_law_turn"]) (sc := defScope sLns) (by decide +kernel)) (fun _ _ _ _ _ => pg_name (i := 4) scLns.nd rfl (Or.inl rfl)) (fun _ _ _ _ _ => pts_nil)
          (fun _ _ _ _ _ => pe_call GL hr (by rfl) mL kL bL .nil pass0 (pa_cons (pv 0) (pa_cons (pv 2) pa_nil)))) pa_nil)))), ?_⟩
    refine ⟨_, rfl, (by show 9 ≤ sizeLine; decide), fun t nt => ⟨t, rfl, ⟨_, SqT.of upd_same⟩, fun D hD => ?_⟩⟩
    have st := same_new (o := HO.tup (sizes.map vN)) nt
    have ht : upd H t (HO.tup (sizes.map vN)) t = some (.tup (sizes.map vN)) := upd_same
    change upd H t (HO.tup (sizes.map vN)) D = none at hD
    show ∃ W : Nat → Nat → Hp → Prop, (∃ m, W 0 m (upd (upd H t (HO.tup (sizes.map vN))) D (.lst []))) ∧ _
    have off : Off D (fun i acc (_ : Hp) => acc = ((sizes.take i).filter fun n => decide (n ≤ mm)).map vN) := fun _ _ _ _ _ _ _ z => z
    refine lc_fil (walk_tup (xs := sizes.map vN)) hD (fun i acc _ => acc = ((sizes.take i).filter fun n => decide (n ≤ mm)).map vN) rfl (fun H' s' => sqT_up (SqT.of ht) s') ?_ ?_
    · rintro i v acc H2 H3 hi s2 e2 rfl ⟨rfl, hv⟩
      rw [List.getElem?_map] at hv
      obtain ⟨n, hn, rfl⟩ := Option.map_eq_some_iff.mp hv
      refine ⟨rfl, ?_⟩
      refine ⟨_, rfl, _, rfl, _, _, rfl, rfl, _, rfl, ?_⟩
      have nx : (sizes.take (i + 1)).filter (fun n => decide (n ≤ mm)) = (sizes.take i).filter (fun n => decide (n ≤ mm)) ++ [n].filter fun n => decide (n ≤ mm) := by rw [List.take_add_one, hn, List.filter_append]; rfl
      refine ite2 (fun c => ?_) (fun c => ?_)
      · have c' : n ≤ mm := by have := of_decide_eq_true c; omega
        refine ⟨_, rfl, put_of hD off s2 e2 (Same.refl _) ?_ ?_⟩
        · rw [List.length_map, sizeLine_eq]
          have := List.length_filter_le (fun n => decide (n ≤ mm)) (sizes.take i)
          rw [List.length_take] at this
          have : sizes.length = 9 := rfl
          omega
        · rw [nx, List.filter_cons_of_pos (by exact decide_eq_true c'), List.map_append]; rfl
      · have c' : ¬ n ≤ mm := fun h => c (decide_eq_true (by omega))
        refine fil_of s2 e2 (Same.refl _) ?_
        rw [nx, List.filter_cons_of_neg (by simpa using c')]; simp
    · rintro acc H2 s2 e2 rfl
      rw [List.length_map, List.take_length] at e2
      have s02 := st.trans s2
      have d2 : DiceAt H2 p := let ⟨a, b, c, hp, ha⟩ := hDi; ⟨a, b, c, s02 _ _ hp, ha⟩
      have nDp : D ≠ p := fun z => by
        obtain ⟨a, b, c, hp, ha⟩ := hDi
        rw [z, st _ _ hp] at hD; cases hD
      have h0 : (0 : Nat) ∈ sizes.filter fun n => decide (n ≤ mm) := List.mem_filter.mpr ⟨by decide, decide_eq_true (Nat.zero_le _)⟩
      have hlen : (sizes.filter fun n => decide (n ≤ mm)).length ≤ 9 := List.length_filter_le _ _
      refine ⟨p, D, _, rfl, d2, e2, nDp, (by rw [List.length_map]; exact List.length_pos_of_mem h0), (by rw [List.length_map]; omega), fun i v a b c hv ha => ?_⟩
      rw [List.getElem?_map] at hv
      obtain ⟨n, hn, rfl⟩ := Option.map_eq_some_iff.mp hv
      have hnm : n ≤ mm := of_decide_eq_true (List.mem_filter.mp (List.mem_of_getElem? hn)).2
      have h16 : n ≤ 16 := by omega
      have k3 : Keep p H (upd H2 p (.lst [.int a, .int b, .int c])) := (same_keep s02).trans keep_upd
      have d3 : DiceAt (upd H2 p (.lst [.int a, .int b, .int c])) p := .upd ha
      generalize upd H2 p (HO.lst [V.int a, V.int b, V.int c]) = H3 at k3 d3 ⊢
      refine ⟨_, rfl, (n : Int), rfl, by omega, by omega, fun D2 hD2 => ?_⟩
      have n2p : D2 ≠ p := dice_ne d3 hD2
      refine lc_range (n := n) (fun i H' => Keep p H3 H' ∧ DiceAt H' p ∧ ∃ rs : RowsL, H' D2 = some (.lst (rs.map fun r => .ref r.1)) ∧ (∀ r ∈ rs, H' r.1 = some (.tup r.2.vs)) ∧ rs.length = i ∧ ∀ r ∈ rs, r.2.drawn n)
        ⟨keep_new hD2, dice_upd d3 n2p, [], upd_same, (fun r hr => nomatch hr), rfl, fun r hr => nomatch hr⟩ ?_ ?_
      · rintro i H4 hi ⟨k4, d4, rs, e4, hrs, el, dr⟩
        refine ⟨rfl, tt_yes ?_⟩
        refine ⟨_, rfl, _, rfl, p, n, rfl, d4, h16, fun u l H5 k5 d5 nu eu hl => ?_⟩
        have e5 : H5 D2 = some (.lst (rs.map fun r => .ref r.1)) := k5 _ _ n2p e4
        refine ⟨_, e5, by rw [List.length_map, sizeLine_eq]; omega, fun x o hx e => ?_, dice_upd d5 n2p, rs ++ [(u, l)], by rw [upd_same, List.map_append]; rfl, fun r hr => ?_, by simp [el], fun r hr => ?_⟩
        · rw [upd_ne (fun z => by rw [z, hD2] at e; cases e)]
          exact k5 x o hx (k4 x o hx e)
        · have ne : ∀ a o, H5 a = some (.tup o) → a ≠ D2 := fun a o q z => by
            subst z; rw [e5] at q; cases q
          rcases List.mem_append.mp hr with z | z
          · obtain ⟨a', b', c', hp', _⟩ := d4
            have q := k5 r.1 _ (fun z' => by have := hrs r z; rw [z', hp'] at this; cases this) (hrs r z)
            rw [upd_ne (ne _ _ q)]; exact q
          · rw [List.mem_singleton.mp z]
            rw [upd_ne (ne u _ eu)]; exact eu
        · rcases List.mem_append.mp hr with z | z
          · exact dr r z
          · rw [List.mem_singleton.mp z]; exact hl
      · rintro H4 ⟨k4, d4, rs, e4, hrs, el, dr⟩
        refine ⟨D2, _, rfl, SqL.of e4, fun l nl => ?_⟩
        have kk := (k3.trans k4).trans (keep_new (o := HO.tup (rs.map fun r => V.ref r.1)) nl)
        have dd := dice_upd (o := HO.tup (rs.map fun r => V.ref r.1)) d4 (dice_ne d4 nl)
        refine k l rs _ kk dd (keep_free (k3.trans k4) d4 nl) upd_same (fun r hr => ?_) (fun r hr => by rw [el]; exact dr r hr) (by omega)
        exact same_new nl _ _ (hrs r hr)
end
end Rd

/-! A reader that is not made: InvalidReader -/
namespace Rd
open PySem PySem.Spec PyProof.Rows L2 Tq Dn Dc Ox
abbrev bVe : List Value := [.type "ValueError", .type "Exception", .type "BaseException", .type "object"]
theorem upN {P : Program} {w : World} : StX.CXUp (L2N.CX P w) := fun outer s H s2 H2 E e s' un kp ho c => by
  obtain ⟨a, B, H', cls, d, ea, fl, hok, ub, na, os, ag, he⟩ := c
  refine ⟨a, B, H', cls, d, ea, fl, hok, ?_, na, os.trans ho, ag, he⟩
  exact { keep := fun b o q n hb => ub.keep b o (kp b o q) (un.free b o q n (by simp)) hb
          slot := fun b o q hb => ub.slot b o (kp b o q) hb
          free := fun b o q n => ub.free b o (kp b o q) (un.free b o q n (by simp))
          there := fun b o q hb => ub.there b o (kp b o q) hb
          tups := fun b xs q => ub.tups b xs (un.tups b xs q)
          frzs := fun b o xs q => ub.frzs b o xs (un.frzs b o xs q)
          tbls := fun b ps q => by
            obtain ⟨m1, e1⟩ := un.tbls b ps q
            obtain ⟨m2, e2⟩ := ub.tbls b _ e1
            exact ⟨m1 ++ m2, e2.trans (by rw [Array.append_assoc])⟩ }
section
variable {P : Program} {w : World} {K : PySem.W.Frag} {mg : Str → Option Value} {base : Heap}
theorem okStarN {x qual : Str} {st : Stmt} {f : Addr} {fd : FuncData} {N ps : List Str} {pv : Str} {k : Nat} {sp : Sp} (F : Fun K x qual st f fd) (S : FnScope N (ps ++ [pv]) (defScope st))
    (hb : ∀ (kV doc pm : Value) (an : Option Addr) (cdv ct : Value) (us rest : List Value), us.length = ps.length → bindArgs (PySem.W.fnOf x qual (defArgs st) (defBody st) (defScope st) .none kV doc pm an cdv ct) ⟨us ++ rest, []⟩ = (newTuple rest >>= fun t => pure (ps.zip us ++ [(pv, t)])))
    (hbody : ∀ (cdv : Value) (A : Around) (outer : List Env) (s : Shared) (H : Hp) (vs : List V) (Q : VK) (E : XK), Room k (A.deeper (envOfC qual (defScope st) s.heap.objs.size f cdv)) → sp vs H Q E →
      ∃ t, PSs (cxOf (L2N.CX P w) P w K mg base N qual (defScope st) f cdv A outer s H E) (defBody st) t ∧ t { nx := fun _ H' => Q .non H', rt := Q } (start N vs) H) : FnR P w K mg base (L2N.CX P w) (k + 1) f (spStar ps.length sp) := by
  obtain ⟨oc, od, kV, doc, pm, an, cdv, ct, osl, rfl, lk, hcd⟩ := F.ex
  exact StX.fn_star lk hcd S upN (hb kV doc pm an cdv ct) fun A outer s H vs Q E hr hsp => hbody cdv A outer s H vs Q E hr hsp
/-- the error of readers, and what raising it asks -/
structure TxX (K : PySem.W.Frag) (mg : Str → Option Value) (P : Program) (w : World) (base : Heap) (C CR : Addr) : Prop extends TxR0 K mg P w base C where
  gR : mg "InvalidReader" = some (.ref CR)
  xR : PySem.W.excIn K CR bVe "ValueError.__new__" = true
  kR : PySem.W.keepIn K (.ref CR) = true
  bR : PySem.W.subIn K (.ref CR) (.type "BaseException") = some true
  tR : PySem.W.typeIn K (.ref CR) = some (.type "type")
/-- is_line of v, in so many lines, is b -/
def Ans (K : PySem.W.Frag) (H : Hp) (n : Nat) (v : V) (b : Bool) : Prop :=
  (∃ d, Dp K H v d ∧ SeqAt.shaped d = true ∧ Mod_ d ∧ b = lineD d n) ∨ (b = false ∧ ∃ c kvs, v = .ref c ∧ H c = some (.dK kvs)) ∨
  (b = false ∧ ∃ (a c : Addr) (u : V) (d : PyData) (kvs : List (Key × V)), v = .ref a ∧ SqT K H a [.str "read", u, .ref c] ∧ Dp K H u d ∧ nameD d = false ∧ (∀ s, d = .str s → s.cps.size < sizeLine) ∧ H c = some (.dK kvs))
theorem Ans.up {K : PySem.W.Frag} {H H' : Hp} {n : Nat} {v : V} {b : Bool} (h : Ans K H n v b) (s : Same H H') : Ans K H' n v b := by
  rcases h with ⟨d, a, r⟩ | ⟨e, c, kvs, a, h⟩ | ⟨e, a, c, u, d, kvs, a1, a2, a3, a4, a5, a6⟩
  · exact .inl ⟨d, dp_up s a, r⟩
  · exact .inr (.inl ⟨e, c, kvs, a, s _ _ h⟩)
  · exact .inr (.inr ⟨e, a, c, u, d, kvs, a1, sqT_up a2 s, dp_up s a3, a4, a5, s _ _ a6⟩)
theorem Ans.ln {K : PySem.W.Frag} {H : Hp} {n : Nat} {r : Addr × Ln} {m : Nat} (h : SqT K H r.1 r.2.vs) (f : r.2.fine m = true) : Ans K H n (.ref r.1) (lineD r.2.d n) := .inl ⟨r.2.d, ln_dp h, fine_shaped f, fine_mod f, rfl⟩
theorem paired_get {α β : Type} {F : α → β → Prop} : ∀ {xs : List α} {ys : List β} {i : Nat} {x : α}, Paired F xs ys → xs[i]? = some x → ∃ y, ys[i]? = some y ∧ F x y
  | _, _, 0, x, .cons (a := a) (b := b) h t, e => ⟨b, rfl, by cases e; exact h⟩
  | _, _, i + 1, x, .cons h t, e => paired_get (i := i) t e
theorem paired_app {α β : Type} {F : α → β → Prop} : ∀ {xs : List α} {ys : List β} {xs' : List α} {ys' : List β}, Paired F xs ys → Paired F xs' ys' → Paired F (xs ++ xs') (ys ++ ys')
  | _, _, _, _, .nil, h => h
  | _, _, _, _, .cons h t, h' => .cons h (paired_app t h')
theorem paired_map {α β γ : Type} {F : α → β → Prop} {f : γ → α} {g : γ → β} : ∀ {zs : List γ}, (∀ z ∈ zs, F (f z) (g z)) → Paired F (zs.map f) (zs.map g)
  | [], _ => .nil
  | z :: zs, h => .cons (h z List.mem_cons_self) (paired_map fun y hy => h y (.tail _ hy))
/-- values of which one is no line of so many -/
def Spoilt (K : PySem.W.Frag) (H : Hp) (xs : List V) : Prop := xs.length ≤ 16 ∧ ∃ bs : List Bool, Paired (Ans K H xs.length) xs bs ∧ false ∈ bs
theorem Spoilt.up {K : PySem.W.Frag} {H H' : Hp} {xs : List V} (h : Spoilt K H xs) (s : Same H H') : Spoilt K H' xs := let ⟨few, bs, a, b⟩ := h; ⟨few, bs, L2.Paired.mapP a fun _ _ z => z.up s, b⟩
theorem sqT_ty {K : PySem.W.Frag} {H : Hp} {a : Addr} {xs : List V} (h : SqT K H a xs) : TyX K H (.ref a) (.type "tuple") := by
  rcases h with (h | ⟨o, h⟩) | ⟨o, its, n, h1, h2, _⟩
  · exact .base (.tup h)
  · exact .fTuple h
  · exact .kTuple h1 h2
def spInitX (K : PySem.W.Frag) (C CR : Addr) : Sp := fun vs H Q E => ∃ (x dx L : Addr) (xs : List V), vs = [.ref x, .ref L] ∧ H x = some (.ins C dx []) ∧ SqT K H L xs ∧ Spoilt K H xs ∧ ∀ H', Same H H' → E (.ref CR) none H'
def spOfX (K : PySem.W.Frag) (C CR : Addr) : Sp := fun vs H Q E => ∃ (L : Addr) (xs : List V), vs = [.ref C, .ref L] ∧ SqT K H L xs ∧ Spoilt K H xs ∧ ∀ H', Same H H' → E (.ref CR) none H'
theorem ok_initX {C CR f : Addr} {fd : FuncData} (F : Fun K "__init__" "Reader.__init__" sInit f fd) (T : TxX K mg P w base C CR) : FnR P w K mg base (L2N.CX P w) 5 f (spStar 1 (spInitX K C CR)) := by
  obtain ⟨g, gd, mG, kG, bG, GG⟩ := T.line
  obtain ⟨q, qd, mQ, kQ, bQ, GQ⟩ := T.pairs
  obtain ⟨tl, mL⟩ := T.mxL
  obtain ⟨tt, mT⟩ := T.mxT
  refine okStarN (ps := ["self"]) (pv := "lines") F scIn (fun kV doc pm an cdv ct => StX.bind_star1 (B := fun us => bindArgs _ ⟨us, []⟩) (p1 := "self") (pv := "lines") (fun a => rfl) (fun a r rs => rfl)) (fun cdv A outer s H vs Q E hr h => ?_)
  obtain ⟨x, dx, L, xs, rfl, hx, hL, ⟨few, bs, hbs, hbad⟩, k⟩ := h
  have hr2 := hr.mono (show 2 ≤ 4 by decide)
  have len := hbs.length
  refine ⟨_, pss_cons (ps_if (pt_cmpR op_gt (pe_callB call_lenT (by rfl) T.len PySem.boot_len (pa_cons (pv 1) pa_nil)) (pe_glob (v := .int 16) (by rfl) mL ⟨_, rfl⟩) (nomark _)) (pss_one (L2N.ps_raise rfl (L2N.takes_of rfl rfl rfl rfl) (L2N.pmk_own PySem.F.excBase_ValueError T.xR T.gR T.kR (raises_own T.bR T.tR) (by rfl)))) pss_nil)
    (pss_cons (ps_if (pt_not (pt_val (pe_callB (cr_all rfl) (by rfl) T.all PyProof.Rows.boot_all (pa_cons (pe_lc (own := [("line", 2)]) (g := gName 2) (tt := tYes) (te := tCall (spLine K) [] E0 (tCons (tVar 2) (tCons (tCB (rLenT K) (tCons (tVar 1) tNil)) tNil))) rfl scIn.nd (pi_tup (pv 1))
        (blkOk_by (N := ["self", "lines", "line"]) (sc := defScope sInit) (by decide +kernel)) (fun _ _ _ _ _ => pg_name (i := 2) scIn.nd rfl (Or.inl rfl)) (fun _ _ _ _ _ => pts_nil)
        (fun _ _ _ _ _ => pe_call GG hr (by rfl) mG kG bG .nil pass0 (pa_cons (pv 2) (pa_cons (pe_callB call_lenT (by rfl) T.len PySem.boot_len (pa_cons (pv 1) pa_nil)) pa_nil)))) pa_nil)))) (pss_one (L2N.ps_raise rfl (L2N.takes_of rfl rfl rfl rfl) (L2N.pmk_own PySem.F.excBase_ValueError T.xR T.gR T.kR (raises_own T.bR T.tR) (by rfl)))) pss_nil)
    (pss_cons (ps_fld (pv 0) (pv 1) rfl)
    (pss_cons (ps_fld (pv 0) (pe_call GQ hr2 (by rfl) mQ kQ bQ .nil pass0 (pa_cons (pv 1) (pa_cons (pe_tup (pa_cons pe_str pa_nil)) pa_nil))) rfl)
    (pss_one (ps_if (pt_cmpR op_gt (pe_callB call_lenT (by rfl) T.len PySem.boot_len (pa_cons (pe_fld (pv 0) rfl) pa_nil)) (pe_glob (v := .int 6) (by rfl) mT ⟨_, rfl⟩) (nomark _)) (pss_one (L2N.ps_raise rfl (L2N.takes_of rfl rfl rfl rfl) (L2N.pmk_own PySem.F.excBase_ValueError T.xR T.gR T.kR (raises_own T.bR T.tR) (by rfl)))) pss_nil))))), ?_⟩
  refine ⟨_, rfl, L, _, rfl, hL, _, _, rfl, rfl, _, rfl, ?_⟩
  refine ite2 (fun z => absurd (of_decide_eq_true z) (by omega)) (fun _ => ?_)
  refine ⟨_, rfl, L, rfl, ⟨_, hL⟩, fun D hD => ?_⟩
  have off : Off D (fun i acc (_ : Hp) => acc = (bs.take i).map V.bl) := fun _ _ _ _ _ _ _ z => z
  refine lc_fil walk_tup hD (fun i acc _ => acc = (bs.take i).map V.bl) (by simp) (fun H' s' => sqT_up hL s') ?_ ?_
  · rintro i v acc H2 H3 hi s2 e2 rfl ⟨rfl, hv⟩
    obtain ⟨b, hb, hans⟩ := paired_get hbs hv
    refine ⟨rfl, tt_yes ?_⟩
    have fin : ∀ H4, Same H3 H4 → Put H D (fun i acc (_ : Hp) => acc = (bs.take i).map V.bl) (i + 1) (.bl b) H4 := fun H4 s4 => put_of hD off s2 e2 s4 (by rw [List.length_map, List.length_take, sizeLine_eq]; omega) (by rw [List.take_add_one, hb, List.map_append]; rfl)
    refine ⟨_, rfl, _, rfl, L, _, rfl, sqT_up hL s2, _, _, rfl, ?_⟩
    rcases hans.up s2 with ⟨d, hd, sh, md, e⟩ | ⟨e, c, kvs, e1, hc⟩ | ⟨e, a, c, u, d, kvs, e1, a2, a3, a4, a5, a6⟩
    · refine .inl ⟨d, hd, sh, md, fun H4 s4 => ?_⟩
      rw [← e]; exact fin H4 s4
    · refine .inr (.inl ⟨by rw [e1]; exact .base (.dK hc), ?_⟩)
      rw [← e]; exact fin H3 (Same.refl _)
    · refine .inr (.inr ⟨a, c, u, d, kvs, e1, a2, a3, a4, a5, a6, fun H4 s4 => ?_⟩)
      rw [← e]; exact fin H4 s4
  · rintro acc H2 s2 e2 rfl
    refine ⟨D, bs, rfl, SqL.of (by rw [e2, len, List.take_length]), ?_⟩
    refine ⟨_, rfl, ?_⟩
    show (if (!(bs.all id)) = true then _ else _)
    rw [show (bs.all id) = false by
      rw [List.all_eq_false]
      exact ⟨_, hbad, by decide⟩]
    exact iteT (k H2 s2)
structure TxX1 (K : PySem.W.Frag) (mg : Str → Option Value) (P : Program) (w : World) (base : Heap) (C CR : Addr) : Prop extends TxX K mg P w base C CR where
  madeX : ∃ f, Mk K C f ∧ FnR P w K mg base (L2N.CX P w) 5 f (spStar 1 (spInitX K C CR))
theorem ok_ofX {C CR f : Addr} {fd : FuncData} (F : Fun K "of" "Reader.of" sOf f fd) (T : TxX1 K mg P w base C CR) : FnOk P w K mg base (L2N.CX P w) 7 f fd ["cls", "lines"] (spOfX K C CR) := by
  obtain ⟨g, M, G⟩ := T.madeX
  refine okN F scOf (fun vs H Q E h => ?_) (fun cdv A outer s H vs Q E hr h => ?_)
  · obtain ⟨L, xs, rfl, _⟩ := h; rfl
  · obtain ⟨L, xs, rfl, hL, hb, k⟩ := h
    refine ⟨_, pss_cons (ps_if (pt_not (pt_val (pe_callB call_isi (by rfl) T.isi PyProof.Rows.boot_isinstance (pa_cons (pv 1) (pa_cons (pe_bltn (v := .ty "tuple") (by rfl) T.tuple PyProof.Rows.boot_tuple rfl) pa_nil))))) (pss_one (L2N.ps_raise rfl (L2N.takes_of rfl rfl rfl rfl) (L2N.pmk_own PySem.F.excBase_ValueError T.xR T.gR T.kR (raises_own T.bR T.tR) (by rfl)))) pss_nil)
      (pss_one (ps_ret (pe_makeS (i := 0) (E := E) M G hr (L2N.passes_call (L2N.takes_of rfl rfl rfl rfl) (fun _ _ _ _ h => h)) rfl (Or.inl rfl) (pv 1)))), ?_⟩
    refine ⟨_, rfl, .ref L, .ty "tuple", .type "tuple", .type "tuple", true, rfl, .ty _, sqT_ty hL, kit_ty (by decide +kernel), _, rfl, iteF ?_⟩
    refine ⟨rfl, _, rfl, L, _, rfl, .inl hL, fun x dx nx nd ne => ?_⟩
    have s1 : Same H (upd (upd H dx (.own x)) x (.ins C dx [])) := same_to nx (same_new nd)
    refine ⟨[.ref x], xs, rfl, rfl, by have := hb.1; rw [sizeLine_eq]; omega, fun p np => ?_⟩
    have s2 := same_new (o := HO.tup xs) np
    exact ⟨x, dx, p, xs, rfl, s2 _ _ upd_same, SqT.of upd_same, hb.up (s1.trans s2), fun H' s' => k H' ((s1.trans s2).trans s')⟩
end
end Rd

/-! A lambda whose body may raise an error with fields, handed to a def -/
namespace Rl
open PySem PySem.Spec PyProof.Rows L2 LamX
/-- the context of the lambda's body -/
def bodyCx (X : Cx) (A : Around) (outer : List Env) (s : Shared) (H : Hp) (E : XK) (scope : Scope) (f c : Addr) : Cx := (lamCx X A outer s H E scope f c).wish fun e s' =>
  wpAny (model X.prog X.w) (A.deeper (lamEnv X scope s.heap.objs.size f c)) (leaving (lamEnv X scope s.heap.objs.size f c) e) (fun _ t => L2N.CX X.prog X.w outer H s E e t) (fun e' t => L2N.CX X.prog X.w outer H s E e' t) s'
abbrev inX (X : Cx) (Ng : List Str) (x : Str) (sg : Scope) (g : Addr) (cdg : Value) (s : Shared) (H : Hp) : Cx := cxOf CX0 X.prog X.w X.K X.mg X.base Ng x sg g cdg X.A X.stack s H E0
section
variable {X : Cx} {pins : List (Addr × Obj)} {σ : L2.St} {H : Hp} {s : Shared}
theorem act {Ng : List Str} {x a : Str} {sg scope : Scope} {g f c : Addr} {cdg pm ctv : Value} {params : Arguments} {body : Expr} {k i : Nat} {pn : List (Addr × Obj)} {xe : Value → Shared → Prop} {W : WX} {E : XK} {tb : TE} {p1 p2 : Pos} {σ0 : L2.St} (h0 : σ0[i]? = some (some (.ref f)))
    (I : Inv X pins σ H s) (L : LamS X.env.scope scope) (hf : s.heap.get? f = some (PySem.W.kla_obj "<lambda>" (X.env.qual ++ "<lambda>") params body scope (cloFrom X.env.cells scope.names []) pm c ctv)) (hfn : H f = none) (hfr : f ∉ frs X.stack)
    (hbind : bindArgs (PySem.W.kla_fn "<lambda>" (X.env.qual ++ "<lambda>") params body scope (cloFrom X.env.cells scope.names []) pm (.ref c) ctv) ⟨[], []⟩ = pure [])
    (tk : L2N.Takes ((inX X Ng x sg g cdg s H).tr pn xe) W) (hW : ∀ cls d H', E cls d H' → W cls d σ0 H') (hr : Room (k + 1) (X.A.deeper (envOfC x sg s.heap.objs.size g cdg)))
    (hbody : ∀ (A : Around) (outer : List Env) (s : Shared) (H : Hp), Room k (A.deeper (lamEnv X scope s.heap.objs.size f c)) → PE (bodyCx X A outer s H E scope f c) body tb) (hN : Ng[i]? = some a) (hv : Vis sg a)
    (hd : (a == ("__debug__" : Str)) = false := by decide) (hcd : (a == ("__classdict__" : Str)) = false := by decide) :
    PE ((inX X Ng x sg g cdg s H).tr pn xe) (.Call (.Name a p1) [] [] p2) (fun σZ HZ Q => σZ = σ0 ∧ HZ c = some (CodeO c (X.env.qual ++ "<lambda>")) ∧ tb σ HZ Q) := by
  refine ⟨fun pz z σz Hz Q Iz ⟨w1, w2, w3⟩ => ?_⟩
  subst w1
  refine wpAny_Call_Name_kw (thn ((pe_var (pos := p1) (i := i) hN hv hd hcd).run pz z σz Hz (fun v J => v = .ref f ∧ J = Hz) Iz ⟨.ref f, h0, rfl, rfl⟩) fun u y hu => ?_)
  obtain ⟨v, J, Iy, rv, rfl, rfl⟩ := hu
  obtain rfl : u = Value.ref f := rv
  have of := Iy.base.keep f _ hf hfn hfr (fun q => nomatch (show f ∈ ([] : List Addr) from q))
  refine PySem.W.callWith_F0 ⟨_, _, _, _, of⟩ ?_
  obtain ⟨⟨oc, vs, t, hoc, hdc, hvc⟩, _, _⟩ := Iy.hok c _ w2
  have run : codeAny (model X.prog X.w) (X.A.deeper (envOfC x sg s.heap.objs.size g cdg)) (.call (.ref f) ⟨[], []⟩) (CR (L2N.CX X.prog X.w) (envOfC x sg s.heap.objs.size g cdg :: X.stack) X.prog X.w J y Q E) y := by
    refine PySem.W.kla_callFunE hr.depth of rfl L.co L.gen rfl ⟨c, oc, vs, t, rfl, hoc, hdc, hvc⟩ ?_
    rw [hbind]
    refine wpAny_pure (wpAny_newFunctionEnv (fun b hb => (L.own b hb).2) (fun b hb => absurd hb (by simp)) (fun h₁ hns hsb => ⟨Iy.nolimit.fresh _ hsb, ?_⟩) L.kind)
    show codeAny _ _ (.expr body (lamEnv X scope y.heap.objs.size f c)) _ _
    have I0 : Inv (lamCx X (X.A.deeper (envOfC x sg s.heap.objs.size g cdg)) (envOfC x sg s.heap.objs.size g cdg :: X.stack) y J E scope f c) [] σ J { y with heap := h₁, toks := y.toks + ([] : List (Str × Value)).length } :=
      lam_start2 I L Iy.env0 hr.hd Iy.base hns fun b o e => hsb.extBut b o (Nat.ne_of_lt (Heap.lt_size e)) (Heap.get?_push_of_some _ e)
    refine PySem.W.kla_codeExpr (wpAny_mono ((hbody _ _ y J (hr.deeper _)).run [] _ _ J Q (I0.wish _) w3) (fun v s' hq => ?_) fun e s' hq => hq)
    obtain ⟨w', H', J', r', q⟩ := hq
    exact ⟨w', H', J'.os, J'.bare, J'.base, J'.hok, r', q⟩
  refine wpAny_call (codeAny_mono run fun r s' hq => ?_)
  cases r with
  | error e => exact tk e s' (L2N.XE.of_call Iy (fun cls d H' h => hW cls d H' h) hq)
  | ok fl =>
    cases fl with
    | ret u => exact Iy.after hq
    | next => exact False.elim hq
    | brk => exact False.elim hq
    | cont => exact False.elim hq
/-- what the def that got the lambda makes of it -/
def GivesN (X : Cx) (k : Nat) (Ng : List Str) (x : Str) (sg : Scope) (g : Addr) (cdg : Value) (bg : List Stmt) (a q : Str) (TT : (XK → Hp → VK → Prop) → Hp → VK → Prop) : Prop :=
  ∀ (f c : Addr) (s : Shared) (H : Hp) (Q : VK) (tl : XK → Hp → VK → Prop), Room k (X.A.deeper (envOfC x sg s.heap.objs.size g cdg)) →
    (∀ (W : WX) (pn : List (Addr × Obj)) (xe : Value → Shared → Prop) (E : XK) (p1 p2 : Pos), L2N.Takes ((inX X Ng x sg g cdg s H).tr pn xe) W → (∀ cls d H', E cls d H' → W cls d (L2.start Ng [.ref f]) H') →
      PE ((inX X Ng x sg g cdg s H).tr pn xe) (.Call (.Name a p1) [] [] p2) (fun σZ HZ Q => σZ = L2.start Ng [.ref f] ∧ HZ c = some (CodeO c q) ∧ tl E HZ Q)) →
    H c = some (CodeO c q) → TT tl H Q → ∃ t, PSs (inX X Ng x sg g cdg s H).nox bg t ∧ t { nx := fun _ H' => Q .non H', rt := Q } (L2.start Ng [.ref f]) H
theorem pe_lamN {T : List (Addr × Str)} {TT : (XK → Hp → VK → Prop) → Hp → VK → Prop} {x a : Str} {g c P : Addr} {k : Nat} {pg : Arguments} {bg : List Stmt} {sg scope : Scope} {dV kV doc pm cdv ct oc : Value} {an od : Option Addr} {osl : Array (Option Value)} {Ng : List Str}
    {params : Arguments} {body : Expr} {t : XK → TE} {p lpos pos : Pos} (hg : Gl X x) (hm : X.mg x = some (.ref g)) (hk : PySem.W.keepIn X.K (.ref g) = true)
    (lk : X.K.lookup g = some ⟨oc, od, .func (PySem.W.fnOf x x pg bg sg dV kV doc pm an cdv ct), osl⟩) (hcg : PySem.W.codeIn X.K cdv x = true) (hb : L2.Binds X.K (PySem.W.fnOf x x pg bg sg dV kV doc pm an cdv ct) [a] []) (Sg : FnScope Ng [a] sg) (hNg : Ng[0]? = some a) (h0 : ∀ f : Addr, (L2.start Ng [V.ref f])[0]? = some (some (V.ref f))) (hva : Vis sg a)
    (hG : GivesN X (k + 1) Ng x sg g cdv bg a (X.env.qual ++ "<lambda>") TT) (TB : TabB X.base X.mg c P) (hcode : X.env.code = .ref c) (hmT : (P, X.env.qual ++ "<lambda>") ∈ T) (hu : ∀ p ∈ T, p.1 = P → p.2 = X.env.qual ++ "<lambda>") (hr : Room (k + 2) X.A) (L : LamS X.env.scope scope)
    (hdef : defaultsOf params X.env = ([], [])) (hbind : ∀ (q : Str) (cl : List (Str × Addr)) (pm cv ctv : Value), bindArgs (PySem.W.kla_fn "<lambda>" q params body scope cl pm cv ctv) ⟨[], []⟩ = pure [])
    (hbody : ∀ (A : Around) (outer : List Env) (s : Shared) (H : Hp) (E : XK) (f c' : Addr), Room k (A.deeper (lamEnv X scope s.heap.objs.size f c')) → PE (bodyCx X A outer s H E scope f c') body (t E))
    (hdb : (x == ("__debug__" : Str)) = false := by decide) (hd : (a == ("__debug__" : Str)) = false := by decide) (hcd : (a == ("__classdict__" : Str)) = false := by decide) :
    PE X (.Call (.Name x p) [.Lambda params body scope lpos] [] pos) (tLam T TT t) := by
  refine ⟨fun pz z σz Hz Q Iz ⟨hT, h⟩ => ?_⟩
  refine wpAny_Call_Name_kw (ld_glob Iz hg hm (PySem.W.callWith_K (h₀ := X.base) Iz.ok.mod.kin hk ?_ (by rfl) (by rfl)) hdb)
  show wpAny _ _ (spliced ((false, eval (.Lambda params body scope lpos) X.env) :: backTo pos (starEach [] X.env))) _ _ z
  refine Calls.spliced_cons (lam_make2 Iz TB hcode hmT hu hT hdef (L.has Iz.ok) fun f c' pm' ctv H1 y I1 eN T1 hf hfn hfr hco => Calls.spliced_nil ⟨I1.kIn, ?_⟩)
  have run : codeAny (model X.prog X.w) X.A (.call (.ref g) ⟨[.ref f], []⟩) (CR CX0 X.stack X.prog X.w H1 y Q E0) y := by
    refine run_ofS (N := Ng) (ps := [a]) (us := [.ref f]) (vs := [.ref f]) lk hcg Sg hr I1.env0 (hb y [.ref f] I1.kIn rfl) (.cons rfl .nil) rfl fun hr' => ?_
    obtain ⟨t', ht', hq'⟩ := hG f c' y H1 Q (fun E H' Q' => t E σz H' Q') hr' (fun W pn xe E p1 p2 tk hW => act (i := 0) (h0 f) I1 L hf hfn hfr (hbind _ _ _ _ _) tk hW hr' (fun A outer s H hr2 => hbody A outer s H E f c' hr2) hNg hva hd hcd) hco (h H1 eN T1)
    exact ⟨t', ht'.nox, hq'⟩
  refine wpAny_call (codeAny_mono run fun r y2 hq => ?_)
  cases r with
  | error e => exact (show False from hq).elim
  | ok fl =>
    cases fl with
    | ret u => exact I1.after hq
    | next => exact False.elim hq
    | brk => exact False.elim hq
    | cont => exact False.elim hq
end
end Rl

/-! Too many lines, or too many tested pairs: InvalidReader -/
namespace Rd
open PySem PySem.Spec PyProof.Rows L2 Tq Dn Dc Ox
/-- too many lines, or lines of which too many pairs are tested -/
def TooMany (K : PySem.W.Frag) (H : Hp) (xs : List V) : Prop := 16 < xs.length ∨ ∃ rs : RowsL, xs = rs.map (fun r => V.ref r.1) ∧ (∀ r ∈ rs, SqT K H r.1 r.2.vs) ∧ rs.length ≤ 16 ∧ (∀ r ∈ rs, r.2.fine rs.length = true) ∧ ∀ ps, Asc (keysOf ["if"] (rs.map Prod.snd)) ps → 6 < ps.length
theorem TooMany.up {K : PySem.W.Frag} {H H' : Hp} {xs : List V} (h : TooMany K H xs) (s : Same H H') : TooMany K H' xs :=
  h.imp id fun ⟨rs, a, b, c⟩ => ⟨rs, a, fun r hr => sqT_up (b r hr) s, c⟩
def spInitY (K : PySem.W.Frag) (C CR : Addr) : Sp := fun vs H Q E => ∃ (x dx L : Addr) (xs : List V), vs = [.ref x, .ref L] ∧ H x = some (.ins C dx []) ∧ SqT K H L xs ∧ TooMany K H xs ∧ ∀ H', Keep x H H' → E (.ref CR) none H'
def spOfY (K : PySem.W.Frag) (C CR : Addr) : Sp := fun vs H Q E => ∃ (L : Addr) (xs : List V), vs = [.ref C, .ref L] ∧ SqT K H L xs ∧ xs.length ≤ 1000 ∧ TooMany K H xs ∧ ∀ H', Same H H' → E (.ref CR) none H'
section
variable {P : Program} {w : World} {K : PySem.W.Frag} {mg : Str → Option Value} {base : Heap}
theorem ok_initY {C CR f : Addr} {fd : FuncData} (F : Fun K "__init__" "Reader.__init__" sInit f fd) (T : TxX K mg P w base C CR) : FnR P w K mg base (L2N.CX P w) 5 f (spStar 1 (spInitY K C CR)) := by
  obtain ⟨g, gd, mG, kG, bG, GG⟩ := T.line
  obtain ⟨q, qd, mQ, kQ, bQ, GQ⟩ := T.pairs
  obtain ⟨tl, mL⟩ := T.mxL
  obtain ⟨tt, mT⟩ := T.mxT
  refine okStarN (ps := ["self"]) (pv := "lines") F scIn (fun kV doc pm an cdv ct => StX.bind_star1 (B := fun us => bindArgs _ ⟨us, []⟩) (p1 := "self") (pv := "lines") (fun a => rfl) (fun a r rs => rfl)) (fun cdv A outer s H vs Q E hr h => ?_)
  obtain ⟨x, dx, L, xs, rfl, hx, hL, hbad, k⟩ := h
  have hr2 := hr.mono (show 2 ≤ 4 by decide)
  refine ⟨_, pss_cons (ps_if (pt_cmpR op_gt (pe_callB call_lenT (by rfl) T.len PySem.boot_len (pa_cons (pv 1) pa_nil)) (pe_glob (v := .int 16) (by rfl) mL ⟨_, rfl⟩) (nomark _)) (pss_one (L2N.ps_raise rfl (L2N.takes_of rfl rfl rfl rfl) (L2N.pmk_own PySem.F.excBase_ValueError T.xR T.gR T.kR (raises_own T.bR T.tR) (by rfl)))) pss_nil)
    (pss_cons (ps_if (pt_not (pt_val (pe_callB (cr_all rfl) (by rfl) T.all PyProof.Rows.boot_all (pa_cons (pe_lc (own := [("line", 2)]) (g := gName 2) (tt := tYes) (te := tCall (spLine K) [] E0 (tCons (tVar 2) (tCons (tCB (rLenT K) (tCons (tVar 1) tNil)) tNil))) rfl scIn.nd (pi_tup (pv 1))
        (blkOk_by (N := ["self", "lines", "line"]) (sc := defScope sInit) (by decide +kernel)) (fun _ _ _ _ _ => pg_name (i := 2) scIn.nd rfl (Or.inl rfl)) (fun _ _ _ _ _ => pts_nil)
        (fun _ _ _ _ _ => pe_call GG hr (by rfl) mG kG bG .nil pass0 (pa_cons (pv 2) (pa_cons (pe_callB call_lenT (by rfl) T.len PySem.boot_len (pa_cons (pv 1) pa_nil)) pa_nil)))) pa_nil)))) (pss_one (L2N.ps_raise rfl (L2N.takes_of rfl rfl rfl rfl) (L2N.pmk_own PySem.F.excBase_ValueError T.xR T.gR T.kR (raises_own T.bR T.tR) (by rfl)))) pss_nil)
    (pss_cons (ps_fld (pv 0) (pv 1) rfl)
    (pss_cons (ps_fld (pv 0) (pe_call GQ hr2 (by rfl) mQ kQ bQ .nil pass0 (pa_cons (pv 1) (pa_cons (pe_tup (pa_cons pe_str pa_nil)) pa_nil))) rfl)
    (pss_one (ps_if (pt_cmpR op_gt (pe_callB call_lenT (by rfl) T.len PySem.boot_len (pa_cons (pe_fld (pv 0) rfl) pa_nil)) (pe_glob (v := .int 6) (by rfl) mT ⟨_, rfl⟩) (nomark _)) (pss_one (L2N.ps_raise rfl (L2N.takes_of rfl rfl rfl rfl) (L2N.pmk_own PySem.F.excBase_ValueError T.xR T.gR T.kR (raises_own T.bR T.tR) (by rfl)))) pss_nil))))), ?_⟩
  refine ⟨_, rfl, L, _, rfl, hL, _, _, rfl, rfl, _, rfl, ?_⟩
  rcases hbad with many | ⟨rs, rfl, hrs, few, fine, six⟩
  · rw [show decide ((xs.length : Int) > 16) = true from decide_eq_true (by omega)]
    exact iteT (k H fun _ _ _ h => h)
  have hL : LinesAt K H L rs := ⟨hL, hrs⟩
  refine ite2 (fun z => absurd (of_decide_eq_true z) (by rw [List.length_map]; omega)) (fun _ => ?_)
  refine ⟨_, rfl, L, rfl, ⟨_, hL.1⟩, fun D hD => ?_⟩
  have off : Off D (fun i acc (_ : Hp) => acc = (rs.take i).map fun _ => V.bl true) := fun _ _ _ _ _ _ _ z => z
  refine lc_fil walk_tup hD (fun i acc _ => acc = (rs.take i).map fun _ => V.bl true) (by simp) (fun H' s' => sqT_up hL.1 s') ?_ ?_
  · rintro i v acc H2 H3 hi s2 e2 rfl ⟨rfl, hv⟩
    rw [List.getElem?_map] at hv
    obtain ⟨r, hri, rfl⟩ := Option.map_eq_some_iff.mp hv
    have hr := sqT_up (hL.2 r (List.mem_of_getElem? hri)) s2
    have fr := fine r (List.mem_of_getElem? hri)
    refine ⟨rfl, tt_yes ?_⟩
    refine ⟨_, rfl, _, rfl, L, _, rfl, sqT_up hL.1 s2, _, _, rfl, .inl ⟨r.2.d, ln_dp hr, fine_shaped fr, fine_mod fr, fun H4 s4 => ?_⟩⟩
    refine put_of hD off s2 e2 s4 ?_ ?_
    · rw [List.length_map, List.length_take, sizeLine_eq]; omega
    · rw [List.length_map, fine_line fr, List.take_add_one, hri, List.map_append]; rfl
  · rintro acc H2 s2 e2 rfl
    refine ⟨D, rs.map fun _ => true, rfl, SqL.of (by rw [e2, List.length_map, List.take_length, List.map_map]; rfl), ?_⟩
    refine ⟨_, rfl, ?_⟩
    show (if (!((rs.map fun _ => true).all id)) = true then _ else _)
    rw [show ((rs.map fun _ => true).all id) = true by rw [List.all_map]; exact List.all_eq_true.mpr fun _ _ => rfl]
    refine iteF ?_
    have hx2 := s2 _ _ hx
    have kx : Keep x H2 (upd H2 x (.ins C dx (putF "_lines" (.ref L) []))) := keep_upd
    refine ⟨_, rfl, _, rfl, x, C, dx, [], rfl, hx2, T.cl, T.nL, (by show 0 < 1000; decide), ?_⟩
    have hL3 := (hL.up s2).off hx2 kx
    refine ⟨_, rfl, (by show 1 ≤ sizeLine; decide), fun t nt => ?_⟩
    have st := same_new (o := HO.tup [V.str "if"]) nt
    refine ⟨L, t, rs, ["if"], rfl, hL3.up st, SqT.of upd_same, (by decide +kernel), by omega, fun H' p ps s' np hA hP => ?_⟩
    have hx4 := s' _ _ (st _ _ (show upd H2 x (.ins C dx (putF "_lines" (.ref L) [])) x = _ from upd_same))
    have k5 : Keep x H' (upd H' x (.ins C dx (putF "_tested" (.ref p) (putF "_lines" (.ref L) [])))) := keep_upd
    refine ⟨_, rfl, x, C, dx, _, rfl, hx4, T.cl, T.nT, (by show 1 < 1000; decide), ?_⟩
    rw [rd_flds] at k5 ⊢
    have hP5 := hP.off hx4 k5
    obtain ⟨prs, ep, hp1, hp2⟩ := id hP5
    refine ⟨_, rfl, x, C, dx, _, _, rfl, upd_same, T.cl, T.nT, rd_tested L p, p, _, rfl, hp1, _, _, rfl, rfl, _, rfl, ?_⟩
    have h6 := six ps hA
    rw [← ep, List.length_map] at h6
    rw [show decide (((prs.map fun r => V.ref r.1).length : Int) > 6) = true from decide_eq_true (by rw [List.length_map]; omega)]
    exact iteT (k _ ((((same_keep s2).trans kx).trans (same_keep (st.trans s'))).trans k5))
structure TxX2 (K : PySem.W.Frag) (mg : Str → Option Value) (P : Program) (w : World) (base : Heap) (C CR : Addr) : Prop extends TxX K mg P w base C CR where
  madeY : ∃ f, Mk K C f ∧ FnR P w K mg base (L2N.CX P w) 5 f (spStar 1 (spInitY K C CR))
theorem ok_ofY {C CR f : Addr} {fd : FuncData} (F : Fun K "of" "Reader.of" sOf f fd) (T : TxX2 K mg P w base C CR) : FnOk P w K mg base (L2N.CX P w) 7 f fd ["cls", "lines"] (spOfY K C CR) := by
  obtain ⟨g, M, G⟩ := T.madeY
  refine okN F scOf (fun vs H Q E h => ?_) (fun cdv A outer s H vs Q E hr h => ?_)
  · obtain ⟨L, xs, rfl, _⟩ := h; rfl
  · obtain ⟨L, xs, rfl, hL, few, hb, k⟩ := h
    refine ⟨_, pss_cons (ps_if (pt_not (pt_val (pe_callB call_isi (by rfl) T.isi PyProof.Rows.boot_isinstance (pa_cons (pv 1) (pa_cons (pe_bltn (v := .ty "tuple") (by rfl) T.tuple PyProof.Rows.boot_tuple rfl) pa_nil))))) (pss_one (L2N.ps_raise rfl (L2N.takes_of rfl rfl rfl rfl) (L2N.pmk_own PySem.F.excBase_ValueError T.xR T.gR T.kR (raises_own T.bR T.tR) (by rfl)))) pss_nil)
      (pss_one (ps_ret (pe_makeS (i := 0) (E := E) M G hr (L2N.passes_call (L2N.takes_of rfl rfl rfl rfl) (fun _ _ _ _ h => h)) rfl (Or.inl rfl) (pv 1)))), ?_⟩
    refine ⟨_, rfl, .ref L, .ty "tuple", .type "tuple", .type "tuple", true, rfl, .ty _, sqT_ty hL, kit_ty (by decide +kernel), _, rfl, iteF ?_⟩
    refine ⟨rfl, _, rfl, L, _, rfl, .inl hL, fun x dx nx nd ne => ?_⟩
    have s1 : Same H (upd (upd H dx (.own x)) x (.ins C dx [])) := same_to nx (same_new nd)
    refine ⟨[.ref x], xs, rfl, rfl, by rw [sizeLine_eq]; omega, fun p np => ?_⟩
    have s2 := same_new (o := HO.tup xs) np
    exact ⟨x, dx, p, xs, rfl, s2 _ _ upd_same, SqT.of upd_same, hb.up (s1.trans s2), fun H' kp => k H' (fun b o hb => kp b o (ne_of_none hb nx) ((s1.trans s2) b o hb))⟩
/-- a value that is no tuple -/
def NoTup (K : PySem.W.Frag) (H : Hp) (v : V) : Prop := ∃ t, TyX K H v t ∧ PySem.W.kitOne K t (.type "tuple") = some false
/-- what no reader is made of -/
def Refused (K : PySem.W.Frag) (H : Hp) (v : V) : Prop := NoTup K H v ∨ ∃ (L : Addr) (xs : List V), v = .ref L ∧ SqT K H L xs ∧ (Spoilt K H xs ∨ (xs.length ≤ 1000 ∧ TooMany K H xs))
def spOfR (K : PySem.W.Frag) (C CR : Addr) : Sp := fun vs H Q E => ∃ v, vs = [.ref C, v] ∧ Refused K H v ∧ ∀ H', Same H H' → E (.ref CR) none H'
structure TxX3 (K : PySem.W.Frag) (mg : Str → Option Value) (P : Program) (w : World) (base : Heap) (C CR : Addr) : Prop extends TxX K mg P w base C CR where
  madeX : ∃ f, Mk K C f ∧ FnR P w K mg base (L2N.CX P w) 5 f (spStar 1 (spInitX K C CR))
  madeY : ∃ f, Mk K C f ∧ FnR P w K mg base (L2N.CX P w) 5 f (spStar 1 (spInitY K C CR))
theorem ok_ofN {C CR f : Addr} {fd : FuncData} (F : Fun K "of" "Reader.of" sOf f fd) (T : TxX1 K mg P w base C CR) : FnOk P w K mg base (L2N.CX P w) 7 f fd ["cls", "lines"] (fun vs H Q E => ∃ v, vs = [.ref C, v] ∧ NoTup K H v ∧ E (.ref CR) none H) := by
  obtain ⟨g, M, G⟩ := T.madeX
  refine okN F scOf (fun vs H Q E h => ?_) (fun cdv A outer s H vs Q E hr h => ?_)
  · obtain ⟨v, rfl, _⟩ := h; rfl
  · obtain ⟨v, rfl, ⟨t, ty, no⟩, k⟩ := h
    refine ⟨_, pss_cons (ps_if (pt_not (pt_val (pe_callB call_isi (by rfl) T.isi PyProof.Rows.boot_isinstance (pa_cons (pv 1) (pa_cons (pe_bltn (v := .ty "tuple") (by rfl) T.tuple PyProof.Rows.boot_tuple rfl) pa_nil))))) (pss_one (L2N.ps_raise rfl (L2N.takes_of rfl rfl rfl rfl) (L2N.pmk_own PySem.F.excBase_ValueError T.xR T.gR T.kR (raises_own T.bR T.tR) (by rfl)))) pss_nil)
      (pss_one (ps_ret (pe_makeS (i := 0) (E := E) M G hr (L2N.passes_call (L2N.takes_of rfl rfl rfl rfl) (fun _ _ _ _ h => h)) rfl (Or.inl rfl) (pv 1)))), ?_⟩
    exact ⟨_, rfl, v, .ty "tuple", t, .type "tuple", false, rfl, .ty _, ty, no, _, rfl, iteT k⟩
theorem fnok_or {CX : CXT} {k : Nat} {f : Addr} {fd : FuncData} {ps : List Str} {sa sb : Sp} (A_ : FnOk P w K mg base CX k f fd ps sa) (B_ : FnOk P w K mg base CX k f fd ps sb) : FnOk P w K mg base CX k f fd ps (fun vs H Q E => sa vs H Q E ∨ sb vs H Q E) :=
  ⟨fun vs H Q E h => h.elim (A_.len _ _ _ _) (B_.len _ _ _ _), fun A outer s H args us vs Q E hr e0 hb r h => h.elim (A_.run A outer s H args us vs Q E hr e0 hb r) (B_.run A outer s H args us vs Q E hr e0 hb r)⟩
theorem fnok_imp {CX : CXT} {k : Nat} {f : Addr} {fd : FuncData} {ps : List Str} {sa sb : Sp} (A_ : FnOk P w K mg base CX k f fd ps sa) (h : ∀ vs H Q E, sb vs H Q E → sa vs H Q E) : FnOk P w K mg base CX k f fd ps sb :=
  ⟨fun vs H Q E q => A_.len _ _ _ _ (h _ _ _ _ q), fun A outer s H args us vs Q E hr e0 hb r q => A_.run A outer s H args us vs Q E hr e0 hb r (h _ _ _ _ q)⟩
theorem ok_ofR {C CR f : Addr} {fd : FuncData} (F : Fun K "of" "Reader.of" sOf f fd) (T : TxX3 K mg P w base C CR) : FnOk P w K mg base (L2N.CX P w) 7 f fd ["cls", "lines"] (spOfR K C CR) := by
  refine fnok_imp (fnok_or (fnok_or (ok_ofN F { T with madeX := T.madeX }) (ok_ofX F { T with madeX := T.madeX })) (ok_ofY F { T with madeY := T.madeY })) fun vs H Q E h => ?_
  obtain ⟨v, rfl, h, k⟩ := h
  rcases h with h | ⟨L, xs, rfl, hL, h | ⟨few, h⟩⟩
  · exact .inl (.inl ⟨v, rfl, h, k H (Same.refl H)⟩)
  · exact .inl (.inr ⟨L, xs, rfl, hL, h, k⟩)
  · exact .inr ⟨L, xs, rfl, hL, few, h, k⟩
end
end Rd

/-! Lists of data and of dicts with data: == and != of equal ones. -/
namespace PySem.SeqAt
open AutoSeq1 (wpAny_loadPart')
open MeetsSeq MeetsSeq2 MeetsSeq3
section
variable {prog : Program} {w : World}
theorem ne_go (l b : Addr) (xs ys : Array Value) (n m : Nat) (da db : Option Addr) (sa sb : Array (Option Value)) (hs : xs.size = ys.size) (k : Nat) :
    ∀ i : Nat, xs.size - i = k → MeetsIn prog w (Builtin.«list.__eq__.loop» ⟨[.ref l, .ref b, rawInt i, rawInt 3], []⟩)
      (fun A R s => s.heap.get? l = some { cls := .type "list", dict := da, data := .seq xs n, slots := sa } ∧ s.heap.get? b = some { cls := .type "list", dict := db, data := .seq ys m, slots := sb } ∧
        (∀ j (h1 : j < xs.size) (h2 : j < ys.size), EqP prog w A.in1 s xs[j] ys[j] true) ∧ R (.ok (.ret (.bool false))) s) := by
  induction k with
  | zero =>
    intro i hk A R s h
    obtain ⟨hp, g, d, tk, os⟩ := s; obtain ⟨hl, hb, he, h⟩ := h
    wp_walk using wpAny_loadPart' hl, wpAny_loadPart' hb
    have z1 : xs[((i : Nat) : Int).toNat]? = none := by simp; omega
    have z2 : ys[((i : Nat) : Int).toNat]? = none := by simp; omega
    rw [z1, z2]
    wp_walk using wpAny_loadPart' hl, wpAny_loadPart' hb
    show R (.ok (.ret (.bool (xs.size != ys.size)))) _
    rw [hs]
    simpa using h
  | succ k ih =>
    intro i hk A R s h
    obtain ⟨hp, g, d, tk, os⟩ := s; obtain ⟨hl, hb, he, h⟩ := h
    wp_walk using wpAny_loadPart' hl, wpAny_loadPart' hb
    have i1 : i < xs.size := by omega
    have i2 : i < ys.size := by omega
    have z1 : xs[((i : Nat) : Int).toNat]? = some xs[i] := by simp [i1]
    have z2 : ys[((i : Nat) : Int).toNat]? = some ys[i] := by simp [i2]
    rw [z1, z2]
    refine wpAny_bind (he i i1 i2 _ _ ?_)
    wp_walk
    rw [show ((i : Int) + 1) = ((i + 1 : Nat) : Int) by push_cast; rfl]
    exact ⟨plainId_quiet plain_eq_loop _, codeAny_builtin entry_eq_loop (by
      rw [Around.under_plainId plain_eq_loop _]
      exact ih (i + 1) (by omega) A R _ ⟨hl, hb, he, h⟩)⟩
theorem ne_lists {A : Around} {s : Shared} {l b : Addr} {xs ys : Array Value} (hl : s.heap.IsList l xs) (hb : s.heap.IsList b ys) (hs : xs.size = ys.size) (hu : A.units < cLine)
    (he : ∀ j (h1 : j < xs.size) (h2 : j < ys.size), EqP prog w A.in1 s xs[j] ys[j] true) (E Q : Value → Shared → Prop) (h : Q (.bool false) s) : wpAny (model prog w) A (richCompare .NotEq (.ref l) (.ref b)) Q E s := by
  obtain ⟨⟨cls, dd, data, sl⟩, ho, hc, n, hd⟩ := id hl
  obtain ⟨⟨cls2, dd2, data2, sl2⟩, ho2, hc2, n2, hd2⟩ := id hb
  simp only at hc hd hc2 hd2
  subst hc hd hc2 hd2
  have ta : s.TypeIs (.ref l) "list" := ⟨_, ho, rfl⟩
  have tb : s.TypeIs (.ref b) "list" := ⟨_, ho2, rfl⟩
  refine wpAny_richCompare_same_room (op := .NotEq) ta tb F.slot_list_ne (call_meetsIn F.slot_list_ne ta F.entry_list_ne (F.args_list_ne_2 _ _) (S := fun A R s => s.heap.get? l = some { cls := .type "list", dict := dd, data := .seq xs n, slots := sl } ∧
    s.heap.get? b = some { cls := .type "list", dict := dd2, data := .seq ys n2, slots := sl2 } ∧ (∀ j (h1 : j < xs.size) (h2 : j < ys.size), EqP prog w A.in1 s xs[j] ys[j] true) ∧ R (.ok (.ret (.bool false))) s) (fun A R s h => ?_)
    ⟨ho, ho2, he, show Value.bool false ≠ Value.notImplemented ∧ Q (.bool false) s from ⟨(fun x => nomatch x), h⟩⟩) hu
  obtain ⟨hp, g, d, tk, os⟩ := s; obtain ⟨hl, hb, he, h⟩ := h
  have f3 := AutoSeq1.sub_list_list
  have hne : ¬ (xs.size != ys.size) = true := by simp [hs]
  wp_walk using wpAny_loadPart' hl, wpAny_loadPart' hb
  exact ⟨plainId_quiet plain_eq_loop _, codeAny_builtin entry_eq_loop (by
    rw [Around.under_plainId plain_eq_loop _]
    exact ne_go l b xs ys n n2 dd dd2 sl sl2 hs _ 0 rfl A R _ ⟨hl, hb, he, h⟩)⟩
end
end PySem.SeqAt
namespace Dn
open PySem PySem.Spec PyProof.Rows L2
def DatEq (K : PySem.W.Frag) (H : Hp) (x y : V) : Prop := ∃ d e, Dp K H x d ∧ Dp K H y e ∧ SeqAt.shaped d = true ∧ SeqAt.shaped e = true ∧ PyData.eqv d e = true
def DicEq (K : PySem.W.Frag) (H : Hp) (x y : V) : Prop := ∃ a b ks ls, x = .ref a ∧ y = .ref b ∧ H a = some (.dK ks) ∧ H b = some (.dK ls) ∧ ks.length = ls.length ∧ ∀ p ∈ ks, ∃ u, valV ls p.1 = some u ∧ DatEq K H p.2 u
def ItEq (K : PySem.W.Frag) (H : Hp) (x y : V) : Prop := DatEq K H x y ∨ DicEq K H x y
section
variable {X : Cx} {pins : List (Addr × Obj)} {σ : L2.St} {H : Hp} {s : Shared} {A : Around}
theorem dat_run (I : Inv X pins σ H s) (hu : A.units + 64 < cLine) {x y : V} {v u : Value} (h : DatEq X.K H x y) (rx : RelV x v) (ry : RelV y u) : SeqAt.EqP X.prog X.w A s v u true := by
  obtain ⟨d, e, hd, he, sd, se, q⟩ := h
  obtain ⟨as, r1⟩ := Dp.reads I d x v hd rx
  obtain ⟨bs, r2⟩ := Dp.reads I e y u he ry
  have z := SeqAt.eqAt_reads d e A s v u as bs r1 r2 (SeqAt.canLay_of_shaped sd) (SeqAt.canLay_of_shaped se) (SeqAt.room_of_shaped sd hu)
  rw [q] at z
  exact z.eqP
theorem dic_rc (I : Inv X pins σ H s) (hu : A.units + 65 < cLine) {x y : V} {v u : Value} (h : DicEq X.K H x y) (rx : RelV x v) (ry : RelV y u) (E Q : Value → Shared → Prop) (q : Q (.bool true) s) : wpAny (model X.prog X.w) A (richCompare .Eq v u) Q E s := by
  obtain ⟨a, b, ks, ls, rfl, rfl, ha, hb, hl, hp⟩ := h
  cases (show v = Value.ref a from rx)
  cases (show u = Value.ref b from ry)
  obtain ⟨_, ya, va, ra, da⟩ := (show ObjOk X.prog X.w H s.heap a (.dK ks) from I.hok a _ ha)
  obtain ⟨_, yb, vb, rb, db⟩ := (show ObjOk X.prog X.w H s.heap b (.dK ls) from I.hok b _ hb)
  refine PySem.W.rcP_dicts (knd := mixKind X.prog X.w) (r := true) ya yb da db (by omega) (fun _ => hits_run (fun x y v u h => dat_run (A := A.in1) I (by show A.units + 1 + 64 < cLine; omega) h) rb ra hp) E Q ?_
  have e : va.length = vb.length := by rw [← ra.length, ← rb.length]; exact hl
  rw [show (va.length == vb.length && true) = true from by rw [e]; simp]
  exact q
theorem it_run (I : Inv X pins σ H s) (hu : A.units + 65 < cLine) {x y : V} {v u : Value} (h : ItEq X.K H x y) (rx : RelV x v) (ry : RelV y u) : SeqAt.EqP X.prog X.w A s v u true := by
  rcases h with h | h
  · exact dat_run I (by omega) h rx ry
  · have step := dic_rc I hu h rx ry
    obtain ⟨a, b, _, _, rfl, rfl, _⟩ := id h
    cases (show v = Value.ref a from rx)
    cases (show u = Value.ref b from ry)
    by_cases e : a = b
    · subst e; exact (SeqAt.EqAt.same _).eqP
    · exact SeqAt.eqP_refs e step
end
section
variable {X : Cx}
/-- two lists of items that are equal -/
def rLists (K : PySem.W.Frag) (b : Bool) : R2 := fun x y H Q => ∃ a c xs ys, x = .ref a ∧ y = .ref c ∧ SqL K H a xs ∧ SqL K H c ys ∧ Paired (ItEq K H) xs ys ∧ Q (.bl b) H
theorem op_eqLists (hu : X.A.units + 66 < cLine) : OpR X (compareOp .Eq) (rLists X.K true) := by
  intro pins s σ H x y v u Q I rx ry h
  obtain ⟨a, c, xs, ys, rfl, rfl, ha, hc, hp, q⟩ := h
  cases (show v = Value.ref a from rx)
  cases (show u = Value.ref c from ry)
  obtain ⟨us, r1, p1, _⟩ := I.list ha
  obtain ⟨ws, r2, p2, _⟩ := I.list hc
  have sz : us.toArray.size = ws.toArray.size := by rw [List.size_toArray, List.size_toArray, ← r1.length, ← r2.length]; exact Paired.length hp
  show wpAny _ _ (richCompare .Eq (.ref a) (.ref c)) _ _ _
  refine SeqAt.rcP_lists (e := fun _ => true) p1.isList p2.isList sz (by omega) (fun j h1 h2 => ?_) _ _ ?_
  · have k := items_run (P := X.prog) (w := X.w) (A := X.A.in1) (fun x y v u h => it_run (A := X.A.in1) I (by show X.A.units + 1 + 65 < cLine; omega) h) hp r1 r2 j (by simpa using h1) (by simpa using h2)
    simpa using k
  · rw [show ((List.range us.toArray.size).all fun _ => true) = true from List.all_eq_true.mpr fun _ _ => rfl]
    exact ⟨.bl true, H, I, rfl, q⟩
theorem op_neLists (hu : X.A.units + 66 < cLine) : OpR X (compareOp .NotEq) (rLists X.K false) := by
  intro pins s σ H x y v u Q I rx ry h
  obtain ⟨a, c, xs, ys, rfl, rfl, ha, hc, hp, q⟩ := h
  cases (show v = Value.ref a from rx)
  cases (show u = Value.ref c from ry)
  obtain ⟨us, r1, p1, _⟩ := I.list ha
  obtain ⟨ws, r2, p2, _⟩ := I.list hc
  have sz : us.toArray.size = ws.toArray.size := by rw [List.size_toArray, List.size_toArray, ← r1.length, ← r2.length]; exact Paired.length hp
  show wpAny _ _ (richCompare .NotEq (.ref a) (.ref c)) _ _ _
  refine SeqAt.ne_lists p1.isList p2.isList sz (by omega) (fun j h1 h2 => ?_) _ _ ⟨.bl false, H, I, rfl, q⟩
  have k := items_run (P := X.prog) (w := X.w) (A := X.A.in1) (fun x y v u h => it_run (A := X.A.in1) I (by show X.A.units + 1 + 65 < cLine; omega) h) hp r1 r2 j (by simpa using h1) (by simpa using h2)
  simpa using k
end
end Dn

namespace Rd
open PySem PySem.Spec PyProof.Rows L2 Tq Dn Dc Ox
/-- what e gives, locked from then on -/
def tFrz (te : TE) : TE := fun σ H Q => te σ H fun v H1 => ∃ d u, v = .ref d ∧ H1 d = some u ∧ Mut (some u) ∧ ∀ od, Q v (upd H1 d (.frz od u))
theorem pe_frz {X : Cx} {e : Expr} {te : TE} (h : PE X e te) : PE X e (tFrz te) := by
  refine ⟨fun pins s σ H Q I hw => ?_⟩
  refine thn (h.run pins s σ H _ I hw) fun v s1 ⟨x, H1, I1, r, d, u, ex, hd, mu, q⟩ => ?_
  obtain ⟨od, I2⟩ := I1.lock hd mu
  exact ⟨x, _, I2, r, q od⟩
/-- a property of the class at C, with its promise -/
abbrev HasP (P : Program) (w : World) (K : PySem.W.Frag) (mg : Str → Option Value) (base : Heap) (C : Addr) (m : Str) (k : Nat) (sp : Sp) : Prop :=
  ∃ p g fd, PropOf K C m p g ∧ Binds K fd ["self"] [] ∧ FnOk P w K mg base CX0 k g fd ["self"] sp
abbrev HasD (P : Program) (w : World) (K : PySem.W.Frag) (mg : Str → Option Value) (base : Heap) (C : Addr) (m : Str) (k : Nat) (sp : Sp) : Prop :=
  ∃ g, Dun K C m g ∧ FnR P w K mg base CX0 k g sp
theorem pass0A {X : Cx} {E : XK} (σ : L2.St) : PassesAt CX0 X σ E := fun _ _ _ _ _ _ h => h.elim
theorem word_ne_go (l : Ln) : (!decide (V.str l.word = V.str "go")) = [("read" : Str), "look", "if"].contains l.word := by
  cases l with
  | go n => show (!decide (V.str "go" = V.str "go")) = [("read" : Str), "look", "if"].contains "go"; simp; decide +kernel
  | ift t p n => show (!decide (V.str "if" = V.str "go")) = [("read" : Str), "look", "if"].contains "if"; rw [decide_eq_false fun e => ne1 (V.str.inj e)]; decide +kernel
  | look t p => show (!decide (V.str "look" = V.str "go")) = [("read" : Str), "look", "if"].contains "look"; rw [decide_eq_false fun e => ne2 (V.str.inj e)]; decide +kernel
  | read t p => show (!decide (V.str "read" = V.str "go")) = [("read" : Str), "look", "if"].contains "read"; rw [decide_eq_false fun e => ne3 (V.str.inj e)]; decide +kernel
theorem keys_safe {ws : List Str} {ls : List Ln} {ps : List (List Str)} (h : Asc (keysOf ws ls) ps) (z : ∀ l ∈ ls, l.safe) : ∀ p ∈ ps, ∀ x ∈ p, PyData.strOk x = true := fun p hp x hx => by
  obtain ⟨l, hl, rfl⟩ := List.mem_map.mp ((h.mem p).mp hp)
  exact z l (List.mem_filter.mp hl).1 x hx
theorem pDs_shaped {ps : List (List Str)} (h : ∀ p ∈ ps, ∀ x ∈ p, PyData.strOk x = true) : SeqAt.shaped (pDs ps) = true := by
  have h2 := pDs_depth ps
  show (PyData.canLay0 (pDs ps) && decide (PyData.depth (pDs ps) ≤ 64)) = true
  rw [Bool.and_eq_true]
  exact ⟨by simp only [PyData.canLay0]; exact pDs_lay ps h, decide_eq_true (by simp only [PyData.depth]; omega)⟩
theorem dat_same {K : PySem.W.Frag} {H : Hp} {x y : V} {d : PyData} (h1 : Dp K H x d) (h2 : Dp K H y d) (s : SeqAt.shaped d = true) : DatEq K H x y := ⟨d, d, h1, h2, s, s, SeqAt.eqv_refl d (SeqAt.canLay_of_shaped s)⟩
theorem pD_shaped {k : List Str} (h : ∀ x ∈ k, PyData.strOk x = true) : SeqAt.shaped (pD k) = true := by
  show (PyData.canLay0 (pD k) && decide (PyData.depth (pD k) ≤ 64)) = true
  rw [Bool.and_eq_true]
  exact ⟨pD_lay h, decide_eq_true (by rw [pD_depth]; decide)⟩
theorem list_shaped {ls : List Ln} (z : ∀ l ∈ ls, l.safe) : SeqAt.shaped (.list (ls.map Ln.d)) = true := by
  have h1 := lns_depth ls
  show (PyData.canLay0 (.list (ls.map Ln.d)) && decide (PyData.depth (.list (ls.map Ln.d)) ≤ 64)) = true
  rw [Bool.and_eq_true]
  exact ⟨by simp only [PyData.canLay0]; exact lns_lay ls z, decide_eq_true (by simp only [PyData.depth]; omega)⟩
theorem nil_shaped : SeqAt.shaped (.list []) = true := list_shaped (ls := []) fun _ h => nomatch h
theorem nil_eqv (ls : List Ln) : PyData.eqv (.list (ls.map Ln.d)) (.list []) = ls.isEmpty := by
  cases ls with
  | nil => simp [PyData.eqv, PyData.eqvAll]
  | cons l ls => simp [PyData.eqv, PyData.eqvAll]
theorem int_shaped {i : Int} : SeqAt.shaped (.int i) = true := by
  show (PyData.canLay0 (.int i) && decide (PyData.depth (.int i) ≤ 64)) = true
  simp [PyData.canLay0, PyData.depth]
theorem strs_shaped {k : List Str} (h : ∀ x ∈ k, PyData.strOk x = true) : SeqAt.shaped (.list (k.map PyData.str)) = true := by
  show (PyData.canLay0 (.list (k.map PyData.str)) && decide (PyData.depth (.list (k.map PyData.str)) ≤ 64)) = true
  rw [Bool.and_eq_true]
  exact ⟨by simp only [PyData.canLay0]; exact sD_lay k h, decide_eq_true (by simp only [PyData.depth, sD_depth]; decide)⟩
end Rd

namespace Om
open PySem PySem.Spec PyProof.Rows L2 Ox
/-- what several clauses, with the name of the slot i or none, wish of an exception -/
def wAll (K : PySem.W.Frag) (i : Nat) (Wout : WX) (D : Ends) : List (Value × Bool × (Addr → Value → Option Addr → TS)) → WX
  | [] => Wout
  | (c, nm, ts) :: r => fun cls d σ H => ∃ b, PySem.W.exmOne K cls c = some b ∧ (b = true → ∀ a, H a = none → if nm = true then ts a cls d (gone i D) (σ.set i (some (.ref a))) H else ts a cls d D σ H) ∧ (b = false → wAll K i Wout D r cls d σ H)
inductive Clauses (X : Cx) (n : Str) : List ExceptHandler → List (Value × Bool × (Addr → Value → Option Addr → TS)) → Prop
  | nil : Clauses X n [] []
  | cons {x : Str} {c : Value} {ts : Addr → Value → Option Addr → TS} {b₀ : Stmt} {su : List Stmt} {np pos' : Pos} {hds : List ExceptHandler} {l : List (Value × Bool × (Addr → Value → Option Addr → TS))} (hc : Names X x c)
      (hsu : ∀ (a : Addr) (oe : Obj) (cls : Value) (d : Option Addr) (pn : List (Addr × Obj)), L2N.Zn cls d oe → (∃ vs, oe.data = .fields vs) → PSs (X.suite a ((a, oe) :: pn)) (b₀ :: su) (ts a cls d)) (r : Clauses X n hds l) : Clauses X n (.ExceptHandler (some (.Name x np)) (some n) (b₀ :: su) pos' :: hds) ((c, true, ts) :: l)
  | bare {x : Str} {c : Value} {ts : Addr → Value → Option Addr → TS} {b₀ : Stmt} {su : List Stmt} {np pos' : Pos} {hds : List ExceptHandler} {l : List (Value × Bool × (Addr → Value → Option Addr → TS))} (hc : Names X x c)
      (hsu : ∀ (a : Addr) (oe : Obj) (cls : Value) (d : Option Addr) (pn : List (Addr × Obj)), L2N.Zn cls d oe → (∃ vs, oe.data = .fields vs) → PSs (X.suite a ((a, oe) :: pn)) (b₀ :: su) (ts a cls d)) (r : Clauses X n hds l) : Clauses X n (.ExceptHandler (some (.Name x np)) none (b₀ :: su) pos' :: hds) ((c, false, ts) :: l)
section
variable {X : Cx} {n : Str} {i : Nat} {body : List Stmt} {h₀ : ExceptHandler} {hds : List ExceptHandler} {l : List (Value × Bool × (Addr → Value → Option Addr → TS))} {pos : Pos} {tb : WX → TS} {Wout : WX}
theorem ps_try_mix (hs : X.stack = X.env :: X.outer) (hf : X.env.frame = some X.env.locals) (hN : X.N.Nodup) (hi : X.N[i]? = some n) (hln : X.env.kindOf n = some .local) (tk : L2N.Takes X Wout)
    (hb : ∀ (W : WX) (pn : List (Addr × Obj)) (xe : Value → Shared → Prop), L2N.Takes (X.tr pn xe) W → PassesOwn (model X.prog X.w) X.A X.env xe → PSs (X.tr pn xe) body (tb W))
    (hh : Clauses X n (h₀ :: hds) l) : PS X (.Try body (h₀ :: hds) [] [] pos) (fun D σ H => tb (wAll X.K i Wout D l) D σ H) := by
  refine ⟨fun pins s σ H D I h => ?_⟩; have ok := I.ok; have hfr : X.A.frames = some (X.env :: X.outer) := by (rw [ok.frames, hs])
  have hloc : Loc X.env.scope n := .inl hln; refine wpAny_Try_except ?_
  refine wpAny_mono ((hb (wAll X.K i Wout D l) (X.pn ++ pins) (fun e s₁ => wpAny (model X.prog X.w) X.A (noteFrame e X.env) (fun _ s₂ => wpAny (model X.prog X.w) X.A (setFlight e none) (fun _ s₃ => wpAny (model X.prog X.w) X.A (handleBy e X.env (h₀ :: hds)) (SP X pins D) X.xe s₃) X.xe s₂) X.xe s₁)
    (fun u s' xx => ?_) PassesOwn.looking).run [] s σ H D (I.toTry _) h) (fun fl s1 hsp => ?_) (fun e s1 he => he)
  · obtain ⟨a, B, sI, pins', σ', H', cls, d, rfl, J', nb, up, sky, na, os, ag, w⟩ := xx; have J : Inv X pins σ' H' sI := J'.ofTry ok
    have sky' : Sky B (X.env :: X.outer) a (L2N.Zn cls d) X.env.locals s'.heap := by (rw [← hs]; exact sky)
    show wpAny (model X.prog X.w) X.A (noteFrame (.ref a) X.env) _ _ _; refine L2N.Sky.land L2N.Zn.steady hfr hf sky' fun h3 fl3 up3 => ?_
    have J3 : Inv X pins σ' H' { s' with heap := h3 } := J.landed nb fl3.1 (up.trans up3) os ag; obtain ⟨oe3, vs3, he3, hz3, hd3⟩ := fl3.there
    have nfr : a ∉ frs (X.env :: X.outer) := fun hm => by
      obtain ⟨_, o', e', hnf⟩ := fl3.2.2.1.mem hm
      rw [he3] at e'; cases e'; exact hnf _ hd3
    have nL : a ≠ X.env.locals := fun z => nfr (List.mem_filterMap.mpr ⟨X.env, List.mem_cons_self, by (rw [hf, z])⟩)
    have nF : a ∉ X.fs := fun hm => by
      obtain ⟨e, he, q⟩ := List.mem_filterMap.mp hm
      exact nfr (List.mem_filterMap.mpr ⟨e, List.mem_cons_of_mem _ he, q⟩)
    have S3 := J3.suite he3 hd3 na nL nF
    have LT : PySem.W.Looks (model X.prog X.w) h3 (typeOf (.ref a)) cls := fun A Q E s k q => wpAny_typeOf_ref (k _ _ he3) (by (rw [hz3.1]; exact q))
    have go : ∀ {hds' : List ExceptHandler} {l' : List (Value × Bool × (Addr → Value → Option Addr → TS))}, Clauses X n hds' l' → wAll X.K i Wout D l' cls d σ' H' → wpAny (model X.prog X.w) X.A (handleBy (.ref a) X.env hds') (SP X pins D) X.xe { s' with heap := h3 } := by
      intro hds' l' hk
      induction hk with
      | nil =>
        intro w; refine wpAny_handleBy_nil ?_; obtain ⟨k1, k2, k3, oe, vs, T, oT, ts', he, hz, hd, h1, hr⟩ := id fl3; unfold PySem.passOn
        refine wpAny_bind (wpAny_field he hd h1 ?_); rw [if_neg (show ¬ ((Value.ref T == Value.none) = true) from by simp)]
        have fin : wpAny (model X.prog X.w) X.A (setFlight (.ref a) X.env.frame) (fun _ s4 => wpAny (model X.prog X.w) X.A (throw (.ref a) : Sem Flow) (SP X pins D) X.xe s4) X.xe { s' with heap := h3 } := by
          rw [hf]; refine PySem.HandSPX.setFlight_upZ fl3 fun h4 hh4 up4 => wpAny_throw (tk _ _ ?_)
          exact ⟨a, B, sI, pins, σ', H', cls, d, rfl, J, nb, (up.trans up3).trans up4, .inr (.inr (by (rw [hs]; exact hh4))), na, os, ag, w⟩
        first | exact wpAny_bind (wpAny_pure (wpAny_bind fin)) | exact wpAny_bind fin
      | @cons x c ts b₀ su np pos' hds2 l2 hc hsu r ih =>
        intro w; obtain ⟨b, hb1, hyes, hno⟩ := w; refine wpAny_handleBy_cons (codeAny_handlers_test ?_) (by intro q; cases q)
        have LM := PySem.W.exm_one (M := model X.prog X.w) (J3.kIn) LT hb1
        have test : ∀ {Q : Value → Shared → Prop} {E : Value → Shared → Prop}, Q c { s' with heap := h3 } → wpAny (model X.prog X.w) (X.A.mark (some (.ref a))) (eval (.Name x np) X.env) Q E { s' with heap := h3 } := fun {Q E} q => by
          obtain ⟨hg, hdbg, hm | ⟨hm, hv, hnn⟩⟩ := hc
          · exact ld_glob (X := X.suite a ((a, oe3) :: (X.pn ++ pins))) S3 hg hm q hdbg
          · exact ld_blt (X := X.suite a ((a, oe3) :: (X.pn ++ pins))) S3 hg hm hv q hnn hdbg
        refine test (LM.here ?_)
        cases b with
        | false => show wpAny _ X.A (handleBy (.ref a) X.env hds2) _ _ _; exact ih (hno rfl)
        | true =>
          refine codeAny_handlers_suite_as ?_; refine PySem.HandSPX.lands_againZ fl3 fun h4 fl4 up4 => ?_
          have J4 : Inv X pins σ' H' { s' with heap := h4 } := J.landed nb fl4.1 ((up.trans up3).trans up4) os ag; obtain ⟨oe4, vs4, he4, hz4, hd4⟩ := fl4.there
          have S4 := J4.suite he4 hd4 na nL nF; refine store_ok (X := X.suite a ((a, oe4) :: (X.pn ++ pins))) (v := .ref a) S4 hN hi hloc rfl (fun s5 S5 => ?_) (.inr hln)
          refine wpAny_mono ((hsu a oe4 cls d (X.pn ++ pins) hz4 ⟨_, hd4⟩).run [] s5 _ H' _ S5 (hyes rfl a na)) (fun fl s6 hsp => ?_) (fun _ _ z => False.elim z)
          have end_ : ∀ {σ6 : L2.St} {H6 : Hp} {Q : Shared → Prop}, Inv (X.suite a ((a, oe4) :: (X.pn ++ pins))) [] σ6 H6 s6 → (∀ s7, Inv X pins (σ6.set i none) H6 s7 → Q s7) →
              wpAny (model X.prog X.w) X.A (do bindName X.env n .none; unbindBehindTheSuite X.env n pos') (fun _ s7 => Q s7) X.xe s6 := fun {σ6 H6 Q} S6 hq => gone_ok (S6.unsuite ok) hN hi hln hq
          cases fl with
          | next => obtain ⟨σ6, H6, S6, q6⟩ := hsp; exact end_ S6 fun s7 J7 => ⟨_, _, J7, q6⟩
          | brk => obtain ⟨σ6, H6, S6, q6⟩ := hsp; exact end_ S6 fun s7 J7 => ⟨_, _, J7, q6⟩
          | cont => obtain ⟨σ6, H6, S6, q6⟩ := hsp; exact end_ S6 fun s7 J7 => ⟨_, _, J7, q6⟩
          | ret u => obtain ⟨v6, σ6, H6, S6, r6, q6⟩ := hsp; exact end_ S6 fun s7 J7 => ⟨_, _, _, J7, r6, q6⟩
      | @bare x c ts b₀ su np pos' hds2 l2 hc hsu r ih =>
        intro w; obtain ⟨b, hb1, hyes, hno⟩ := w; refine wpAny_handleBy_cons (codeAny_handlers_test ?_) (by intro q; cases q)
        have LM := PySem.W.exm_one (M := model X.prog X.w) (J3.kIn) LT hb1
        have test : ∀ {Q : Value → Shared → Prop} {E : Value → Shared → Prop}, Q c { s' with heap := h3 } → wpAny (model X.prog X.w) (X.A.mark (some (.ref a))) (eval (.Name x np) X.env) Q E { s' with heap := h3 } := fun {Q E} q => by
          obtain ⟨hg, hdbg, hm | ⟨hm, hv, hnn⟩⟩ := hc
          · exact ld_glob (X := X.suite a ((a, oe3) :: (X.pn ++ pins))) S3 hg hm q hdbg
          · exact ld_blt (X := X.suite a ((a, oe3) :: (X.pn ++ pins))) S3 hg hm hv q hnn hdbg
        refine test (LM.here ?_)
        cases b with
        | false => show wpAny _ X.A (handleBy (.ref a) X.env hds2) _ _ _; exact ih (hno rfl)
        | true =>
          refine codeAny_handlers_suite ?_
          refine PySem.HandSPX.lands_againZ fl3 fun h4 fl4 up4 => ?_
          have J4 : Inv X pins σ' H' { s' with heap := h4 } := J.landed nb fl4.1 ((up.trans up3).trans up4) os ag; obtain ⟨oe4, vs4, he4, hz4, hd4⟩ := fl4.there
          have S4 := J4.suite he4 hd4 na nL nF
          refine wpAny_mono ((hsu a oe4 cls d (X.pn ++ pins) hz4 ⟨_, hd4⟩).run [] _ σ' H' _ S4 (hyes rfl a na)) (fun fl s6 hsp => ?_) (fun _ _ z => False.elim z)
          cases fl with
          | next => obtain ⟨σ6, H6, S6, q6⟩ := hsp; exact ⟨_, _, S6.unsuite ok, q6⟩
          | brk => obtain ⟨σ6, H6, S6, q6⟩ := hsp; exact ⟨_, _, S6.unsuite ok, q6⟩
          | cont => obtain ⟨σ6, H6, S6, q6⟩ := hsp; exact ⟨_, _, S6.unsuite ok, q6⟩
          | ret u => obtain ⟨v6, σ6, H6, S6, r6, q6⟩ := hsp; exact ⟨_, _, _, S6.unsuite ok, r6, q6⟩
    exact go hh w
  · cases fl with
    | next => obtain ⟨σ', H', J', q⟩ := hsp; exact wpAny_execs_nil ⟨σ', H', J'.ofTry ok, q⟩
    | brk => obtain ⟨σ', H', J', q⟩ := hsp; exact ⟨σ', H', J'.ofTry ok, q⟩
    | cont => obtain ⟨σ', H', J', q⟩ := hsp; exact ⟨σ', H', J'.ofTry ok, q⟩
    | ret u => obtain ⟨v, σ', H', J', r, q⟩ := hsp; exact ⟨v, σ', H', J'.ofTry ok, r, q⟩
end
end Om

/-! Whether lines make a reader -/
namespace Rd
open PySem PySem.Spec PyProof.Rows L2 Tq Dn Dc Ox LamX
theorem takesN0 {X : Cx} : L2N.Takes X (fun _ _ _ _ => False) := fun _ _ x => by
  obtain ⟨_, _, _, _, _, _, _, _, _, _, _, _, _, _, _, _, z⟩ := x; exact z.elim
section
variable {X : Cx} {n : Str} {i : Nat} {body : List Stmt} {h₀ : ExceptHandler} {hds : List ExceptHandler} {l : List (Value × Bool × (Addr → Value → Option Addr → TS))} {pos : Pos} {t : XK → TS} {Wout : WX}
/-- try: what may be raised is chosen as E, whatever the names hold then -/
theorem ps_tryE (hs : X.stack = X.env :: X.outer) (hf : X.env.frame = some X.env.locals) (hN : X.N.Nodup) (hi : X.N[i]? = some n) (hln : X.env.kindOf n = some .local) (tk : L2N.Takes X Wout)
    (hb : ∀ (E : XK) (W : WX) (pn : List (Addr × Obj)) (xe : Value → Shared → Prop), L2N.Takes (X.tr pn xe) W → (∀ cls d σ H, E cls d H → W cls d σ H) → PSs (X.tr pn xe) body (t E))
    (hh : Om.Clauses X n (h₀ :: hds) l) : PS X (.Try body (h₀ :: hds) [] [] pos) (fun D σ H => ∃ E : XK, (∀ cls d σ' H', E cls d H' → Om.wAll X.K i Wout D l cls d σ' H') ∧ t E D σ H) :=
  Om.ps_try_mix (tb := fun W D σ H => ∃ E : XK, (∀ cls d σ' H', E cls d H' → W cls d σ' H') ∧ t E D σ H) hs hf hN hi hln tk (fun W pn xe tk _ => ⟨fun pins s σ H D I ⟨E, hE, h⟩ => (hb E W pn xe tk hE).run pins s σ H D I h⟩) hh
end
abbrev sIr : Stmt := top 52
def spIsR (K : PySem.W.Frag) : Sp := fun vs H Q _ => ∃ v, vs = [v] ∧ ((∃ (L : Addr) (rs : RowsL), v = .ref L ∧ LinesAt K H L rs ∧ RdOk rs ∧ ∀ H', Same H H' → Q (.bl true) H') ∨ (Refused K H v ∧ ∀ H', Same H H' → Q (.bl false) H'))
def spOfA (K : PySem.W.Frag) (C CR : Addr) : Sp := fun vs H Q E => spOf K C vs H Q E ∨ spOfR K C CR vs H Q E
structure TxI1 (K : PySem.W.Frag) (mg : Str → Option Value) (P : Program) (w : World) (base : Heap) (C CR : Addr) : Prop extends TxX K mg P w base C CR where
  ofA : ∃ mc p g, ClX.CRead K C mc ∧ ClX.CMet K C mc "of" p g ∧ FnR P w K mg base (L2N.CX P w) 7 g (spOfA K C CR)
  lines_ : HasP P w K mg base C "lines" 1 (getSp C "_lines")
  eRR : PySem.W.exmOne K (.ref CR) (.ref CR) = some true
theorem scIr : FnScope ["_law_lines_here"] ["_law_lines_here"] (defScope sIr) := ⟨rfl, rfl, rfl, by decide +kernel, rfl, by decide +kernel, by decide +kernel⟩
section
variable {P : Program} {w : World} {K : PySem.W.Frag} {mg : Str → Option Value} {base : Heap}
theorem ok_ir {C CR f : Addr} {fd : FuncData} (F : Fun K "_law_is_reader" "_law_is_reader" sIr f fd) (T : TxI1 K mg P w base C CR) : FnOk P w K mg base CX0 8 f fd ["_law_lines_here"] (spIsR K) := by
  obtain ⟨mc, p0, g0, cr, cm, G0⟩ := T.ofA
  obtain ⟨p1, _, fd1, P1, B1, G1⟩ := T.lines_
  refine F.ok scIr (fun vs H Q E h => ?_) (fun cdv A outer s H vs Q E hr h => ?_)
  · obtain ⟨v, rfl, _⟩ := h; rfl
  · obtain ⟨v, rfl, h⟩ := h
    have hu := hr.units
    have r1 := hr.mono (show 2 ≤ 7 by decide)
    refine ⟨_, pss_one (ps_tryE (i := 0) (n := "_law_lines_here") (l := [(.ref CR, false, fun _ _ _ => tRet (tC (.bl false)))]) (Wout := fun _ _ _ _ => False) (t := fun E => tRet (tOp (rEqD K) (tProp C (getSp C "_lines") [] E0 (ClX.tCMeth C (spOfA K C CR) E (tC (.ref C)) (tCons (tVar 0) tNil))) (tVar 0))) rfl rfl scIr.nd rfl rfl takesN0
      (fun E W pn xe tk hE => pss_one (ps_ret (pe_cmpR (op_eqD hu) (pe_prop (ClX.pe_cmeth (E := E) (pe_glob (v := .ref C) (by rfl) T.mgC rfl) cr cm G0 hr (L2N.passes_call tk hE) (pa_cons (pv 0) pa_nil)) T.cl P1 G1 r1 B1 .nil pass0 (by rfl)) (pv 0) (nomark _))))
      (.bare ⟨rfl, by decide, .inl T.gR⟩ (fun a oe cls d pn hz hf => pss_one (ps_ret pe_bl)) .nil)), ?_⟩
    rcases h with ⟨L, rs, rfl, hL, ok, k⟩ | ⟨ref, k⟩
    · refine ⟨E0, fun _ _ _ _ z => z.elim, rfl, _, rfl, .inl ⟨L, rs, rfl, hL, ok, fun H1 r s1 nr hR => ?_⟩⟩
      obtain ⟨dx, Lr, Tr, pr, eR, hLr, _⟩ := id hR
      refine ⟨r, dx, _, rfl, eR, r, dx, _, _, rfl, eR, rd_lines Lr Tr, _, rfl, _, _, hLr.dp, (hL.up s1).dp, dls_shaped (lns_safe ok), dls_shaped (lns_safe ok), ?_⟩
      rw [dls_eqv, decide_eq_true rfl]
      exact k _ s1
    · refine ⟨fun cls d H' => cls = .ref CR ∧ Same H H', fun cls d σ' H' ⟨e, s1⟩ => ?_, rfl, _, rfl, .inr ⟨v, rfl, ref, fun H' s' => ⟨rfl, s'⟩⟩⟩
      subst e
      refine ⟨true, T.eRR, fun _ a ha => ?_, fun z => nomatch z⟩
      rw [if_neg (by decide)]
      exact k _ s1
end
end Rd

/-! A lambda as a value that is kept, and handed to a def later -/
namespace Rl
open PySem PySem.Spec PyProof.Rows L2 LamX
/-- the function object of a lambda -/
def LamO (f : Addr) (q : Str) (params : Arguments) (body : Expr) (scope : Scope) (cl : List (Str × Addr)) (c : Addr) : HO := .ext fun h => ∃ pm ctv : Value, h.get? f = some (PySem.W.kla_obj "<lambda>" q params body scope cl pm c ctv)
theorem lamO_ne {f : Addr} {q : Str} {params : Arguments} {body : Expr} {scope : Scope} {cl : List (Str × Addr)} {c : Addr} (ps : Array Value) : LamO f q params body scope cl c ≠ .tbl ps := fun z => by
  unfold LamO at z
  cases z
section
variable {X : Cx} {pins : List (Addr × Obj)} {σ : L2.St} {H : Hp} {s : Shared}
theorem inv_lamO {q : Str} {params : Arguments} {body : Expr} {scope : Scope} {cl : List (Str × Addr)} {c : Addr} {pm ctv : Value} {t' : Nat} (I : Inv X pins σ H s) :
    Inv X pins σ (upd H s.heap.objs.size (LamO s.heap.objs.size q params body scope cl c)) { s with heap := s.heap.push (PySem.W.kla_obj "<lambda>" q params body scope cl pm c ctv), toks := t' } := by
  refine I.laid (a := s.heap.objs.size) (fun b u e => Heap.get?_push_of_some _ e) (Nat.le_refl _) ?_
  have e := Heap.get?_push_size s.heap (o := PySem.W.kla_obj "<lambda>" q params body scope cl pm c ctv) rfl
  exact ⟨⟨pm, ctv, e⟩, ⟨_, e⟩, fun h1 h2 ⟨p, t, z⟩ st => ⟨p, t, st _ z⟩⟩
/-- f is a lambda of this text, made in this frame -/
def IsLam (X : Cx) (params : Arguments) (body : Expr) (scope : Scope) (H : Hp) (f : Addr) : Prop :=
  ∃ c, H f = some (LamO f (X.env.qual ++ "<lambda>") params body scope (cloFrom X.env.cells scope.names []) c) ∧ H c = some (CodeO c (X.env.qual ++ "<lambda>"))
theorem IsLam.keep {params : Arguments} {body : Expr} {scope : Scope} {H H' : Hp} {f : Addr} (h : IsLam X params body scope H f) (k : ∀ b o, H b = some o → (∀ ps, o ≠ .tbl ps) → (∀ xs, o ≠ .lst xs) → H' b = some o) : IsLam X params body scope H' f := by
  obtain ⟨c, a, b⟩ := h
  exact ⟨c, k _ _ a lamO_ne (fun xs z => by unfold LamO at z; cases z), k _ _ b codeO_ne (fun xs z => by unfold CodeO at z; cases z)⟩
theorem lam_make3 {T : List (Addr × Str)} {c P : Addr} {params : Arguments} {body : Expr} {scope : Scope} {pos : Pos} {E : Value → Shared → Prop} {Q : Value → Shared → Prop} (I : Inv X pins σ H s) (TB : TabB X.base X.mg c P) (hcode : X.env.code = .ref c)
    (hm : (P, X.env.qual ++ "<lambda>") ∈ T) (hu : ∀ p ∈ T, p.1 = P → p.2 = X.env.qual ++ "<lambda>") (hT : Tabs T H) (hdef : defaultsOf params X.env = ([], [])) (hfree : ∀ y ∈ scope.names, y.2 = .free → ∃ c, X.env.cells.lookup y.1 = some c)
    (h : ∀ (f : Addr) (H1 : Hp) (s' : Shared), Inv X pins σ H1 s' → ExtN H H1 → Tabs T H1 → H f = none → IsLam X params body scope H1 f → Q (.ref f) s') :
    wpAny (model X.prog X.w) X.A (eval (.Lambda params body scope pos) X.env) Q E s := by
  obtain ⟨ps, hP, ht, ha⟩ := hT _ hm
  refine PySem.W.kla_eval hdef ?_
  have bP : s.heap.BuiltinsAt X.mg P := TB.bm.keeps I.bk
  have hP' : s.heap.get? P = some { cls := .none, data := .fields ps } := I.hok P _ hP
  cases hc : codeAmong pos ps.toList with
  | none =>
    refine PySem.W.kla_makeFunction (mg := X.mg) (c := c) (P := P) (ps := ps) (closure_ok hfree) I.ok.glob (I.mod.glob.keeps I.bk) hcode (TB.code.keeps I.bk) hP' ht hc TB.gP bP fun c' ctv h' tk hx hge hlt hrec htb => ?_
    obtain ⟨c2, oc, vs, t, e2, hoc, hd, hv⟩ := hrec
    cases e2
    have nC : H c' = none := I.hok.fresh hge
    have hsz : s.heap.objs.size ≤ h'.objs.size := Nat.le_trans hge (Nat.le_of_lt hlt)
    have J := inv_table (t' := tk) (more := #[rawInt pos.line, rawInt pos.col, .ref c']) I hP hx htb hge ⟨oc, vs, t, hoc, hd, hv⟩
    have hE : ExtN H (upd (upd H P (.tbl (ps ++ #[rawInt pos.line, rawInt pos.col, .ref c']))) c' (CodeO c' (X.env.qual ++ "<lambda>"))) := fun b o e n => by
      rw [upd_ne (ne_of_none e nC), upd_ne (fun z => n ps (Option.some.inj (e.symm.trans (by rw [z]; exact hP))))]
      exact e
    have eL : (ps ++ #[rawInt pos.line, rawInt pos.col, .ref c']).toList = ps.toList ++ [rawInt pos.line, rawInt pos.col, .ref c'] := by simp
    have hTJ : Tabs T (upd (upd H P (.tbl (ps ++ #[rawInt pos.line, rawInt pos.col, .ref c']))) c' (CodeO c' (X.env.qual ++ "<lambda>"))) := fun p hp => by
      by_cases hb : p.1 = P
      · rw [hu p hp hb, hb]
        refine ⟨_, by rw [upd_ne (ne_of_none hP nC), upd_same], by rw [eL]; exact PySem.TriplesOk_snoc _ _ _ _ ht, fun p' cv hcv => ?_⟩
        rw [eL] at hcv
        rcases among_app _ ht hcv with z | z
        · obtain ⟨c0, e1, e2⟩ := ha p' cv z
          exact ⟨c0, e1, hE _ _ e2 codeO_ne⟩
        · exact ⟨c', z, upd_same⟩
      · obtain ⟨ps', a1, a2, a3⟩ := hT p hp
        refine ⟨ps', by rw [upd_ne (ne_of_none a1 nC), upd_ne hb]; exact a1, a2, fun p' cv hcv => ?_⟩
        obtain ⟨c0, e1, e2⟩ := a3 p' cv hcv
        exact ⟨c0, e1, hE _ _ e2 codeO_ne⟩
    have hC : upd (upd H P (.tbl (ps ++ #[rawInt pos.line, rawInt pos.col, .ref c']))) c' (CodeO c' (X.env.qual ++ "<lambda>")) c' = some (CodeO c' (X.env.qual ++ "<lambda>")) := upd_same
    generalize upd (upd H P (.tbl (ps ++ #[rawInt pos.line, rawInt pos.col, .ref c']))) c' (CodeO c' (X.env.qual ++ "<lambda>")) = H2 at J hE hTJ hC
    have nf : H2 h'.objs.size = none := J.hok.fresh (Nat.le_refl _)
    have J2 := inv_lamO (q := X.env.qual ++ "<lambda>") (params := params) (body := body) (scope := scope) (cl := cloFrom X.env.cells scope.names []) (c := c') (pm := (X.mg "__name__").getD .none) (ctv := ctv) (t' := tk) J
    have k2 : ∀ b o, H2 b = some o → upd H2 h'.objs.size (LamO h'.objs.size (X.env.qual ++ "<lambda>") params body scope (cloFrom X.env.cells scope.names []) c') b = some o := fun b o e => by rw [upd_ne (ne_of_none e nf)]; exact e
    exact h h'.objs.size _ _ J2 (hE.trans (ExtN.of k2)) (hTJ.ext k2) (I.hok.fresh hsz) ⟨c', upd_same, k2 _ _ hC⟩
  | some cv =>
    obtain ⟨c', e, hco⟩ := ha pos cv hc
    subst e
    refine PySem.W.kla_makeFunctionHit (mg := X.mg) (c := c) (P := P) (ps := ps) (closure_ok hfree) I.ok.glob (I.mod.glob.keeps I.bk) hcode (TB.code.keeps I.bk) hP' ht hc bP fun ctv h' tk hx hsz => ?_
    have J : Inv X pins σ H { s with heap := h', toks := tk } := I.kept hx
    have nf : H h'.objs.size = none := I.hok.fresh hsz
    have J2 := inv_lamO (q := X.env.qual ++ "<lambda>") (params := params) (body := body) (scope := scope) (cl := cloFrom X.env.cells scope.names []) (c := c') (pm := (X.mg "__name__").getD .none) (ctv := ctv) (t' := tk) J
    have k2 : ∀ b o, H b = some o → upd H h'.objs.size (LamO h'.objs.size (X.env.qual ++ "<lambda>") params body scope (cloFrom X.env.cells scope.names []) c') b = some o := fun b o e => by rw [upd_ne (ne_of_none e nf)]; exact e
    exact h h'.objs.size _ _ J2 (ExtN.of k2) (hT.ext k2) nf ⟨c', upd_same, k2 _ _ hco⟩
/-- a lambda as a value -/
def tLamV (T : List (Addr × Str)) (IL : Hp → Addr → Prop) : TE := fun σ H Q => Tabs T H ∧ ∀ f H1, ExtN H H1 → Tabs T H1 → H f = none → IL H1 f → Q (.ref f) H1
theorem pe_lamV {T : List (Addr × Str)} {c P : Addr} {params : Arguments} {body : Expr} {scope : Scope} {pos : Pos} (TB : TabB X.base X.mg c P) (hcode : X.env.code = .ref c)
    (hm : (P, X.env.qual ++ "<lambda>") ∈ T) (hu : ∀ p ∈ T, p.1 = P → p.2 = X.env.qual ++ "<lambda>") (L : LamS X.env.scope scope) (hdef : defaultsOf params X.env = ([], [])) :
    PE X (.Lambda params body scope pos) (tLamV T (IsLam X params body scope)) := by
  refine ⟨fun pz z σz Hz Q Iz ⟨hT, h⟩ => ?_⟩
  exact lam_make3 Iz TB hcode hm hu hT hdef (L.has Iz.ok) fun f H1 y I1 eN T1 hf hL => ⟨.ref f, H1, I1, rfl, h f H1 eN T1 hf hL⟩
/-- the call of the kept lambda in the def that it is handed to -/
theorem actV {Ng : List Str} {x a : Str} {sg scope : Scope} {g f : Addr} {cdg : Value} {params : Arguments} {body : Expr} {k i : Nat} {pn : List (Addr × Obj)} {xe : Value → Shared → Prop} {W : WX} {E : XK} {tb : TE} {p1 p2 : Pos} {σ0 : L2.St} (h0 : σ0[i]? = some (some (.ref f)))
    (I : Inv X pins σ H s) (L : LamS X.env.scope scope)
    (hbind : ∀ (q : Str) (cl : List (Str × Addr)) (pm cv ctv : Value), bindArgs (PySem.W.kla_fn "<lambda>" q params body scope cl pm cv ctv) ⟨[], []⟩ = pure [])
    (tk : L2N.Takes ((inX X Ng x sg g cdg s H).tr pn xe) W) (hW : ∀ cls d H', E cls d H' → W cls d σ0 H') (hr : Room (k + 1) (X.A.deeper (envOfC x sg s.heap.objs.size g cdg)))
    (hbody : ∀ (A : Around) (outer : List Env) (s : Shared) (H : Hp) (c : Addr), Room k (A.deeper (lamEnv X scope s.heap.objs.size f c)) → PE (bodyCx X A outer s H E scope f c) body tb) (hN : Ng[i]? = some a) (hv : Vis sg a)
    (hd : (a == ("__debug__" : Str)) = false := by decide) (hcd : (a == ("__classdict__" : Str)) = false := by decide) :
    PE ((inX X Ng x sg g cdg s H).tr pn xe) (.Call (.Name a p1) [] [] p2) (fun σZ HZ Q => σZ = σ0 ∧ IsLam X params body scope HZ f ∧ tb σ HZ Q) := by
  refine ⟨fun pz z σz Hz Q Iz ⟨w1, w2, w3⟩ => ?_⟩
  subst w1
  refine wpAny_Call_Name_kw (thn ((pe_var (pos := p1) (i := i) hN hv hd hcd).run pz z σz Hz (fun v J => v = .ref f ∧ J = Hz) Iz ⟨.ref f, h0, rfl, rfl⟩) fun u y hu => ?_)
  obtain ⟨v, J, Iy, rv, rfl, rfl⟩ := hu
  obtain rfl : u = Value.ref f := rv
  obtain ⟨c, w2, w2c⟩ := w2
  obtain ⟨⟨pm, ctv, of⟩, _, _⟩ := Iy.hok f _ w2
  refine PySem.W.callWith_F0 ⟨_, _, _, _, of⟩ ?_
  obtain ⟨⟨oc, vs, t, hoc, hdc, hvc⟩, _, _⟩ := Iy.hok c _ w2c
  have run : codeAny (model X.prog X.w) (X.A.deeper (envOfC x sg s.heap.objs.size g cdg)) (.call (.ref f) ⟨[], []⟩) (CR (L2N.CX X.prog X.w) (envOfC x sg s.heap.objs.size g cdg :: X.stack) X.prog X.w J y Q E) y := by
    refine PySem.W.kla_callFunE hr.depth of rfl L.co L.gen rfl ⟨c, oc, vs, t, rfl, hoc, hdc, hvc⟩ ?_
    rw [hbind]
    refine wpAny_pure (wpAny_newFunctionEnv (fun b hb => (L.own b hb).2) (fun b hb => absurd hb (by simp)) (fun h₁ hns hsb => ⟨Iy.nolimit.fresh _ hsb, ?_⟩) L.kind)
    show codeAny _ _ (.expr body (lamEnv X scope y.heap.objs.size f c)) _ _
    have I0 : Inv (lamCx X (X.A.deeper (envOfC x sg s.heap.objs.size g cdg)) (envOfC x sg s.heap.objs.size g cdg :: X.stack) y J E scope f c) [] σ J { y with heap := h₁, toks := y.toks + ([] : List (Str × Value)).length } :=
      lam_start2 I L Iy.env0 hr.hd Iy.base hns fun b o e => hsb.extBut b o (Nat.ne_of_lt (Heap.lt_size e)) (Heap.get?_push_of_some _ e)
    refine PySem.W.kla_codeExpr (wpAny_mono ((hbody _ _ y J c (hr.deeper _)).run [] _ _ J Q (I0.wish _) w3) (fun v s' hq => ?_) fun e s' hq => hq)
    obtain ⟨w', H', J', r', q⟩ := hq
    exact ⟨w', H', J'.os, J'.bare, J'.base, J'.hok, r', q⟩
  refine wpAny_call (codeAny_mono run fun r s' hq => ?_)
  cases r with
  | error e => exact tk e s' (L2N.XE.of_call Iy (fun cls d H' h => hW cls d H' h) hq)
  | ok fl =>
    cases fl with
    | ret u => exact Iy.after hq
    | next => exact False.elim hq
    | brk => exact False.elim hq
    | cont => exact False.elim hq
/-- what the def makes of a function that it gets -/
def GivesV (X : Cx) (k : Nat) (Ng : List Str) (x : Str) (sg : Scope) (g : Addr) (cdg : Value) (bg : List Stmt) (a : Str) (TT : (XK → Hp → VK → Prop) → Hp → VK → Prop) : Prop :=
  ∀ (f : Addr) (s : Shared) (H : Hp) (Q : VK) (tl : XK → Hp → VK → Prop) (is : Hp → Prop), Room k (X.A.deeper (envOfC x sg s.heap.objs.size g cdg)) →
    (∀ (W : WX) (pn : List (Addr × Obj)) (xe : Value → Shared → Prop) (E : XK) (p1 p2 : Pos), L2N.Takes ((inX X Ng x sg g cdg s H).tr pn xe) W → (∀ cls d H', E cls d H' → W cls d (L2.start Ng [.ref f]) H') →
      PE ((inX X Ng x sg g cdg s H).tr pn xe) (.Call (.Name a p1) [] [] p2) (fun σZ HZ Q => σZ = L2.start Ng [.ref f] ∧ is HZ ∧ tl E HZ Q)) →
    is H → TT tl H Q → ∃ t, PSs (inX X Ng x sg g cdg s H).nox bg t ∧ t { nx := fun _ H' => Q .non H', rt := Q } (L2.start Ng [.ref f]) H
/-- g(e), e a lambda that was made in this frame -/
def tCallV (te : TE) (IL : Hp → Addr → Prop) (TT : (XK → Hp → VK → Prop) → Hp → VK → Prop) (t : XK → TE) : TE := fun σ H Q => te σ H fun v H1 => ∃ f, v = .ref f ∧ IL H1 f ∧ TT (fun E H' Q' => t E σ H' Q') H1 Q
theorem pe_callV {TT : (XK → Hp → VK → Prop) → Hp → VK → Prop} {x a : Str} {g : Addr} {k : Nat} {pg : Arguments} {bg : List Stmt} {sg scope : Scope} {dV kV doc pm cdv ct oc : Value} {an od : Option Addr} {osl : Array (Option Value)} {Ng : List Str} {te : TE} {e : Expr}
    {params : Arguments} {body : Expr} {t : XK → TE} {p pos : Pos} (hg : Gl X x) (hm : X.mg x = some (.ref g)) (hk : PySem.W.keepIn X.K (.ref g) = true)
    (lk : X.K.lookup g = some ⟨oc, od, .func (PySem.W.fnOf x x pg bg sg dV kV doc pm an cdv ct), osl⟩) (hcg : PySem.W.codeIn X.K cdv x = true) (hb : L2.Binds X.K (PySem.W.fnOf x x pg bg sg dV kV doc pm an cdv ct) [a] []) (Sg : FnScope Ng [a] sg) (hNg : Ng[0]? = some a) (h0 : ∀ f : Addr, (L2.start Ng [V.ref f])[0]? = some (some (V.ref f))) (hva : Vis sg a)
    (hG : GivesV X (k + 1) Ng x sg g cdv bg a TT) (hr : Room (k + 2) X.A) (L : LamS X.env.scope scope) (he : PE X e te)
    (hbind : ∀ (q : Str) (cl : List (Str × Addr)) (pm cv ctv : Value), bindArgs (PySem.W.kla_fn "<lambda>" q params body scope cl pm cv ctv) ⟨[], []⟩ = pure [])
    (hbody : ∀ (A : Around) (outer : List Env) (s : Shared) (H : Hp) (E : XK) (f c' : Addr), Room k (A.deeper (lamEnv X scope s.heap.objs.size f c')) → PE (bodyCx X A outer s H E scope f c') body (t E))
    (hst : starEach [e] X.env = (false, eval e X.env) :: starEach [] X.env := by rfl)
    (hdb : (x == ("__debug__" : Str)) = false := by decide) (hd : (a == ("__debug__" : Str)) = false := by decide) (hcd : (a == ("__classdict__" : Str)) = false := by decide) :
    PE X (.Call (.Name x p) [e] [] pos) (tCallV te (IsLam X params body scope) TT t) := by
  refine ⟨fun pz z σz Hz Q Iz h => ?_⟩
  refine wpAny_Call_Name_kw (ld_glob Iz hg hm (PySem.W.callWith_K (h₀ := X.base) Iz.ok.mod.kin hk ?_ hst (by rfl)) hdb)
  rw [hst]
  show wpAny _ _ (spliced ((false, eval e X.env) :: backTo pos (starEach [] X.env))) _ _ z
  refine Calls.spliced_cons (thn (he.run pz z σz Hz _ Iz h) fun u y hu => ?_)
  obtain ⟨v, H1, I1, rv, f, rfl, hL, hTT⟩ := hu
  obtain rfl : u = Value.ref f := rv
  refine Calls.spliced_nil ⟨I1.kIn, ?_⟩
  have run : codeAny (model X.prog X.w) X.A (.call (.ref g) ⟨[.ref f], []⟩) (CR CX0 X.stack X.prog X.w H1 y Q E0) y := by
    refine run_ofS (N := Ng) (ps := [a]) (us := [.ref f]) (vs := [.ref f]) lk hcg Sg hr I1.env0 (hb y [.ref f] I1.kIn rfl) (.cons rfl .nil) rfl fun hr' => ?_
    obtain ⟨t', ht', hq'⟩ := hG f y H1 Q (fun E H' Q' => t E σz H' Q') (fun HZ => IsLam X params body scope HZ f) hr' (fun W pn xe E p1 p2 tk hW => actV (i := 0) (h0 f) I1 L hbind tk hW hr' (fun A outer s H c hr2 => hbody A outer s H E f c hr2) hNg hva hd hcd) hL hTT
    exact ⟨t', ht'.nox, hq'⟩
  refine wpAny_call (codeAny_mono run fun r y2 hq => ?_)
  cases r with
  | error e => exact (show False from hq).elim
  | ok fl =>
    cases fl with
    | ret u => exact I1.after hq
    | next => exact False.elim hq
    | brk => exact False.elim hq
    | cont => exact False.elim hq
end
end Rl

/-! Whether a call is refused -/
namespace Rd
open PySem PySem.Spec PyProof.Rows L2 Tq Dn Dc Ox LamX
abbrev sRf : Stmt := top 54
theorem scRf : FnScope ["_law_call"] ["_law_call"] (defScope sRf) := ⟨rfl, rfl, rfl, by decide +kernel, rfl, by decide +kernel, by decide +kernel⟩
def TTref (CR : Addr) : (XK → Hp → VK → Prop) → Hp → VK → Prop := fun tl H Q => tl (fun cls d H' => cls = .ref CR ∧ Q (.bl true) H') H (fun _ H' => Q (.bl false) H')
theorem ref_gives {X : Cx} {k : Nat} {g CR : Addr} {cdv : Value} (gR : X.mg "InvalidReader" = some (.ref CR)) (eRR : PySem.W.exmOne X.K (.ref CR) (.ref CR) = some true) :
    Rl.GivesV X k ["_law_call"] "_law_is_refused" (defScope sRf) g cdv (defBody sRf) "_law_call" (TTref CR) := by
  intro f s H Q tl is hr act his h
  refine ⟨_, pss_cons (Om.ps_try_mix (X := (Rl.inX X ["_law_call"] "_law_is_refused" (defScope sRf) g cdv s H).nox) (i := 0) (n := "_law_call") (l := [(.ref CR, false, fun _ _ _ => tRet (tC (.bl true)))])
      (tb := fun W D σ H1 => ∃ Ech : XK, (∀ cls d H', Ech cls d H' → W cls d (L2.start ["_law_call"] [.ref f]) H') ∧ σ = L2.start ["_law_call"] [.ref f] ∧ is H1 ∧ tl Ech H1 (fun _ H' => D.nx σ H'))
      (Wout := fun _ _ _ _ => False) rfl rfl scRf.nd rfl rfl takesN0 (fun W pn xe tk _ => ?_)
      (.bare ⟨rfl, by decide, .inl gR⟩ (fun a oe cls d pn hz hf => pss_one (ps_ret pe_bl)) .nil)) (pss_one (ps_ret pe_bl)), ?_⟩
  · refine ⟨fun pins s' σ H' D I ⟨Ech, hW, h1, h2, h3⟩ => ?_⟩
    exact (pss_one (ps_expr (act W pn xe Ech _ _ tk hW))).run pins s' σ H' D I ⟨h1, h2, h3⟩
  · refine ⟨fun cls d H' => cls = .ref CR ∧ Q (.bl true) H', fun cls d H' ⟨e, q⟩ => ?_, rfl, his, h⟩
    subst e
    refine ⟨true, eRR, fun _ a ha => ?_, fun z => nomatch z⟩
    rw [if_neg (by decide)]
    exact q
end Rd

/-! A comprehension whose tests call functions that were made in the def around it -/
namespace Rl
open PySem PySem.Spec PyProof.Rows L2 LamX
/-- the def around a block, as the block starts -/
def Maker (X : Cx) (σ : L2.St) (H : Hp) (s : Shared) (fp : List Addr) : Prop := ∃ pins, Inv X pins σ H s ∧ ∀ b ∈ fp, FpOk X pins H b
section
variable {X : Cx}
theorem lc_told {pins : List (Addr × Obj)} {s : Shared} {σ : L2.St} {H : Hp} {Q : VK} {elt tg iter : Expr} {ifs : List Expr} {scope : Scope} {own : List (Str × Nat)} {pos pos' : Pos} {wi : TI} {g : TG} {tt : TT} {te : TE} {use : Option (Value → Sem Unit)} {Qf : Value → Shared → Prop}
    (hc : X.calm = true) (hN : X.N.Nodup) (I : Inv X pins σ H s) (hi : PI X tg iter wi) (ok : BlkOk X.N X.env.scope scope own)
    (hg : ∀ (s : Shared) (H : Hp) (C : Addr) (cl : List (Str × Addr)) (fp : List Addr), PG (X.blk s H scope (compEnvC scope cl C X.env) fp) tg g) (ht : ∀ (s : Shared) (H : Hp) (C : Addr) (cl : List (Str × Addr)) (fp : List Addr), Maker X σ H s fp → PTs (X.blk s H scope (compEnvC scope cl C X.env) fp) ifs tt)
    (he : ∀ (s : Shared) (H : Hp) (C : Addr) (cl : List (Str × Addr)) (fp : List Addr), PE (X.blk s H scope (compEnvC scope cl C X.env) fp) elt te) (hs : ∀ x, foldedSetIterable iter X.env x = pure x) (h : tLc wi g tt te (own.map (·.2)) σ H Q)
    (hRR : ∀ D C s' m H', Inv X pins σ H' s' → Q (.ref D) H' → s'.heap.Ns C m → FpOk X pins H' C → compPost (model X.prog X.w) X.A X.xe use Qf (.ref D) C (.ok .next) s') :
    wpAny (model X.prog X.w) X.A (comprehension (.ListComp elt [⟨tg, iter, ifs, 0⟩] scope pos) scope X.env pos' (newList []) false (eval iter X.env) use) Qf X.xe s := by
  have hfree : ∀ y ∈ scope.names, y.2 = .free → ∃ c, X.env.cells.lookup y.1 = some c := fun y hy e => (ok.free y hy e).elim (fun k => I.ok.has _ (.inl k)) fun k => I.ok.has _ (.inr k)
  refine wpAny_comprehension_free (use := use) rfl hs (closure_ok hfree) ok.kind (fun y hy e => by (rw [ok.uniq y hy, e])) (thn (hi.run pins s σ H _ I h) fun xv s1 hx => thn hx fun itv s2 h2 => ?_)
  obtain ⟨it, fp, tn, J, H2, e, I2, T, st2, f2, q⟩ := h2; subst e; refine wpAny_newObj_type (newEnv_comp ?_) (by (show 0 ≤ sizeLine; decide))
  generalize hD : s2.heap.objs.size = D; have hDn : H2 D = none := I2.hok.fresh (Nat.le_of_eq hD); obtain ⟨W, ⟨m0, w0⟩, turn⟩ := q D hDn
  generalize hs3 : ({ s2 with heap := s2.heap.push { cls := .type "list", data := .seq ([] : List Value).toArray } } : Shared) = s3
  have I3 : Inv X pins σ (upd H2 D (.lst [])) s3 := by
    rw [← hs3]; refine I2.laid (t' := s2.toks) (fun b o e => Heap.get?_push_of_some _ e) (Nat.le_of_eq hD) ⟨Nat.zero_le _, [], 0, .nil, ?_⟩
    rw [← hD]; exact Heap.get?_push_size _ rfl
  have h3 : s3.heap = s2.heap.push { cls := .type "list", data := .seq ([] : List Value).toArray } := by (rw [← hs3])
  have sz : ∀ b ∈ fp, b < s2.heap.objs.size := fun b hb => by
    obtain ⟨o, e, _⟩ := T.obj _ _ st2 b hb; exact Heap.lt_size e
  have f3 : ∀ b ∈ fp, FpOk X pins (upd H2 D (.lst [])) b ∧ b < s3.heap.objs.size := fun b hb => by
    have hlt := sz b hb; refine ⟨⟨?_, (f2 b hb).2⟩, by (rw [h3, Heap.size_push]; exact Nat.lt_succ_of_lt hlt)⟩
    rw [upd_ne (by (rw [← hD]; exact Nat.ne_of_lt hlt))]; exact (f2 b hb).1
  have st3 : tn 0 s3.heap := T.keep _ _ _ st2 fun b _ o e => by (rw [h3]; exact Heap.get?_push_of_some _ e)
  have I4 := block_start I3 ok hN f3
  have pg := hg s3 (upd H2 D (.lst [])) s3.heap.objs.size (cellsFrom (s3.heap.objs.size + 1) scope.names (cloFrom X.env.cells scope.names [])) fp
  have pt := ht s3 (upd H2 D (.lst [])) s3.heap.objs.size (cellsFrom (s3.heap.objs.size + 1) scope.names (cloFrom X.env.cells scope.names [])) fp ⟨pins, I3, fun b hb => (f3 b hb).1⟩
  have pe := he s3 (upd H2 D (.lst [])) s3.heap.objs.size (cellsFrom (s3.heap.objs.size + 1) scope.names (cloFrom X.env.cells scope.names [])) fp
  show codeAny _ _ (.compStart (.ListComp elt [⟨tg, iter, ifs, 0⟩] scope pos) 0 (.ref it) (.ref D) (compEnvC scope (cellsFrom (s3.heap.objs.size + 1) scope.names (cloFrom X.env.cells scope.names [])) s3.heap.objs.size X.env)) (compPost (model X.prog X.w) X.A X.xe use Qf (.ref D) s3.heap.objs.size) { s3 with heap := pushCells (s3.heap.push { cls := .type "dict", data := .dict #[] }) scope.names }
  have nfp : ∀ b ∈ fp, (upd H2 D (.lst [])) b = none := fun b hb => (f3 b hb).1.1
  generalize hce : compEnvC scope (cellsFrom (s3.heap.objs.size + 1) scope.names (cloFrom X.env.cells scope.names [])) s3.heap.objs.size X.env = ce at I4 pg pt pe ⊢
  have cL : ce.locals = s3.heap.objs.size := by (subst hce; rfl)
  generalize hH3 : upd H2 D (.lst []) = H3 at I3 I4 pg pt pe w0 nfp f3; have keep4 : ∀ b o, s3.heap.get? b = some o → (pushCells (s3.heap.push { cls := .type "dict", data := .dict #[] }) scope.names).get? b = some o := fun b o e => pushCells_keeps _ _ _ _ (Heap.get?_push_of_some _ e)
  generalize hs4 : ({ s3 with heap := pushCells (s3.heap.push { cls := .type "dict", data := .dict #[] }) scope.names } : Shared) = s4 at I4 ⊢
  have st4 : tn 0 s4.heap := T.keep _ _ _ st3 fun b _ o e => by (rw [← hs4]; exact keep4 b o e)
  have stat : ∀ {σ' : L2.St} {H' : Hp} {s' : Shared}, Inv (X.blk s3 H3 scope ce fp) [] σ' H' s' → (∀ b ∈ fp, H' b = none) → ∀ b ∈ fp, FpOk (X.blk s3 H3 scope ce fp) [] H' b := fun {σ' H' s'} I' hn b hb =>
    ⟨hn b hb, (I'.ok.exf b hb).1, I'.ok.exfs b hb, .inl hb, fun x c e => (I'.ok.exf b hb).2 x c e, fun p hp => absurd (show p ∈ ([] : List (Addr × Obj)) ++ [] from hp) (by simp)⟩
  have loop : codeAny (model X.prog X.w) X.A (.compLoop (.ListComp elt [⟨tg, iter, ifs, 0⟩] scope pos) 0 (.ref it) (.ref D) ce) (compPost (model X.prog X.w) X.A X.xe use Qf (.ref D) s3.heap.objs.size) s4 := by
    refine compLoop_any (fun n s' => ∃ i H', Inv (X.blk s3 H3 scope ce fp) [] (wipe σ (own.map (·.2))) H' s' ∧ tn i s'.heap ∧ (∀ b ∈ fp, H' b = none) ∧ W i n H') ?_ m0 ⟨0, H3, I4, st4, nfp, w0⟩
    rintro n s5 ⟨i, H5, I5, st5, n5, w5⟩
    rcases turn i n H5 w5 with ⟨stop, qq⟩ | ⟨go, Nx, hNx, step⟩
    · have td := T.done (X.blk s3 H3 scope ce fp) rfl rfl rfl hc i [] s5 _ H5 (fun _ _ => False) I5 (stat I5 n5) st5 stop
      refine thnF td fun r s6 ⟨hr, I6⟩ => ?_
      subst hr; have I7 : Inv X pins σ H5 s6 := I3.call' (ch := fp) I6.os I6.base I6.hok I6.bare fun b hb => ⟨(f3 b hb).1.2.2.2.1, (f3 b hb).1.2.1, (f3 b hb).1.2.2.2.2.1, (f3 b hb).1.2.2.2.2.2⟩
      have nC : H5 s3.heap.objs.size = none := by
        have z : H5 ce.locals = none := I6.free
        rw [cL] at z; exact z
      obtain ⟨m, hn, _⟩ := I6.loc; have hn : s6.heap.Ns ce.locals m := hn; rw [cL] at hn; exact hRR D s3.heap.objs.size s6 m H5 I7 qq hn (I3.fpOk (Nat.le_refl _) nC)
    · have ti := T.item (X.blk s3 H3 scope ce fp) rfl rfl rfl hc i [] s5 _ H5 (fun _ _ => False) I5 (stat I5 n5) st5 go
      refine thnF ti fun r s6 ⟨u, hr, h6⟩ => ?_
      subst hr; refine thnF h6 fun _ s7 ⟨x, H7, I7, r7, y7, st7, n7⟩ => ?_
      have I7' := I7.pinned (stat I7 n7) (T.obj _ _ st7); refine thnF (pg.run _ s7 _ H7 x u _ I7' r7 (step x H7 y7)) fun _ s8 ⟨σ8, H8, I8, hw8, q8⟩ => ?_
      refine thnF (pt.run _ s8 σ8 H8 _ I8 q8) fun b s9 ⟨H9, I9, q9⟩ => ?_
      have fin : ∀ {s' : Shared} {H' : Hp}, Inv (X.blk s3 H3 scope ce fp) ([] ++ pinsAt fp s7.heap) σ8 H' s' → Nx H' → ∃ m, m < n ∧ ∃ i H', Inv (X.blk s3 H3 scope ce fp) [] (wipe σ (own.map (·.2))) H' s' ∧ tn i s'.heap ∧ (∀ b ∈ fp, H' b = none) ∧ W i m H' := fun {s' H'} I' nx => by
        obtain ⟨m', hm, w'⟩ := hNx H' nx
        have pin' : ∀ b ∈ fp, ∀ o, s7.heap.get? b = some o → s'.heap.get? b = some o ∧ H' b = none := fun b hb o e => let z := I'.pin (b, o) (List.mem_append_right _ (List.mem_append_right _ (mem_pinsAt hb e))); ⟨z.1, z.2.1⟩
        have hl : (wipe σ (own.map (·.2))).length = σ8.length := by (rw [← hw8, wipe_length])
        refine ⟨m', hm, i + 1, H', (I'.unpinned (pins := [])).weak hl (fun j v e => ?_), T.keep _ _ _ st7 fun b hb o e => (pin' b hb o e).1, fun b hb => ?_, w'⟩
        · rw [← hw8] at e; exact (wipe_some e).1
        · obtain ⟨o, e, _⟩ := T.obj _ _ st7 b hb; exact (pin' b hb o e).2
      cases b with
      | false => simp only [Bool.false_eq_true, if_false] at q9 ⊢; exact fin I9 q9
      | true =>
        simp only [if_true] at q9 ⊢; refine thnF (pe.run _ s9 σ8 H9 _ I9 q9) fun z s10 ⟨yv, H10, I10, r10, acc, hD10, hz10, nx⟩ => ?_
        exact app_ok (X := X.blk s3 H3 scope ce fp) I10 hD10 hz10 r10 fun s11 I11 => fin I11 nx
  exact codeAny_compStart_list loop (T.self X.A 0 _ _ _ st4 loop)
/-- a comprehension whose tests see the names around it -/
def tLcI (wi : TI) (g : TG) (tt : L2.St → TT) (te : TE) (vs : List Nat) : TE := fun σ H Q => tLc wi g (tt σ) te vs σ H Q
theorem pe_lcI {elt tg iter : Expr} {ifs : List Expr} {scope : Scope} {own : List (Str × Nat)} {pos : Pos} {wi : TI} {g : TG} {tt : L2.St → TT} {te : TE} (hc : X.calm = true) (hN : X.N.Nodup) (hi : PI X tg iter wi) (ok : BlkOk X.N X.env.scope scope own)
    (hg : ∀ (s : Shared) (H : Hp) (C : Addr) (cl : List (Str × Addr)) (fp : List Addr), PG (X.blk s H scope (compEnvC scope cl C X.env) fp) tg g)
    (ht : ∀ (σ : L2.St) (s : Shared) (H : Hp) (C : Addr) (cl : List (Str × Addr)) (fp : List Addr), Maker X σ H s fp → PTs (X.blk s H scope (compEnvC scope cl C X.env) fp) ifs (tt σ))
    (he : ∀ (s : Shared) (H : Hp) (C : Addr) (cl : List (Str × Addr)) (fp : List Addr), PE (X.blk s H scope (compEnvC scope cl C X.env) fp) elt te) (hs : ∀ x, foldedSetIterable iter X.env x = pure x := by intro _; rfl) :
    PE X (.ListComp elt [⟨tg, iter, ifs, 0⟩] scope pos) (tLcI wi g tt te (own.map (·.2))) := by
  refine ⟨fun pins s σ H Q I h => ?_⟩
  rw [eval_ListComp]
  refine lc_told hc hN I hi ok hg (ht σ) he hs h fun D C s' m H' I' q hn ⟨f0, f1, f2, f3, f4, f5⟩ => ⟨m, hn, fun h'' sb => ?_⟩
  exact ⟨.ref D, H', I'.turned (t' := s'.toks) (fun b o hb e => (sb.2 b hb).trans e) f0 f1 f3 f4 f5, rfl, q⟩
/-- in the block: g(e), e a function that was made in the def around -/
def tCallB (σ0 : L2.St) (te : TE) (IL : Hp → Addr → Prop) (TT : (XK → Hp → VK → Prop) → Hp → VK → Prop) (t : XK → TE) : TE := fun σ H Q => te σ H fun v H1 => ∃ f, v = .ref f ∧ IL H1 f ∧ TT (fun E H' Q' => t E σ0 H' Q') H1 Q
theorem pe_callB_ {TT : (XK → Hp → VK → Prop) → Hp → VK → Prop} {x a : Str} {g : Addr} {k : Nat} {pg : Arguments} {bg : List Stmt} {sg scope bsc : Scope} {dV kV doc pm cdv ct oc : Value} {an od : Option Addr} {osl : Array (Option Value)} {Ng : List Str} {te : TE} {e : Expr}
    {params : Arguments} {body : Expr} {t : XK → TE} {p pos : Pos} {σ0 : L2.St} {s0 : Shared} {H0 : Hp} {ce : Env} {fp : List Addr} (M : Maker X σ0 H0 s0 fp) (hg : Gl (X.blk s0 H0 bsc ce fp) x) (hm : X.mg x = some (.ref g)) (hk : PySem.W.keepIn X.K (.ref g) = true)
    (lk : X.K.lookup g = some ⟨oc, od, .func (PySem.W.fnOf x x pg bg sg dV kV doc pm an cdv ct), osl⟩) (hcg : PySem.W.codeIn X.K cdv x = true) (hb : L2.Binds X.K (PySem.W.fnOf x x pg bg sg dV kV doc pm an cdv ct) [a] []) (Sg : FnScope Ng [a] sg) (hNg : Ng[0]? = some a) (h0 : ∀ f : Addr, (L2.start Ng [V.ref f])[0]? = some (some (V.ref f))) (hva : Vis sg a)
    (hG : GivesV X (k + 1) Ng x sg g cdv bg a TT) (hr : Room (k + 2) X.A) (L : LamS X.env.scope scope) (he : PE (X.blk s0 H0 bsc ce fp) e te)
    (hbind : ∀ (q : Str) (cl : List (Str × Addr)) (pm cv ctv : Value), bindArgs (PySem.W.kla_fn "<lambda>" q params body scope cl pm cv ctv) ⟨[], []⟩ = pure [])
    (hbody : ∀ (A : Around) (outer : List Env) (s : Shared) (H : Hp) (E : XK) (f c' : Addr), Room k (A.deeper (lamEnv X scope s.heap.objs.size f c')) → PE (bodyCx X A outer s H E scope f c') body (t E))
    (hst : starEach [e] ce = (false, eval e ce) :: starEach [] ce := by rfl)
    (hdb : (x == ("__debug__" : Str)) = false := by decide) (hd : (a == ("__debug__" : Str)) = false := by decide) (hcd : (a == ("__classdict__" : Str)) = false := by decide) :
    PE (X.blk s0 H0 bsc ce fp) (.Call (.Name x p) [e] [] pos) (tCallB σ0 te (IsLam X params body scope) TT t) := by
  obtain ⟨pins0, I0, hfp⟩ := M
  refine ⟨fun pz z σz Hz Q Iz h => ?_⟩
  refine wpAny_Call_Name_kw (ld_glob Iz hg hm (PySem.W.callWith_K (h₀ := X.base) Iz.ok.mod.kin hk ?_ hst (by rfl)) hdb)
  show wpAny _ _ (spliced (backTo pos (starEach [e] ce))) _ _ z
  rw [hst]
  show wpAny _ _ (spliced ((false, eval e ce) :: backTo pos (starEach [] ce))) _ _ z
  refine Calls.spliced_cons (thn (he.run pz z σz Hz _ Iz h) fun u y hu => ?_)
  obtain ⟨v, H1, I1, rv, f, rfl, hL, hTT⟩ := hu
  obtain rfl : u = Value.ref f := rv
  refine Calls.spliced_nil ⟨I1.kIn, ?_⟩
  have J : Inv X pins0 σ0 H1 y := I0.call' (ch := fp) I1.os I1.base I1.hok I1.bare fun b hb => ⟨(hfp b hb).2.2.2.1, (hfp b hb).2.1, (hfp b hb).2.2.2.2.1, (hfp b hb).2.2.2.2.2⟩
  have run : codeAny (model X.prog X.w) X.A (.call (.ref g) ⟨[.ref f], []⟩) (CR CX0 X.stack X.prog X.w H1 y Q E0) y := by
    refine run_ofS (N := Ng) (ps := [a]) (us := [.ref f]) (vs := [.ref f]) lk hcg Sg hr J.env0 (hb y [.ref f] J.kIn rfl) (.cons rfl .nil) rfl fun hr' => ?_
    obtain ⟨t', ht', hq'⟩ := hG f y H1 Q (fun E H' Q' => t E σ0 H' Q') (fun HZ => IsLam X params body scope HZ f) hr' (fun W pn xe E p1 p2 tk hW => actV (i := 0) (h0 f) J L hbind tk hW hr' (fun A outer s H c hr2 => hbody A outer s H E f c hr2) hNg hva hd hcd) hL hTT
    exact ⟨t', ht'.nox, hq'⟩
  refine wpAny_call (codeAny_mono run fun r y2 hq => ?_)
  cases r with
  | error e => exact (show False from hq).elim
  | ok fl =>
    cases fl with
    | ret u => exact I1.after hq
    | next => exact False.elim hq
    | brk => exact False.elim hq
    | cont => exact False.elim hq
end
end Rl

/-! What is kept while dice roll and tables of code objects grow -/
namespace Rd
open PySem PySem.Spec PyProof.Rows L2 Tq Dn Dc Ox LamX
/-- all but the dice and the tables stays -/
def KeepT (p : Addr) (H H' : Hp) : Prop := ∀ b o, b ≠ p → H b = some o → (∀ ps, o ≠ .tbl ps) → H' b = some o
theorem KeepT.refl {p : Addr} {H : Hp} : KeepT p H H := fun _ _ _ h _ => h
theorem KeepT.trans {p : Addr} {H H1 H2 : Hp} (a : KeepT p H H1) (b : KeepT p H1 H2) : KeepT p H H2 := fun c o n h t => b c o n (a c o n h t) t
theorem kt_same {p : Addr} {H H' : Hp} (s : Same H H') : KeepT p H H' := fun b o _ h _ => s b o h
theorem kt_keep {p : Addr} {H H' : Hp} (s : Keep p H H') : KeepT p H H' := fun b o n h _ => s b o n h
theorem kt_ext {p : Addr} {H H' : Hp} (s : ExtN H H') : KeepT p H H' := fun b o _ h t => s b o h t
open Classical in
/-- the heap without the dice and the tables -/
noncomputable def hidA (p : Addr) (H : Hp) : Hp := fun b => if b = p ∨ ∃ ps, H b = some (.tbl ps) then none else H b
theorem hidA_at {p a : Addr} {H : Hp} {o : HO} (h : H a = some o) (n : a ≠ p) (t : ∀ ps, o ≠ .tbl ps) : hidA p H a = some o := by
  unfold hidA
  rw [if_neg, h]
  rintro (e | ⟨ps, e⟩)
  · exact n e
  · rw [h] at e; cases e; exact t _ rfl
theorem hidA_same {p : Addr} {H H' : Hp} (k : KeepT p H H') : Same (hidA p H) H' := fun b o h => by
  unfold hidA at h
  by_cases e : b = p ∨ ∃ ps, H b = some (.tbl ps)
  · rw [if_pos e] at h; cases h
  · rw [if_neg e] at h
    exact k b o (fun z => e (.inl z)) h fun ps z => e (.inr ⟨ps, by rw [h, z]⟩)
section
variable {K : PySem.W.Frag} {p : Addr} {H H' : Hp}
theorem not_p {a : Addr} {o : HO} (d : DiceAt H p) (h : H a = some o) (n : ∀ xs, o ≠ .lst xs) : a ≠ p := fun e => by
  obtain ⟨x, y, z, hp, _⟩ := d
  rw [e, hp] at h; cases h; exact n _ rfl
theorem sqT_kt {a : Addr} {xs : List V} (h : SqT K H a xs) (d : DiceAt H p) (k : KeepT p H H') : SqT K H' a xs := by
  refine sqT_up ?_ (hidA_same k)
  rcases h with (h | ⟨o, h⟩) | h
  · exact .inl (.inl (hidA_at h (not_p d h fun _ e => by cases e) fun _ e => by cases e))
  · exact .inl (.inr ⟨o, hidA_at h (not_p d h fun _ e => by cases e) fun _ e => by cases e⟩)
  · exact .inr h
theorem LinesAt.kt {L : Addr} {rs : RowsL} (h : LinesAt K H L rs) (d : DiceAt H p) (k : KeepT p H H') : LinesAt K H' L rs := ⟨sqT_kt h.1 d k, fun r hr => sqT_kt (h.2 r hr) d k⟩
theorem RdAt.kt {C r : Addr} {rs : RowsL} (h : RdAt K C H r rs) (d : DiceAt H p) (k : KeepT p H H') : RdAt K C H' r rs := by
  obtain ⟨dx, L, T, ps, e, a, b, qs, e2, h2, h3⟩ := h
  exact ⟨dx, L, T, ps, k _ _ (not_p d e (fun _ z => by cases z)) e (fun _ z => by cases z), a.kt d k, b, qs, e2, sqT_kt h2 d k, fun x hx => sqT_kt (h3 x hx) d k⟩
theorem dice_same2 (d : DiceAt H p) (s : Same H H') : DiceAt H' p := let ⟨a, b, c, e, h⟩ := d; ⟨a, b, c, s _ _ e, h⟩
theorem dice_ext (d : DiceAt H p) (s : ExtN H H') : DiceAt H' p := let ⟨a, b, c, e, h⟩ := d; ⟨a, b, c, s _ _ e (fun _ z => by cases z), h⟩
theorem tabs_keep {T : List (Addr × Str)} (t : Tabs T H) (d : DiceAt H p) (k : Keep p H H') : Tabs T H' := fun x hx => by
  obtain ⟨ps, h1, h2, h3⟩ := t x hx
  refine ⟨ps, k _ _ (not_p d h1 fun _ z => by cases z) h1, h2, fun pos cv hc => ?_⟩
  obtain ⟨c, e, hcode⟩ := h3 pos cv hc
  exact ⟨c, e, k _ _ (not_p d hcode fun xs z => by unfold CodeO at z; cases z) hcode⟩
/-- a list of ours that is no dice -/
theorem lst_kt {a : Addr} {xs : List V} (h : H a = some (.lst xs)) (n : a ≠ p) (k : KeepT p H H') : H' a = some (.lst xs) := k _ _ n h fun _ z => by cases z
end
end Rd

/-! a def whose code object is known -/
namespace Rd
open PySem PySem.Spec PyProof.Rows L2 Tq Dn Dc Ox LamX
theorem okGc {P : Program} {w : World} {K : PySem.W.Frag} {mg : Str → Option Value} {base : Heap} {x qual : Str} {st : Stmt} {f : Addr} {fd : FuncData} {N ps : List Str} {k : Nat} {sp : Sp} {cc : Value} (hcc : fd.code = cc) (F : Fun K x qual st f fd) (S : FnScope N ps (defScope st)) (len : ∀ vs H Q E, sp vs H Q E → vs.length = ps.length)
    (hbody : ∀ (A : Around) (outer : List Env) (s : Shared) (H : Hp) (vs : List V) (Q : VK) (E : XK), A.guards = some [] → Room k (A.deeper (envOfC qual (defScope st) s.heap.objs.size f cc)) → sp vs H Q E →
      ∃ t, PSs (cxOf CX0 P w K mg base N qual (defScope st) f cc A outer s H E).nox (defBody st) t ∧ t { nx := fun _ H' => Q .non H', rt := Q } (start N vs) H) : FnG P w K mg base (k + 1) f fd ps sp := by
  obtain ⟨oc, od, kV, doc, pm, an, cdv, ct, osl, rfl, lk, hcd⟩ := F.ex; obtain rfl : cdv = cc := hcc; refine ⟨len, fun A outer s H args us vs Q E hgd hr e0 hb r hsp => ?_⟩; have hl := len _ _ _ _ hsp
  have KX : K.In s.heap := e0.mod.kin.keeps fun b o e => (e0.bs b o e).1; have lim : s.heap.NoLimit := e0.mod.nolimit.keeps fun b o e => (e0.bs b o e).1
  have hkind : ∀ y ∈ ps.zip us, (defScope st).names.lookup y.1 = some .local ∨ ((defScope st).names.lookup y.1 = some .cell ∧ ((cellsFrom (s.heap.objs.size + 1) (defScope st).names []).lookup y.1).isSome = true) := fun ⟨n, v⟩ hy => (S.par n (List.of_mem_zip hy).1).elim .inl fun q => .inr ⟨q, PySem.W.cellsFrom_some _ _ _ (.inl q)⟩
  refine codeAny_call_function hr.depth (KX _ _ lk) rfl S.co S.gen rfl (PySem.W.codeRec_of KX hcd) (hb _ _ _ _ ?_); refine wpAny_newFunctionEnv_cells S.kind hkind fun env he s1 x => ?_
  subst he; refine ⟨lim.keeps x.toInCall.keep, codeAny_func ?_⟩; obtain ⟨t, ht, hq⟩ := hbody A outer s H vs Q E hgd (hr.deeper _) hsp
  have I : Inv (cxOf CX0 P w K mg base N qual (defScope st) f cdv A outer s H E) [] (start N vs) H s1 := inv_start S hr.hd e0 hl r x
  refine wpAny_mono (ht.nox.run [] s1 (start N vs) H _ I hq) (fun fl s' hs => ?_) fun e s' hs => hs
  have fin : ∀ {σ' : L2.St} {H' : Hp} {v : V} {u : Value}, Inv (cxOf CX0 P w K mg base N qual (defScope st) f cdv A outer s H E) [] σ' H' s' → RelV v u → Q v H' → CE outer P w H s Q u s' := fun {σ' H' v u} J rv q => ⟨v, H', J.os, J.bare, J.base, J.hok, rv, q⟩
  cases fl with
  | ret u => obtain ⟨v, σ', H', J, rv, q⟩ := hs; exact fin J rv q
  | next => obtain ⟨σ', H', J, q⟩ := hs; exact fin (v := V.non) (u := Value.none) J rfl q
  | brk => obtain ⟨_, _, _, q⟩ := hs; exact False.elim q
  | cont => obtain ⟨_, _, _, q⟩ := hs; exact False.elim q
end Rd

/-! Drawn lines with one more or less make a reader -/
namespace Rd
open PySem PySem.Spec PyProof.Rows L2 Tq Dn Dc Ox LamX
def Drawn (rs : RowsL) : Prop := ∀ r ∈ rs, r.2.drawn rs.length
theorem kt_to {p a : Addr} {H H' : Hp} {o : HO} (n : H a = none) (k : KeepT p H H') : KeepT p H (upd H' a o) := fun b u e h t => by
  rw [upd_ne (fun z => by rw [z, n] at h; cases h)]; exact k b u e h t
theorem tabs_list {T : List (Addr × Str)} {H : Hp} {a : Addr} {xs ys : List V} (t : Tabs T H) (h : H a = some (.lst xs)) : Tabs T (upd H a (.lst ys)) := fun x hx => by
  obtain ⟨qs, z1, z2, z3⟩ := t x hx
  refine ⟨qs, by rw [upd_ne (fun z => by rw [z, h] at z1; cases z1)]; exact z1, z2, fun pos cv hc => ?_⟩
  obtain ⟨co, z4, z5⟩ := z3 pos cv hc
  exact ⟨co, z4, by rw [upd_ne (fun z => by rw [z, h] at z5; unfold CodeO at z5; cases z5)]; exact z5⟩
theorem numb_ok : ∀ n : Nat, n < 18 → PyData.strOk (toString (n : Int)) = true ∧ (n : Int).natAbs.log2 < 1920 := by decide +kernel
theorem mod_no2 {d : PyData} (h : ∀ ds, d ≠ .tuple ds) : Mod_ d := fun ds e => absurd e (h ds)
def smB (ds : List PyData) : Bool := ds.all fun d => match d with
  | .str s => decide (s.cps.size ≤ 100)
  | _ => true
theorem mod_tup2 {ds : List PyData} (h : smB ds = true) (l : ds.length ≤ 100) : Mod_ (.tuple ds) := fun _ e => by
  cases e
  refine ⟨fun s hs => ?_, l⟩
  have h2 : s.cps.size ≤ 100 := of_decide_eq_true (List.all_eq_true.mp h _ hs)
  rw [sizeLine_eq]; omega
theorem wr_by {ds : List PyData} {m : Int} (h : ds.length < 2 ∨ lineT ds m = false) : lineD (.tuple ds) m = false := by
  show (if ds.length < 2 then false else lineT ds m) = false
  rcases h with h | h
  · rw [if_pos h]
  · split
    · rfl
    · exact h
theorem wr_go {n : Nat} : lineD (.tuple [.str "go", .int ((n : Int) + 2)]) (n + 1 : Nat) = false := wr_by (.inr (by rw [lineT_str, if_pos rfl]; simp [numD]))
theorem wr_one {m : Int} : lineD (.tuple [.str "go"]) m = false := wr_by (.inl (by simp))
theorem wr_read {m : Int} : lineD (.tuple [.str "read", .str "item"]) m = false := wr_by (.inr (by rw [lineT_str]; simp [ne3, ne5]))
theorem wr_if {m : Int} : lineD (.tuple [.str "if", .str "item", .str "live", .bool true]) m = false := wr_by (.inr (by rw [lineT_str]; simp [numD, ne1]))
theorem wr_gob {m : Int} : lineD (.tuple [.str "go", .bool true]) m = false := wr_by (.inr (by rw [lineT_str]; simp [numD]))
theorem goInt_shaped {i : Int} : SeqAt.shaped (.tuple [.str "go", .int i]) = true := by
  have w : PyData.strOk "go" = true := by decide +kernel
  show (PyData.canLay0 (.tuple [.str "go", .int i]) && decide (PyData.depth (.tuple [.str "go", .int i]) ≤ 64)) = true
  simp [PyData.canLay0, PyData.canLayAll0, PyData.depth, PyData.depthAll, w]
end Rd

/-! Values that are no lines -/
namespace Rd
open PySem PySem.Spec PyProof.Rows L2 Tq Dn Dc Ox LamX
abbrev sOd : Stmt := top 53
/-- data that make no line, whatever the number of lines -/
def badB (ds : List PyData) : Bool :=
  let nn : PyData → Bool := fun d => match d with
    | .int i => decide (i < 0)
    | _ => true
  match ds with
  | [] => true
  | [_] => true
  | .str x :: r => if x = "go" then !decide (r.length = 1) || nn (r.getD 0 .none) else if x = "if" then !decide (r.length = 3) || !((r.take 2).all nameD) || nn (r.getD 2 .none)
      else !(decide (("read" : Str) = x) || decide (("look" : Str) = x)) || !decide (r.length = 2) || !(r.all nameD)
  | .int _ :: _ => true
  | .none :: _ => true
  | .tuple _ :: _ => true
  | _ => false
theorem nn_num {d : PyData} {m : Int} (h : (match d with | .int i => decide (i < 0) | _ => true) = true) : numD d m = false := by
  cases d with
  | int i =>
    have : i < 0 := of_decide_eq_true h
    show (decide (0 ≤ i) && decide (i ≤ m)) = false
    rw [decide_eq_false (by omega)]; rfl
  | _ => rfl
theorem badB_ok {ds : List PyData} {m : Int} (h : badB ds = true) : lineD (.tuple ds) m = false := by
  match ds, h with
  | [], _ => exact wr_by (.inl (by simp))
  | [_], _ => exact wr_by (.inl (by simp))
  | .str x :: y :: r, h =>
    refine wr_by (.inr ?_)
    rw [lineT_str]
    simp only [badB] at h
    split
    · rename_i hx
      rw [if_pos hx] at h
      rcases Bool.or_eq_true_iff.mp h with h | h
      · rw [Bool.not_eq_true'] at h; rw [h]; rfl
      · rw [nn_num h, Bool.and_false]
    · rename_i hx
      rw [if_neg hx] at h
      split
      · rename_i hy
        rw [if_pos hy] at h
        rcases Bool.or_eq_true_iff.mp h with h | h
        · rcases Bool.or_eq_true_iff.mp h with h | h
          · rw [Bool.not_eq_true'] at h; rw [h]; rfl
          · rw [Bool.not_eq_true'] at h; rw [h, Bool.false_and, Bool.and_false]
        · rw [nn_num h, Bool.and_false, Bool.and_false]
      · rename_i hy
        rw [if_neg hy] at h
        rcases Bool.or_eq_true_iff.mp h with h | h
        · rcases Bool.or_eq_true_iff.mp h with h | h
          · rw [Bool.not_eq_true'] at h; rw [h]; rfl
          · rw [Bool.not_eq_true'] at h; rw [h, Bool.false_and, Bool.and_false]
        · rw [Bool.not_eq_true'] at h; rw [h, Bool.and_false, Bool.and_false]
  | .int i :: y :: r, _ => exact wr_by (.inr (by simp [lineT, PyData.eqv]))
  | .none :: y :: r, _ => exact wr_by (.inr (by simp [lineT, PyData.eqv]))
  | .tuple z :: y :: r, _ => exact wr_by (.inr (by simp [lineT, PyData.eqv]))
theorem bad_go {i m : Int} (h : i < 0 ∨ m < i) : lineD (.tuple [.str "go", .int i]) m = false := by
  refine wr_by (.inr ?_)
  rw [lineT_str, if_pos rfl]
  show (_ && (decide (0 ≤ i) && decide (i ≤ m))) = false
  rcases h with h | h
  · rw [decide_eq_false (by omega : ¬ 0 ≤ i), Bool.false_and, Bool.and_false]
  · rw [decide_eq_false (by omega : ¬ i ≤ m), Bool.and_false, Bool.and_false]
theorem bad_if {m : Nat} : lineD (.tuple [.str "if", .str "item", .str "live", .int ((m : Int) + 1)]) m = false := by
  refine wr_by (.inr ?_)
  rw [lineT_str, if_neg ne1, if_pos rfl]
  show (_ && (_ && (decide (0 ≤ (m : Int) + 1) && decide ((m : Int) + 1 ≤ (m : Int))))) = false
  rw [decide_eq_false (by omega : ¬ (m : Int) + 1 ≤ (m : Int)), Bool.and_false, Bool.and_false, Bool.and_false]
theorem ifInt_shaped {i : Int} : SeqAt.shaped (.tuple [.str "if", .str "item", .str "live", .int i]) = true := by
  have w1 : PyData.strOk "if" = true := by decide +kernel
  have w2 : PyData.strOk "item" = true := by decide +kernel
  have w3 : PyData.strOk "live" = true := by decide +kernel
  show (PyData.canLay0 (.tuple [.str "if", .str "item", .str "live", .int i]) && decide (PyData.depth (.tuple [.str "if", .str "item", .str "live", .int i]) ≤ 64)) = true
  simp [PyData.canLay0, PyData.canLayAll0, PyData.depth, PyData.depthAll, w1, w2, w3]
/-- texts are short -/
theorem smB_ok {i : Int} : smB [.str "go", .int i] = true := by
  show (decide (("go" : Str).cps.size ≤ 100) && (true && true)) = true
  decide +kernel
theorem smB_ok2 {i : Int} : smB [.str "if", .str "item", .str "live", .int i] = true := by
  show (decide (("if" : Str).cps.size ≤ 100) && (decide (("item" : Str).cps.size ≤ 100) && (decide (("live" : Str).cps.size ≤ 100) && (true && true)))) = true
  decide +kernel
def spOdd (K : PySem.W.Frag) : Sp := fun vs H Q _ => ∃ (p : Addr) (m : Nat), vs = [.ref p, .int m] ∧ m ≤ 100 ∧ DiceAt H p ∧ ∀ H' v, Keep p H H' → DiceAt H' p → Ans K H' m v false → Q v H'
theorem scOd : FnScope ["_law_dice_here", "_law_size", "_law_some"] ["_law_dice_here", "_law_size"] (defScope sOd) := ⟨rfl, rfl, rfl, by decide +kernel, rfl, by decide +kernel, by decide +kernel⟩
section
variable {P : Program} {w : World} {K : PySem.W.Frag} {mg : Str → Option Value} {base : Heap}
theorem ok_od {f : Addr} {fd : FuncData} (F : Fun K "_law_odd" "_law_odd" sOd f fd) (hO : Has P w K mg base "_law_one_of" 2 ["_law_dice_here", "_law_items"] spOne) : FnOk P w K mg base CX0 3 f fd ["_law_dice_here", "_law_size"] (spOdd K) := by
  obtain ⟨g, gd, mO, kO, bO, GO⟩ := hO
  refine F.ok scOd (fun vs H Q E h => ?_) (fun cdv A outer s H0 vs Q E hr h => ?_)
  · obtain ⟨p, m, rfl, _⟩ := h; rfl
  · obtain ⟨p, m, rfl, hm, d0, k⟩ := h
    refine ⟨_, pss_cons (ps_set (i := 2) scOd.nd rfl (Or.inl rfl) (pe_lst (pa_cons pe_non (pa_cons pe_int (pa_cons pe_bl (pa_cons pe_str (pa_cons pe_str (pa_cons (pe_tup pa_nil) (pa_cons (pe_tup (pa_cons pe_str pa_nil)) (pa_cons (pe_tup (pa_cons pe_str (pa_cons pe_str pa_nil))) (pa_cons (pe_tup (pa_cons pe_str (pa_cons pe_str (pa_cons pe_str (pa_cons pe_str pa_nil))))) (pa_cons (pe_tup (pa_cons pe_str pa_nil)) pa_nil))))))))))))
      (pss_cons (ps_set (i := 2) scOd.nd rfl (Or.inl rfl) (pe_op op_cat (pv 2) (pe_lst (pa_cons (pe_lst (pa_cons pe_str (pa_cons pe_str (pa_cons pe_str pa_nil)))) (pa_cons (pe_tup (pa_cons pe_str (pa_cons pe_str (pa_cons pe_str pa_nil)))) (pa_cons (pe_tup (pa_cons pe_str (pa_cons pe_str pa_nil))) (pa_cons (pe_tup (pa_cons pe_str (pa_cons pe_str (pa_cons pe_str (pa_cons pe_int pa_nil))))) pa_nil)))))))
      (pss_cons (ps_set (i := 2) scOd.nd rfl (Or.inl rfl) (pe_op op_cat (pv 2) (pe_lst (pa_cons (pe_tup (pa_cons pe_str (pa_cons pe_str (pa_cons pe_str pa_nil)))) (pa_cons (pe_tup (pa_cons pe_str (pa_cons pe_str (pa_cons pe_str (pa_cons (pe_op op_add (pv 1) pe_int) pa_nil))))) (pa_cons (pe_tup (pa_cons pe_str (pa_cons pe_str (pa_cons pe_str (pa_cons (pe_un un_neg pe_int) pa_nil))))) (pa_cons (pe_tup (pa_cons pe_str (pa_cons pe_int (pa_cons pe_int pa_nil)))) pa_nil)))))))
      (pss_cons (ps_set (i := 2) scOd.nd rfl (Or.inl rfl) (pe_op op_cat (pv 2) (pe_lst (pa_cons (pe_tup (pa_cons pe_str (pa_cons pe_str (pa_cons pe_str (pa_cons pe_bl pa_nil))))) (pa_cons (pe_tup (pa_cons pe_str (pa_cons pe_str (pa_cons pe_str (pa_cons pe_non pa_nil))))) (pa_cons (pe_tup (pa_cons pe_str (pa_cons pe_str (pa_cons pe_str (pa_cons pe_int (pa_cons pe_int pa_nil)))))) (pa_cons (pe_tup (pa_cons pe_int (pa_cons pe_int pa_nil))) pa_nil)))))))
      (pss_cons (ps_set (i := 2) scOd.nd rfl (Or.inl rfl) (pe_op op_cat (pv 2) (pe_lst (pa_cons (pe_tup (pa_cons pe_str (pa_cons (pe_op op_add (pv 1) pe_int) pa_nil))) (pa_cons (pe_tup (pa_cons pe_str (pa_cons (pe_un un_neg pe_int) pa_nil))) (pa_cons (pe_tup (pa_cons pe_str (pa_cons pe_bl pa_nil))) (pa_cons (pe_tup (pa_cons pe_str (pa_cons pe_str pa_nil))) (pa_cons (pe_tup (pa_cons pe_str (pa_cons pe_non pa_nil))) (pa_cons (pe_tup (pa_cons pe_str (pa_cons (pe_tup (pa_cons pe_int pa_nil)) pa_nil))) (pa_cons (pe_disp (pps_cons pe_str pe_int pps_nil) rfl rfl (by simp) (by decide)) pa_nil))))))))))
      (pss_cons (ps_set (i := 2) scOd.nd rfl (Or.inl rfl) (pe_op op_cat (pv 2) (pe_lst (pa_cons (pe_tup (pa_cons pe_str (pa_cons pe_str (pa_cons pe_str pa_nil)))) (pa_cons (pe_tup (pa_cons pe_str (pa_cons pe_str (pa_cons pe_str pa_nil)))) (pa_cons (pe_tup (pa_cons pe_str (pa_cons pe_str (pa_cons pe_str pa_nil)))) pa_nil))))))
      (pss_cons (ps_set (i := 2) scOd.nd rfl (Or.inl rfl) (pe_op op_cat (pv 2) (pe_lst (pa_cons (pe_tup (pa_cons pe_str (pa_cons pe_int (pa_cons pe_str pa_nil)))) (pa_cons (pe_tup (pa_cons pe_str (pa_cons (pe_tup (pa_cons pe_str pa_nil)) (pa_cons pe_str pa_nil)))) (pa_cons (pe_tup (pa_cons pe_str (pa_cons pe_str (pa_cons pe_str (pa_cons pe_int pa_nil))))) (pa_cons (pe_tup (pa_cons pe_str (pa_cons pe_str (pa_cons pe_str pa_nil)))) pa_nil)))))))
      (pss_cons (ps_set (i := 2) scOd.nd rfl (Or.inl rfl) (pe_op op_cat (pv 2) (pe_lst (pa_cons (pe_tup (pa_cons (pe_tup (pa_cons pe_str (pa_cons pe_int pa_nil))) pa_nil)) (pa_cons (pe_tup (pa_cons pe_non (pa_cons pe_str (pa_cons pe_str pa_nil)))) (pa_cons (pe_tup (pa_cons (pe_tup (pa_cons pe_str (pa_cons pe_str (pa_cons pe_str pa_nil)))) pa_nil)) (pa_cons (pe_tup (pa_cons pe_str (pa_cons (pe_op op_pow pe_int pe_int) pa_nil))) pa_nil)))))))
      (pss_cons (ps_set (i := 2) scOd.nd rfl (Or.inl rfl) (pe_op op_cat (pv 2) (pe_lst (pa_cons (pe_tup (pa_cons pe_str (pa_cons (pe_lst pa_nil) (pa_cons pe_dnewK pa_nil)))) (pa_cons (pe_tup (pa_cons pe_str (pa_cons pe_str (pa_cons pe_non pa_nil)))) (pa_cons (pe_tup (pa_cons pe_str (pa_cons pe_str (pa_cons pe_str pa_nil)))) pa_nil))))))
      (pss_one (ps_ret (pe_call GO hr (by rfl) mO kO bO .nil pass0 (pa_cons (pv 0) (pa_cons (pv 2) pa_nil))))))))))))), ?_⟩
    refine ⟨(by show 0 ≤ sizeLine; decide), fun t1 n1 => ?_⟩
    have s1 := same_new (o := HO.tup []) n1
    have h1 : upd H0 t1 (HO.tup []) t1 = some (HO.tup []) := upd_same
    have d1 := dice_same2 d0 s1
    have ne1 := dice_ne d0 n1
    generalize upd H0 t1 (HO.tup []) = H1 at s1 h1 d1 ⊢
    refine ⟨(by show 1 ≤ sizeLine; decide), fun t2 n2 => ?_⟩
    have s2 := same_new (o := HO.tup [V.str "read"]) n2
    have h2 : upd H1 t2 (HO.tup [V.str "read"]) t2 = some (HO.tup [V.str "read"]) := upd_same
    have d2 := dice_same2 d1 s2
    have ne2 := dice_ne d1 n2
    generalize upd H1 t2 (HO.tup [V.str "read"]) = H2 at s2 h2 d2 ⊢
    refine ⟨(by show 2 ≤ sizeLine; decide), fun t3 n3 => ?_⟩
    have s3 := same_new (o := HO.tup [V.str "read", V.str "item"]) n3
    have h3 : upd H2 t3 (HO.tup [V.str "read", V.str "item"]) t3 = some (HO.tup [V.str "read", V.str "item"]) := upd_same
    have d3 := dice_same2 d2 s3
    have ne3 := dice_ne d2 n3
    generalize upd H2 t3 (HO.tup [V.str "read", V.str "item"]) = H3 at s3 h3 d3 ⊢
    refine ⟨(by show 4 ≤ sizeLine; decide), fun t4 n4 => ?_⟩
    have s4 := same_new (o := HO.tup [V.str "read", V.str "item", V.str "live", V.str "x"]) n4
    have h4 : upd H3 t4 (HO.tup [V.str "read", V.str "item", V.str "live", V.str "x"]) t4 = some (HO.tup [V.str "read", V.str "item", V.str "live", V.str "x"]) := upd_same
    have d4 := dice_same2 d3 s4
    have ne4 := dice_ne d3 n4
    generalize upd H3 t4 (HO.tup [V.str "read", V.str "item", V.str "live", V.str "x"]) = H4 at s4 h4 d4 ⊢
    refine ⟨(by show 1 ≤ sizeLine; decide), fun t5 n5 => ?_⟩
    have s5 := same_new (o := HO.tup [V.str "go"]) n5
    have h5 : upd H4 t5 (HO.tup [V.str "go"]) t5 = some (HO.tup [V.str "go"]) := upd_same
    have d5 := dice_same2 d4 s5
    have ne5 := dice_ne d4 n5
    generalize upd H4 t5 (HO.tup [V.str "go"]) = H5 at s5 h5 d5 ⊢
    refine ⟨(by show 10 ≤ sizeLine; decide), fun t6 n6 => ?_⟩
    have s6 := same_new (o := HO.lst [V.non, V.int 0, V.bl true, V.str "read", V.str "", V.ref t1, V.ref t2, V.ref t3, V.ref t4, V.ref t5]) n6
    have h6 : upd H5 t6 (HO.lst [V.non, V.int 0, V.bl true, V.str "read", V.str "", V.ref t1, V.ref t2, V.ref t3, V.ref t4, V.ref t5]) t6 = some (HO.lst [V.non, V.int 0, V.bl true, V.str "read", V.str "", V.ref t1, V.ref t2, V.ref t3, V.ref t4, V.ref t5]) := upd_same
    have d6 := dice_same2 d5 s6
    have ne6 := dice_ne d5 n6
    generalize upd H5 t6 (HO.lst [V.non, V.int 0, V.bl true, V.str "read", V.str "", V.ref t1, V.ref t2, V.ref t3, V.ref t4, V.ref t5]) = H6 at s6 h6 d6 ⊢
    have hA : ∀ v ∈ ([V.non, V.int 0, V.bl true, V.str "read", V.str "", V.ref t1, V.ref t2, V.ref t3, V.ref t4, V.ref t5] : List V), ∀ Hz, Keep p H6 Hz → Ans K Hz m v false := by
      intro v hv Hz kz
      simp only [List.mem_cons, List.not_mem_nil, or_false] at hv
      rcases hv with rfl | rfl | rfl | rfl | rfl | rfl | rfl | rfl | rfl | rfl
      · exact .inl ⟨.none, .non, (by decide +kernel), mod_no2 (fun _ z => by cases z), (rfl).symm⟩
      · exact .inl ⟨.int (0), (.int _), (by decide +kernel), mod_no2 (fun _ z => by cases z), (rfl).symm⟩
      · exact .inl ⟨.bool true, (.bl _), (by decide +kernel), mod_no2 (fun _ z => by cases z), (rfl).symm⟩
      · exact .inl ⟨.str "read", (.str _), (by decide +kernel), mod_no2 (fun _ z => by cases z), (rfl).symm⟩
      · exact .inl ⟨.str "", (.str _), (by decide +kernel), mod_no2 (fun _ z => by cases z), (rfl).symm⟩
      · exact .inl ⟨.tuple [], (.tup (SqT.of (kz _ _ ne1 (((Same.trans s2 (Same.trans s3 (Same.trans s4 (Same.trans s5 s6))))) _ _ h1))) .nil), (by decide +kernel), mod_tup2 (by decide +kernel) (by simp), (badB_ok (by decide +kernel)).symm⟩
      · exact .inl ⟨.tuple [.str "read"], (.tup (SqT.of (kz _ _ ne2 (((Same.trans s3 (Same.trans s4 (Same.trans s5 s6)))) _ _ h2))) (.cons (.str _) .nil)), (by decide +kernel), mod_tup2 (by decide +kernel) (by simp), (badB_ok (by decide +kernel)).symm⟩
      · exact .inl ⟨.tuple [.str "read", .str "item"], (.tup (SqT.of (kz _ _ ne3 (((Same.trans s4 (Same.trans s5 s6))) _ _ h3))) (.cons (.str _) (.cons (.str _) .nil))), (by decide +kernel), mod_tup2 (by decide +kernel) (by simp), (badB_ok (by decide +kernel)).symm⟩
      · exact .inl ⟨.tuple [.str "read", .str "item", .str "live", .str "x"], (.tup (SqT.of (kz _ _ ne4 (((Same.trans s5 s6)) _ _ h4))) (.cons (.str _) (.cons (.str _) (.cons (.str _) (.cons (.str _) .nil))))), (by decide +kernel), mod_tup2 (by decide +kernel) (by simp), (badB_ok (by decide +kernel)).symm⟩
      · exact .inl ⟨.tuple [.str "go"], (.tup (SqT.of (kz _ _ ne5 ((s6) _ _ h5))) (.cons (.str _) .nil)), (by decide +kernel), mod_tup2 (by decide +kernel) (by simp), (badB_ok (by decide +kernel)).symm⟩
    obtain ⟨L0, T0, hT0, lenL0, hA0, neT0, S0, eL0, eT0⟩ : ∃ (L : List V) (T : Addr), H6 T = some (.lst L) ∧ L.length = 10 ∧ (∀ v ∈ L, ∀ Hz, Keep p H6 Hz → Ans K Hz m v false) ∧ T ≠ p ∧ Same H0 H6 ∧ L = [V.non, V.int 0, V.bl true, V.str "read", V.str "", V.ref t1, V.ref t2, V.ref t3, V.ref t4, V.ref t5] ∧ T = t6 := by
      exact ⟨_, _, h6, rfl, hA, ne6, (Same.trans s1 (Same.trans s2 (Same.trans s3 (Same.trans s4 (Same.trans s5 s6))))), rfl, rfl⟩
    rw [← eT0]
    clear hA eL0 eT0
    refine ⟨_, rfl, (by show 3 ≤ sizeLine; decide), fun t7 n7 => ?_⟩
    have s7 := same_new (o := HO.lst [V.str "read", V.str "item", V.str "live"]) n7
    have h7 : upd H6 t7 (HO.lst [V.str "read", V.str "item", V.str "live"]) t7 = some (HO.lst [V.str "read", V.str "item", V.str "live"]) := upd_same
    have d7 := dice_same2 d6 s7
    have ne7 := dice_ne d6 n7
    generalize upd H6 t7 (HO.lst [V.str "read", V.str "item", V.str "live"]) = H7 at s7 h7 d7 ⊢
    refine ⟨(by show 3 ≤ sizeLine; decide), fun t8 n8 => ?_⟩
    have s8 := same_new (o := HO.tup [V.str "Read", V.str "item", V.str "live"]) n8
    have h8 : upd H7 t8 (HO.tup [V.str "Read", V.str "item", V.str "live"]) t8 = some (HO.tup [V.str "Read", V.str "item", V.str "live"]) := upd_same
    have d8 := dice_same2 d7 s8
    have ne8 := dice_ne d7 n8
    generalize upd H7 t8 (HO.tup [V.str "Read", V.str "item", V.str "live"]) = H8 at s8 h8 d8 ⊢
    refine ⟨(by show 2 ≤ sizeLine; decide), fun t9 n9 => ?_⟩
    have s9 := same_new (o := HO.tup [V.str "look", V.str "item"]) n9
    have h9 : upd H8 t9 (HO.tup [V.str "look", V.str "item"]) t9 = some (HO.tup [V.str "look", V.str "item"]) := upd_same
    have d9 := dice_same2 d8 s9
    have ne9 := dice_ne d8 n9
    generalize upd H8 t9 (HO.tup [V.str "look", V.str "item"]) = H9 at s9 h9 d9 ⊢
    refine ⟨(by show 4 ≤ sizeLine; decide), fun t10 n10 => ?_⟩
    have s10 := same_new (o := HO.tup [V.str "look", V.str "item", V.str "live", V.int 0]) n10
    have h10 : upd H9 t10 (HO.tup [V.str "look", V.str "item", V.str "live", V.int 0]) t10 = some (HO.tup [V.str "look", V.str "item", V.str "live", V.int 0]) := upd_same
    have d10 := dice_same2 d9 s10
    have ne10 := dice_ne d9 n10
    generalize upd H9 t10 (HO.tup [V.str "look", V.str "item", V.str "live", V.int 0]) = H10 at s10 h10 d10 ⊢
    refine ⟨(by show 4 ≤ sizeLine; decide), fun t11 n11 => ?_⟩
    have s11 := same_new (o := HO.lst [V.ref t7, V.ref t8, V.ref t9, V.ref t10]) n11
    have h11 : upd H10 t11 (HO.lst [V.ref t7, V.ref t8, V.ref t9, V.ref t10]) t11 = some (HO.lst [V.ref t7, V.ref t8, V.ref t9, V.ref t10]) := upd_same
    have d11 := dice_same2 d10 s11
    have ne11 := dice_ne d10 n11
    generalize upd H10 t11 (HO.lst [V.ref t7, V.ref t8, V.ref t9, V.ref t10]) = H11 at s11 h11 d11 ⊢
    refine ⟨T0, t11, L0, _, rfl, rfl, ((Same.trans s7 (Same.trans s8 (Same.trans s9 (Same.trans s10 s11))))) _ _ hT0, h11, (by rw [lenL0]; show 14 ≤ sizeLine; decide), fun t12 n12 => ?_⟩
    have s12 := same_new (o := HO.lst (L0 ++ [V.ref t7, V.ref t8, V.ref t9, V.ref t10])) n12
    have h12 : upd H11 t12 (HO.lst (L0 ++ [V.ref t7, V.ref t8, V.ref t9, V.ref t10])) t12 = some (HO.lst (L0 ++ [V.ref t7, V.ref t8, V.ref t9, V.ref t10])) := upd_same
    have d12 := dice_same2 d11 s12
    have ne12 := dice_ne d11 n12
    generalize upd H11 t12 (HO.lst (L0 ++ [V.ref t7, V.ref t8, V.ref t9, V.ref t10])) = H12 at s12 h12 d12 ⊢
    have hA : ∀ v ∈ ([V.ref t7, V.ref t8, V.ref t9, V.ref t10] : List V), ∀ Hz, Keep p H12 Hz → Ans K Hz m v false := by
      intro v hv Hz kz
      simp only [List.mem_cons, List.not_mem_nil, or_false] at hv
      rcases hv with rfl | rfl | rfl | rfl
      · exact .inl ⟨.list [.str "read", .str "item", .str "live"], (.lst (SqL.of (kz _ _ ne7 (((Same.trans s8 (Same.trans s9 (Same.trans s10 (Same.trans s11 s12))))) _ _ h7))) (.cons (.str _) (.cons (.str _) (.cons (.str _) .nil)))), (by decide +kernel), mod_no2 (fun _ z => by cases z), (rfl).symm⟩
      · exact .inl ⟨.tuple [.str "Read", .str "item", .str "live"], (.tup (SqT.of (kz _ _ ne8 (((Same.trans s9 (Same.trans s10 (Same.trans s11 s12)))) _ _ h8))) (.cons (.str _) (.cons (.str _) (.cons (.str _) .nil)))), (by decide +kernel), mod_tup2 (by decide +kernel) (by simp), (badB_ok (by decide +kernel)).symm⟩
      · exact .inl ⟨.tuple [.str "look", .str "item"], (.tup (SqT.of (kz _ _ ne9 (((Same.trans s10 (Same.trans s11 s12))) _ _ h9))) (.cons (.str _) (.cons (.str _) .nil))), (by decide +kernel), mod_tup2 (by decide +kernel) (by simp), (badB_ok (by decide +kernel)).symm⟩
      · exact .inl ⟨.tuple [.str "look", .str "item", .str "live", .int (0)], (.tup (SqT.of (kz _ _ ne10 (((Same.trans s11 s12)) _ _ h10))) (.cons (.str _) (.cons (.str _) (.cons (.str _) (.cons (.int _) .nil))))), (by decide +kernel), mod_tup2 (by decide +kernel) (by simp), (badB_ok (by decide +kernel)).symm⟩
    obtain ⟨L1, T1, hT1, lenL1, hA1, neT1, S1, eL1, eT1⟩ : ∃ (L : List V) (T : Addr), H12 T = some (.lst L) ∧ L.length = 14 ∧ (∀ v ∈ L, ∀ Hz, Keep p H12 Hz → Ans K Hz m v false) ∧ T ≠ p ∧ Same H0 H12 ∧ L = L0 ++ [V.ref t7, V.ref t8, V.ref t9, V.ref t10] ∧ T = t12 := by
      refine ⟨_, _, h12, by rw [List.length_append, lenL0]; rfl, fun v hv Hz kz => ?_, ne12, S0.trans ((Same.trans s7 (Same.trans s8 (Same.trans s9 (Same.trans s10 (Same.trans s11 s12)))))), rfl, rfl⟩
      rcases List.mem_append.mp hv with z | z
      · exact hA0 v z Hz fun b o nb e => kz b o nb (((Same.trans s7 (Same.trans s8 (Same.trans s9 (Same.trans s10 (Same.trans s11 s12)))))) b o e)
      · exact hA v z Hz kz
    rw [← eT1]
    clear hA eL1 eT1
    refine ⟨_, rfl, (by show 3 ≤ sizeLine; decide), fun t13 n13 => ?_⟩
    have s13 := same_new (o := HO.tup [V.str "if", V.str "item", V.str "live"]) n13
    have h13 : upd H12 t13 (HO.tup [V.str "if", V.str "item", V.str "live"]) t13 = some (HO.tup [V.str "if", V.str "item", V.str "live"]) := upd_same
    have d13 := dice_same2 d12 s13
    have ne13 := dice_ne d12 n13
    generalize upd H12 t13 (HO.tup [V.str "if", V.str "item", V.str "live"]) = H13 at s13 h13 d13 ⊢
    refine ⟨_, rfl, _, _, rfl, rfl, (by show 4 ≤ sizeLine; decide), fun t14 n14 => ?_⟩
    have s14 := same_new (o := HO.tup [V.str "if", V.str "item", V.str "live", V.int ((m : Int) + 1)]) n14
    have h14 : upd H13 t14 (HO.tup [V.str "if", V.str "item", V.str "live", V.int ((m : Int) + 1)]) t14 = some (HO.tup [V.str "if", V.str "item", V.str "live", V.int ((m : Int) + 1)]) := upd_same
    have d14 := dice_same2 d13 s14
    have ne14 := dice_ne d13 n14
    generalize upd H13 t14 (HO.tup [V.str "if", V.str "item", V.str "live", V.int ((m : Int) + 1)]) = H14 at s14 h14 d14 ⊢
    refine ⟨_, rfl, (by show 4 ≤ sizeLine; decide), fun t15 n15 => ?_⟩
    have s15 := same_new (o := HO.tup [V.str "if", V.str "item", V.str "live", V.int (-1)]) n15
    have h15 : upd H14 t15 (HO.tup [V.str "if", V.str "item", V.str "live", V.int (-1)]) t15 = some (HO.tup [V.str "if", V.str "item", V.str "live", V.int (-1)]) := upd_same
    have d15 := dice_same2 d14 s15
    have ne15 := dice_ne d14 n15
    generalize upd H14 t15 (HO.tup [V.str "if", V.str "item", V.str "live", V.int (-1)]) = H15 at s15 h15 d15 ⊢
    refine ⟨(by show 3 ≤ sizeLine; decide), fun t16 n16 => ?_⟩
    have s16 := same_new (o := HO.tup [V.str "go", V.int 0, V.int 1]) n16
    have h16 : upd H15 t16 (HO.tup [V.str "go", V.int 0, V.int 1]) t16 = some (HO.tup [V.str "go", V.int 0, V.int 1]) := upd_same
    have d16 := dice_same2 d15 s16
    have ne16 := dice_ne d15 n16
    generalize upd H15 t16 (HO.tup [V.str "go", V.int 0, V.int 1]) = H16 at s16 h16 d16 ⊢
    refine ⟨(by show 4 ≤ sizeLine; decide), fun t17 n17 => ?_⟩
    have s17 := same_new (o := HO.lst [V.ref t13, V.ref t14, V.ref t15, V.ref t16]) n17
    have h17 : upd H16 t17 (HO.lst [V.ref t13, V.ref t14, V.ref t15, V.ref t16]) t17 = some (HO.lst [V.ref t13, V.ref t14, V.ref t15, V.ref t16]) := upd_same
    have d17 := dice_same2 d16 s17
    have ne17 := dice_ne d16 n17
    generalize upd H16 t17 (HO.lst [V.ref t13, V.ref t14, V.ref t15, V.ref t16]) = H17 at s17 h17 d17 ⊢
    refine ⟨T1, t17, L1, _, rfl, rfl, ((Same.trans s13 (Same.trans s14 (Same.trans s15 (Same.trans s16 s17))))) _ _ hT1, h17, (by rw [lenL1]; show 18 ≤ sizeLine; decide), fun t18 n18 => ?_⟩
    have s18 := same_new (o := HO.lst (L1 ++ [V.ref t13, V.ref t14, V.ref t15, V.ref t16])) n18
    have h18 : upd H17 t18 (HO.lst (L1 ++ [V.ref t13, V.ref t14, V.ref t15, V.ref t16])) t18 = some (HO.lst (L1 ++ [V.ref t13, V.ref t14, V.ref t15, V.ref t16])) := upd_same
    have d18 := dice_same2 d17 s18
    have ne18 := dice_ne d17 n18
    generalize upd H17 t18 (HO.lst (L1 ++ [V.ref t13, V.ref t14, V.ref t15, V.ref t16])) = H18 at s18 h18 d18 ⊢
    have hA : ∀ v ∈ ([V.ref t13, V.ref t14, V.ref t15, V.ref t16] : List V), ∀ Hz, Keep p H18 Hz → Ans K Hz m v false := by
      intro v hv Hz kz
      simp only [List.mem_cons, List.not_mem_nil, or_false] at hv
      rcases hv with rfl | rfl | rfl | rfl
      · exact .inl ⟨.tuple [.str "if", .str "item", .str "live"], (.tup (SqT.of (kz _ _ ne13 (((Same.trans s14 (Same.trans s15 (Same.trans s16 (Same.trans s17 s18))))) _ _ h13))) (.cons (.str _) (.cons (.str _) (.cons (.str _) .nil)))), (by decide +kernel), mod_tup2 (by decide +kernel) (by simp), (badB_ok (by decide +kernel)).symm⟩
      · exact .inl ⟨.tuple [.str "if", .str "item", .str "live", .int ((m : Int) + 1)], (.tup (SqT.of (kz _ _ ne14 (((Same.trans s15 (Same.trans s16 (Same.trans s17 s18)))) _ _ h14))) (.cons (.str _) (.cons (.str _) (.cons (.str _) (.cons (.int _) .nil))))), ifInt_shaped, mod_tup2 smB_ok2 (by simp), (bad_if).symm⟩
      · exact .inl ⟨.tuple [.str "if", .str "item", .str "live", .int (-1)], (.tup (SqT.of (kz _ _ ne15 (((Same.trans s16 (Same.trans s17 s18))) _ _ h15))) (.cons (.str _) (.cons (.str _) (.cons (.str _) (.cons (.int _) .nil))))), (by decide +kernel), mod_tup2 (by decide +kernel) (by simp), (badB_ok (by decide +kernel)).symm⟩
      · exact .inl ⟨.tuple [.str "go", .int (0), .int (1)], (.tup (SqT.of (kz _ _ ne16 (((Same.trans s17 s18)) _ _ h16))) (.cons (.str _) (.cons (.int _) (.cons (.int _) .nil)))), (by decide +kernel), mod_tup2 (by decide +kernel) (by simp), (badB_ok (by decide +kernel)).symm⟩
    obtain ⟨L2, T2, hT2, lenL2, hA2, neT2, S2, eL2, eT2⟩ : ∃ (L : List V) (T : Addr), H18 T = some (.lst L) ∧ L.length = 18 ∧ (∀ v ∈ L, ∀ Hz, Keep p H18 Hz → Ans K Hz m v false) ∧ T ≠ p ∧ Same H0 H18 ∧ L = L1 ++ [V.ref t13, V.ref t14, V.ref t15, V.ref t16] ∧ T = t18 := by
      refine ⟨_, _, h18, by rw [List.length_append, lenL1]; rfl, fun v hv Hz kz => ?_, ne18, S1.trans ((Same.trans s13 (Same.trans s14 (Same.trans s15 (Same.trans s16 (Same.trans s17 s18)))))), rfl, rfl⟩
      rcases List.mem_append.mp hv with z | z
      · exact hA1 v z Hz fun b o nb e => kz b o nb (((Same.trans s13 (Same.trans s14 (Same.trans s15 (Same.trans s16 (Same.trans s17 s18)))))) b o e)
      · exact hA v z Hz kz
    rw [← eT2]
    clear hA eL2 eT2
    refine ⟨_, rfl, (by show 4 ≤ sizeLine; decide), fun t19 n19 => ?_⟩
    have s19 := same_new (o := HO.tup [V.str "if", V.str "item", V.str "live", V.bl true]) n19
    have h19 : upd H18 t19 (HO.tup [V.str "if", V.str "item", V.str "live", V.bl true]) t19 = some (HO.tup [V.str "if", V.str "item", V.str "live", V.bl true]) := upd_same
    have d19 := dice_same2 d18 s19
    have ne19 := dice_ne d18 n19
    generalize upd H18 t19 (HO.tup [V.str "if", V.str "item", V.str "live", V.bl true]) = H19 at s19 h19 d19 ⊢
    refine ⟨(by show 4 ≤ sizeLine; decide), fun t20 n20 => ?_⟩
    have s20 := same_new (o := HO.tup [V.str "if", V.str "item", V.str "live", V.non]) n20
    have h20 : upd H19 t20 (HO.tup [V.str "if", V.str "item", V.str "live", V.non]) t20 = some (HO.tup [V.str "if", V.str "item", V.str "live", V.non]) := upd_same
    have d20 := dice_same2 d19 s20
    have ne20 := dice_ne d19 n20
    generalize upd H19 t20 (HO.tup [V.str "if", V.str "item", V.str "live", V.non]) = H20 at s20 h20 d20 ⊢
    refine ⟨(by show 5 ≤ sizeLine; decide), fun t21 n21 => ?_⟩
    have s21 := same_new (o := HO.tup [V.str "if", V.str "item", V.str "live", V.int 0, V.int 0]) n21
    have h21 : upd H20 t21 (HO.tup [V.str "if", V.str "item", V.str "live", V.int 0, V.int 0]) t21 = some (HO.tup [V.str "if", V.str "item", V.str "live", V.int 0, V.int 0]) := upd_same
    have d21 := dice_same2 d20 s21
    have ne21 := dice_ne d20 n21
    generalize upd H20 t21 (HO.tup [V.str "if", V.str "item", V.str "live", V.int 0, V.int 0]) = H21 at s21 h21 d21 ⊢
    refine ⟨(by show 2 ≤ sizeLine; decide), fun t22 n22 => ?_⟩
    have s22 := same_new (o := HO.tup [V.int 1, V.int 2]) n22
    have h22 : upd H21 t22 (HO.tup [V.int 1, V.int 2]) t22 = some (HO.tup [V.int 1, V.int 2]) := upd_same
    have d22 := dice_same2 d21 s22
    have ne22 := dice_ne d21 n22
    generalize upd H21 t22 (HO.tup [V.int 1, V.int 2]) = H22 at s22 h22 d22 ⊢
    refine ⟨(by show 4 ≤ sizeLine; decide), fun t23 n23 => ?_⟩
    have s23 := same_new (o := HO.lst [V.ref t19, V.ref t20, V.ref t21, V.ref t22]) n23
    have h23 : upd H22 t23 (HO.lst [V.ref t19, V.ref t20, V.ref t21, V.ref t22]) t23 = some (HO.lst [V.ref t19, V.ref t20, V.ref t21, V.ref t22]) := upd_same
    have d23 := dice_same2 d22 s23
    have ne23 := dice_ne d22 n23
    generalize upd H22 t23 (HO.lst [V.ref t19, V.ref t20, V.ref t21, V.ref t22]) = H23 at s23 h23 d23 ⊢
    refine ⟨T2, t23, L2, _, rfl, rfl, ((Same.trans s19 (Same.trans s20 (Same.trans s21 (Same.trans s22 s23))))) _ _ hT2, h23, (by rw [lenL2]; show 22 ≤ sizeLine; decide), fun t24 n24 => ?_⟩
    have s24 := same_new (o := HO.lst (L2 ++ [V.ref t19, V.ref t20, V.ref t21, V.ref t22])) n24
    have h24 : upd H23 t24 (HO.lst (L2 ++ [V.ref t19, V.ref t20, V.ref t21, V.ref t22])) t24 = some (HO.lst (L2 ++ [V.ref t19, V.ref t20, V.ref t21, V.ref t22])) := upd_same
    have d24 := dice_same2 d23 s24
    have ne24 := dice_ne d23 n24
    generalize upd H23 t24 (HO.lst (L2 ++ [V.ref t19, V.ref t20, V.ref t21, V.ref t22])) = H24 at s24 h24 d24 ⊢
    have hA : ∀ v ∈ ([V.ref t19, V.ref t20, V.ref t21, V.ref t22] : List V), ∀ Hz, Keep p H24 Hz → Ans K Hz m v false := by
      intro v hv Hz kz
      simp only [List.mem_cons, List.not_mem_nil, or_false] at hv
      rcases hv with rfl | rfl | rfl | rfl
      · exact .inl ⟨.tuple [.str "if", .str "item", .str "live", .bool true], (.tup (SqT.of (kz _ _ ne19 (((Same.trans s20 (Same.trans s21 (Same.trans s22 (Same.trans s23 s24))))) _ _ h19))) (.cons (.str _) (.cons (.str _) (.cons (.str _) (.cons (.bl _) .nil))))), (by decide +kernel), mod_tup2 (by decide +kernel) (by simp), (badB_ok (by decide +kernel)).symm⟩
      · exact .inl ⟨.tuple [.str "if", .str "item", .str "live", .none], (.tup (SqT.of (kz _ _ ne20 (((Same.trans s21 (Same.trans s22 (Same.trans s23 s24)))) _ _ h20))) (.cons (.str _) (.cons (.str _) (.cons (.str _) (.cons .non .nil))))), (by decide +kernel), mod_tup2 (by decide +kernel) (by simp), (badB_ok (by decide +kernel)).symm⟩
      · exact .inl ⟨.tuple [.str "if", .str "item", .str "live", .int (0), .int (0)], (.tup (SqT.of (kz _ _ ne21 (((Same.trans s22 (Same.trans s23 s24))) _ _ h21))) (.cons (.str _) (.cons (.str _) (.cons (.str _) (.cons (.int _) (.cons (.int _) .nil)))))), (by decide +kernel), mod_tup2 (by decide +kernel) (by simp), (badB_ok (by decide +kernel)).symm⟩
      · exact .inl ⟨.tuple [.int (1), .int (2)], (.tup (SqT.of (kz _ _ ne22 (((Same.trans s23 s24)) _ _ h22))) (.cons (.int _) (.cons (.int _) .nil))), (by decide +kernel), mod_tup2 (by decide +kernel) (by simp), (badB_ok (by decide +kernel)).symm⟩
    obtain ⟨L3, T3, hT3, lenL3, hA3, neT3, S3, eL3, eT3⟩ : ∃ (L : List V) (T : Addr), H24 T = some (.lst L) ∧ L.length = 22 ∧ (∀ v ∈ L, ∀ Hz, Keep p H24 Hz → Ans K Hz m v false) ∧ T ≠ p ∧ Same H0 H24 ∧ L = L2 ++ [V.ref t19, V.ref t20, V.ref t21, V.ref t22] ∧ T = t24 := by
      refine ⟨_, _, h24, by rw [List.length_append, lenL2]; rfl, fun v hv Hz kz => ?_, ne24, S2.trans ((Same.trans s19 (Same.trans s20 (Same.trans s21 (Same.trans s22 (Same.trans s23 s24)))))), rfl, rfl⟩
      rcases List.mem_append.mp hv with z | z
      · exact hA2 v z Hz fun b o nb e => kz b o nb (((Same.trans s19 (Same.trans s20 (Same.trans s21 (Same.trans s22 (Same.trans s23 s24)))))) b o e)
      · exact hA v z Hz kz
    rw [← eT3]
    clear hA eL3 eT3
    refine ⟨_, rfl, _, rfl, _, _, rfl, rfl, (by show 2 ≤ sizeLine; decide), fun t25 n25 => ?_⟩
    have s25 := same_new (o := HO.tup [V.str "go", V.int ((m : Int) + 1)]) n25
    have h25 : upd H24 t25 (HO.tup [V.str "go", V.int ((m : Int) + 1)]) t25 = some (HO.tup [V.str "go", V.int ((m : Int) + 1)]) := upd_same
    have d25 := dice_same2 d24 s25
    have ne25 := dice_ne d24 n25
    generalize upd H24 t25 (HO.tup [V.str "go", V.int ((m : Int) + 1)]) = H25 at s25 h25 d25 ⊢
    refine ⟨_, rfl, (by show 2 ≤ sizeLine; decide), fun t26 n26 => ?_⟩
    have s26 := same_new (o := HO.tup [V.str "go", V.int (-1)]) n26
    have h26 : upd H25 t26 (HO.tup [V.str "go", V.int (-1)]) t26 = some (HO.tup [V.str "go", V.int (-1)]) := upd_same
    have d26 := dice_same2 d25 s26
    have ne26 := dice_ne d25 n26
    generalize upd H25 t26 (HO.tup [V.str "go", V.int (-1)]) = H26 at s26 h26 d26 ⊢
    refine ⟨(by show 2 ≤ sizeLine; decide), fun t27 n27 => ?_⟩
    have s27 := same_new (o := HO.tup [V.str "go", V.bl true]) n27
    have h27 : upd H26 t27 (HO.tup [V.str "go", V.bl true]) t27 = some (HO.tup [V.str "go", V.bl true]) := upd_same
    have d27 := dice_same2 d26 s27
    have ne27 := dice_ne d26 n27
    generalize upd H26 t27 (HO.tup [V.str "go", V.bl true]) = H27 at s27 h27 d27 ⊢
    refine ⟨(by show 2 ≤ sizeLine; decide), fun t28 n28 => ?_⟩
    have s28 := same_new (o := HO.tup [V.str "go", V.str "0"]) n28
    have h28 : upd H27 t28 (HO.tup [V.str "go", V.str "0"]) t28 = some (HO.tup [V.str "go", V.str "0"]) := upd_same
    have d28 := dice_same2 d27 s28
    have ne28 := dice_ne d27 n28
    generalize upd H27 t28 (HO.tup [V.str "go", V.str "0"]) = H28 at s28 h28 d28 ⊢
    refine ⟨(by show 2 ≤ sizeLine; decide), fun t29 n29 => ?_⟩
    have s29 := same_new (o := HO.tup [V.str "go", V.non]) n29
    have h29 : upd H28 t29 (HO.tup [V.str "go", V.non]) t29 = some (HO.tup [V.str "go", V.non]) := upd_same
    have d29 := dice_same2 d28 s29
    have ne29 := dice_ne d28 n29
    generalize upd H28 t29 (HO.tup [V.str "go", V.non]) = H29 at s29 h29 d29 ⊢
    refine ⟨(by show 1 ≤ sizeLine; decide), fun t30 n30 => ?_⟩
    have s30 := same_new (o := HO.tup [V.int 0]) n30
    have h30 : upd H29 t30 (HO.tup [V.int 0]) t30 = some (HO.tup [V.int 0]) := upd_same
    have d30 := dice_same2 d29 s30
    have ne30 := dice_ne d29 n30
    generalize upd H29 t30 (HO.tup [V.int 0]) = H30 at s30 h30 d30 ⊢
    refine ⟨(by show 2 ≤ sizeLine; decide), fun t31 n31 => ?_⟩
    have s31 := same_new (o := HO.tup [V.str "go", V.ref t30]) n31
    have h31 : upd H30 t31 (HO.tup [V.str "go", V.ref t30]) t31 = some (HO.tup [V.str "go", V.ref t30]) := upd_same
    have d31 := dice_same2 d30 s31
    have ne31 := dice_ne d30 n31
    generalize upd H30 t31 (HO.tup [V.str "go", V.ref t30]) = H31 at s31 h31 d31 ⊢
    refine fun t32 n32 => ⟨upd_same, [(Sum.inr "go", V.int 0)], rfl, by decide, ?_⟩
    rw [upd_upd]
    have s32 := same_new (o := HO.dK (mergeK [] [(Sum.inr "go", V.int 0)])) n32
    have h32 : upd H31 t32 (HO.dK (mergeK [] [(Sum.inr "go", V.int 0)])) t32 = some (HO.dK (mergeK [] [(Sum.inr "go", V.int 0)])) := upd_same
    have d32 := dice_same2 d31 s32
    have ne32 := dice_ne d31 n32
    generalize upd H31 t32 (HO.dK (mergeK [] [(Sum.inr "go", V.int 0)])) = H32 at s32 h32 d32 ⊢
    refine ⟨(by show 7 ≤ sizeLine; decide), fun t33 n33 => ?_⟩
    have s33 := same_new (o := HO.lst [V.ref t25, V.ref t26, V.ref t27, V.ref t28, V.ref t29, V.ref t31, V.ref t32]) n33
    have h33 : upd H32 t33 (HO.lst [V.ref t25, V.ref t26, V.ref t27, V.ref t28, V.ref t29, V.ref t31, V.ref t32]) t33 = some (HO.lst [V.ref t25, V.ref t26, V.ref t27, V.ref t28, V.ref t29, V.ref t31, V.ref t32]) := upd_same
    have d33 := dice_same2 d32 s33
    have ne33 := dice_ne d32 n33
    generalize upd H32 t33 (HO.lst [V.ref t25, V.ref t26, V.ref t27, V.ref t28, V.ref t29, V.ref t31, V.ref t32]) = H33 at s33 h33 d33 ⊢
    refine ⟨T3, t33, L3, _, rfl, rfl, ((Same.trans s25 (Same.trans s26 (Same.trans s27 (Same.trans s28 (Same.trans s29 (Same.trans s30 (Same.trans s31 (Same.trans s32 s33))))))))) _ _ hT3, h33, (by rw [lenL3]; show 29 ≤ sizeLine; decide), fun t34 n34 => ?_⟩
    have s34 := same_new (o := HO.lst (L3 ++ [V.ref t25, V.ref t26, V.ref t27, V.ref t28, V.ref t29, V.ref t31, V.ref t32])) n34
    have h34 : upd H33 t34 (HO.lst (L3 ++ [V.ref t25, V.ref t26, V.ref t27, V.ref t28, V.ref t29, V.ref t31, V.ref t32])) t34 = some (HO.lst (L3 ++ [V.ref t25, V.ref t26, V.ref t27, V.ref t28, V.ref t29, V.ref t31, V.ref t32])) := upd_same
    have d34 := dice_same2 d33 s34
    have ne34 := dice_ne d33 n34
    generalize upd H33 t34 (HO.lst (L3 ++ [V.ref t25, V.ref t26, V.ref t27, V.ref t28, V.ref t29, V.ref t31, V.ref t32])) = H34 at s34 h34 d34 ⊢
    have hA : ∀ v ∈ ([V.ref t25, V.ref t26, V.ref t27, V.ref t28, V.ref t29, V.ref t31, V.ref t32] : List V), ∀ Hz, Keep p H34 Hz → Ans K Hz m v false := by
      intro v hv Hz kz
      simp only [List.mem_cons, List.not_mem_nil, or_false] at hv
      rcases hv with rfl | rfl | rfl | rfl | rfl | rfl | rfl
      · exact .inl ⟨.tuple [.str "go", .int ((m : Int) + 1)], (.tup (SqT.of (kz _ _ ne25 (((Same.trans s26 (Same.trans s27 (Same.trans s28 (Same.trans s29 (Same.trans s30 (Same.trans s31 (Same.trans s32 (Same.trans s33 s34))))))))) _ _ h25))) (.cons (.str _) (.cons (.int _) .nil))), goInt_shaped, mod_tup2 smB_ok (by simp), (bad_go (.inr (by omega))).symm⟩
      · exact .inl ⟨.tuple [.str "go", .int (-1)], (.tup (SqT.of (kz _ _ ne26 (((Same.trans s27 (Same.trans s28 (Same.trans s29 (Same.trans s30 (Same.trans s31 (Same.trans s32 (Same.trans s33 s34)))))))) _ _ h26))) (.cons (.str _) (.cons (.int _) .nil))), (by decide +kernel), mod_tup2 (by decide +kernel) (by simp), (badB_ok (by decide +kernel)).symm⟩
      · exact .inl ⟨.tuple [.str "go", .bool true], (.tup (SqT.of (kz _ _ ne27 (((Same.trans s28 (Same.trans s29 (Same.trans s30 (Same.trans s31 (Same.trans s32 (Same.trans s33 s34))))))) _ _ h27))) (.cons (.str _) (.cons (.bl _) .nil))), (by decide +kernel), mod_tup2 (by decide +kernel) (by simp), (badB_ok (by decide +kernel)).symm⟩
      · exact .inl ⟨.tuple [.str "go", .str "0"], (.tup (SqT.of (kz _ _ ne28 (((Same.trans s29 (Same.trans s30 (Same.trans s31 (Same.trans s32 (Same.trans s33 s34)))))) _ _ h28))) (.cons (.str _) (.cons (.str _) .nil))), (by decide +kernel), mod_tup2 (by decide +kernel) (by simp), (badB_ok (by decide +kernel)).symm⟩
      · exact .inl ⟨.tuple [.str "go", .none], (.tup (SqT.of (kz _ _ ne29 (((Same.trans s30 (Same.trans s31 (Same.trans s32 (Same.trans s33 s34))))) _ _ h29))) (.cons (.str _) (.cons .non .nil))), (by decide +kernel), mod_tup2 (by decide +kernel) (by simp), (badB_ok (by decide +kernel)).symm⟩
      · exact .inl ⟨.tuple [.str "go", .tuple [.int (0)]], (.tup (SqT.of (kz _ _ ne31 (((Same.trans s32 (Same.trans s33 s34))) _ _ h31))) (.cons (.str _) (.cons (.tup (SqT.of (kz _ _ ne30 (((Same.trans s31 (Same.trans s32 (Same.trans s33 s34)))) _ _ h30))) (.cons (.int _) .nil)) .nil))), (by decide +kernel), mod_tup2 (by decide +kernel) (by simp), (badB_ok (by decide +kernel)).symm⟩
      · exact .inr (.inl ⟨rfl, _, _, rfl, (kz _ _ ne32 (((Same.trans s33 s34)) _ _ h32))⟩)
    obtain ⟨L4, T4, hT4, lenL4, hA4, neT4, S4, eL4, eT4⟩ : ∃ (L : List V) (T : Addr), H34 T = some (.lst L) ∧ L.length = 29 ∧ (∀ v ∈ L, ∀ Hz, Keep p H34 Hz → Ans K Hz m v false) ∧ T ≠ p ∧ Same H0 H34 ∧ L = L3 ++ [V.ref t25, V.ref t26, V.ref t27, V.ref t28, V.ref t29, V.ref t31, V.ref t32] ∧ T = t34 := by
      refine ⟨_, _, h34, by rw [List.length_append, lenL3]; rfl, fun v hv Hz kz => ?_, ne34, S3.trans ((Same.trans s25 (Same.trans s26 (Same.trans s27 (Same.trans s28 (Same.trans s29 (Same.trans s30 (Same.trans s31 (Same.trans s32 (Same.trans s33 s34)))))))))), rfl, rfl⟩
      rcases List.mem_append.mp hv with z | z
      · exact hA3 v z Hz fun b o nb e => kz b o nb (((Same.trans s25 (Same.trans s26 (Same.trans s27 (Same.trans s28 (Same.trans s29 (Same.trans s30 (Same.trans s31 (Same.trans s32 (Same.trans s33 s34)))))))))) b o e)
      · exact hA v z Hz kz
    rw [← eT4]
    clear hA eL4 eT4
    refine ⟨_, rfl, (by show 3 ≤ sizeLine; decide), fun t35 n35 => ?_⟩
    have s35 := same_new (o := HO.tup [V.str "read", V.str "Item", V.str "live"]) n35
    have h35 : upd H34 t35 (HO.tup [V.str "read", V.str "Item", V.str "live"]) t35 = some (HO.tup [V.str "read", V.str "Item", V.str "live"]) := upd_same
    have d35 := dice_same2 d34 s35
    have ne35 := dice_ne d34 n35
    generalize upd H34 t35 (HO.tup [V.str "read", V.str "Item", V.str "live"]) = H35 at s35 h35 d35 ⊢
    refine ⟨(by show 3 ≤ sizeLine; decide), fun t36 n36 => ?_⟩
    have s36 := same_new (o := HO.tup [V.str "read", V.str "item", V.str "toolongaa"]) n36
    have h36 : upd H35 t36 (HO.tup [V.str "read", V.str "item", V.str "toolongaa"]) t36 = some (HO.tup [V.str "read", V.str "item", V.str "toolongaa"]) := upd_same
    have d36 := dice_same2 d35 s36
    have ne36 := dice_ne d35 n36
    generalize upd H35 t36 (HO.tup [V.str "read", V.str "item", V.str "toolongaa"]) = H36 at s36 h36 d36 ⊢
    refine ⟨(by show 3 ≤ sizeLine; decide), fun t37 n37 => ?_⟩
    have s37 := same_new (o := HO.tup [V.str "read", V.str "", V.str "live"]) n37
    have h37 : upd H36 t37 (HO.tup [V.str "read", V.str "", V.str "live"]) t37 = some (HO.tup [V.str "read", V.str "", V.str "live"]) := upd_same
    have d37 := dice_same2 d36 s37
    have ne37 := dice_ne d36 n37
    generalize upd H36 t37 (HO.tup [V.str "read", V.str "", V.str "live"]) = H37 at s37 h37 d37 ⊢
    refine ⟨(by show 3 ≤ sizeLine; decide), fun t38 n38 => ?_⟩
    have s38 := same_new (o := HO.lst [V.ref t35, V.ref t36, V.ref t37]) n38
    have h38 : upd H37 t38 (HO.lst [V.ref t35, V.ref t36, V.ref t37]) t38 = some (HO.lst [V.ref t35, V.ref t36, V.ref t37]) := upd_same
    have d38 := dice_same2 d37 s38
    have ne38 := dice_ne d37 n38
    generalize upd H37 t38 (HO.lst [V.ref t35, V.ref t36, V.ref t37]) = H38 at s38 h38 d38 ⊢
    refine ⟨T4, t38, L4, _, rfl, rfl, ((Same.trans s35 (Same.trans s36 (Same.trans s37 s38)))) _ _ hT4, h38, (by rw [lenL4]; show 32 ≤ sizeLine; decide), fun t39 n39 => ?_⟩
    have s39 := same_new (o := HO.lst (L4 ++ [V.ref t35, V.ref t36, V.ref t37])) n39
    have h39 : upd H38 t39 (HO.lst (L4 ++ [V.ref t35, V.ref t36, V.ref t37])) t39 = some (HO.lst (L4 ++ [V.ref t35, V.ref t36, V.ref t37])) := upd_same
    have d39 := dice_same2 d38 s39
    have ne39 := dice_ne d38 n39
    generalize upd H38 t39 (HO.lst (L4 ++ [V.ref t35, V.ref t36, V.ref t37])) = H39 at s39 h39 d39 ⊢
    have hA : ∀ v ∈ ([V.ref t35, V.ref t36, V.ref t37] : List V), ∀ Hz, Keep p H39 Hz → Ans K Hz m v false := by
      intro v hv Hz kz
      simp only [List.mem_cons, List.not_mem_nil, or_false] at hv
      rcases hv with rfl | rfl | rfl
      · exact .inl ⟨.tuple [.str "read", .str "Item", .str "live"], (.tup (SqT.of (kz _ _ ne35 (((Same.trans s36 (Same.trans s37 (Same.trans s38 s39)))) _ _ h35))) (.cons (.str _) (.cons (.str _) (.cons (.str _) .nil)))), (by decide +kernel), mod_tup2 (by decide +kernel) (by simp), (badB_ok (by decide +kernel)).symm⟩
      · exact .inl ⟨.tuple [.str "read", .str "item", .str "toolongaa"], (.tup (SqT.of (kz _ _ ne36 (((Same.trans s37 (Same.trans s38 s39))) _ _ h36))) (.cons (.str _) (.cons (.str _) (.cons (.str _) .nil)))), (by decide +kernel), mod_tup2 (by decide +kernel) (by simp), (badB_ok (by decide +kernel)).symm⟩
      · exact .inl ⟨.tuple [.str "read", .str "", .str "live"], (.tup (SqT.of (kz _ _ ne37 (((Same.trans s38 s39)) _ _ h37))) (.cons (.str _) (.cons (.str _) (.cons (.str _) .nil)))), (by decide +kernel), mod_tup2 (by decide +kernel) (by simp), (badB_ok (by decide +kernel)).symm⟩
    obtain ⟨L5, T5, hT5, lenL5, hA5, neT5, S5, eL5, eT5⟩ : ∃ (L : List V) (T : Addr), H39 T = some (.lst L) ∧ L.length = 32 ∧ (∀ v ∈ L, ∀ Hz, Keep p H39 Hz → Ans K Hz m v false) ∧ T ≠ p ∧ Same H0 H39 ∧ L = L4 ++ [V.ref t35, V.ref t36, V.ref t37] ∧ T = t39 := by
      refine ⟨_, _, h39, by rw [List.length_append, lenL4]; rfl, fun v hv Hz kz => ?_, ne39, S4.trans ((Same.trans s35 (Same.trans s36 (Same.trans s37 (Same.trans s38 s39))))), rfl, rfl⟩
      rcases List.mem_append.mp hv with z | z
      · exact hA4 v z Hz fun b o nb e => kz b o nb (((Same.trans s35 (Same.trans s36 (Same.trans s37 (Same.trans s38 s39))))) b o e)
      · exact hA v z Hz kz
    rw [← eT5]
    clear hA eL5 eT5
    refine ⟨_, rfl, (by show 3 ≤ sizeLine; decide), fun t40 n40 => ?_⟩
    have s40 := same_new (o := HO.tup [V.str "look", V.int 3, V.str "live"]) n40
    have h40 : upd H39 t40 (HO.tup [V.str "look", V.int 3, V.str "live"]) t40 = some (HO.tup [V.str "look", V.int 3, V.str "live"]) := upd_same
    have d40 := dice_same2 d39 s40
    have ne40 := dice_ne d39 n40
    generalize upd H39 t40 (HO.tup [V.str "look", V.int 3, V.str "live"]) = H40 at s40 h40 d40 ⊢
    refine ⟨(by show 1 ≤ sizeLine; decide), fun t41 n41 => ?_⟩
    have s41 := same_new (o := HO.tup [V.str "item"]) n41
    have h41 : upd H40 t41 (HO.tup [V.str "item"]) t41 = some (HO.tup [V.str "item"]) := upd_same
    have d41 := dice_same2 d40 s41
    have ne41 := dice_ne d40 n41
    generalize upd H40 t41 (HO.tup [V.str "item"]) = H41 at s41 h41 d41 ⊢
    refine ⟨(by show 3 ≤ sizeLine; decide), fun t42 n42 => ?_⟩
    have s42 := same_new (o := HO.tup [V.str "read", V.ref t41, V.str "live"]) n42
    have h42 : upd H41 t42 (HO.tup [V.str "read", V.ref t41, V.str "live"]) t42 = some (HO.tup [V.str "read", V.ref t41, V.str "live"]) := upd_same
    have d42 := dice_same2 d41 s42
    have ne42 := dice_ne d41 n42
    generalize upd H41 t42 (HO.tup [V.str "read", V.ref t41, V.str "live"]) = H42 at s42 h42 d42 ⊢
    refine ⟨(by show 4 ≤ sizeLine; decide), fun t43 n43 => ?_⟩
    have s43 := same_new (o := HO.tup [V.str "if", V.str "i1", V.str "live", V.int 0]) n43
    have h43 : upd H42 t43 (HO.tup [V.str "if", V.str "i1", V.str "live", V.int 0]) t43 = some (HO.tup [V.str "if", V.str "i1", V.str "live", V.int 0]) := upd_same
    have d43 := dice_same2 d42 s43
    have ne43 := dice_ne d42 n43
    generalize upd H42 t43 (HO.tup [V.str "if", V.str "i1", V.str "live", V.int 0]) = H43 at s43 h43 d43 ⊢
    refine ⟨(by show 3 ≤ sizeLine; decide), fun t44 n44 => ?_⟩
    have s44 := same_new (o := HO.tup [V.str "read", V.str "it em", V.str "live"]) n44
    have h44 : upd H43 t44 (HO.tup [V.str "read", V.str "it em", V.str "live"]) t44 = some (HO.tup [V.str "read", V.str "it em", V.str "live"]) := upd_same
    have d44 := dice_same2 d43 s44
    have ne44 := dice_ne d43 n44
    generalize upd H43 t44 (HO.tup [V.str "read", V.str "it em", V.str "live"]) = H44 at s44 h44 d44 ⊢
    refine ⟨(by show 4 ≤ sizeLine; decide), fun t45 n45 => ?_⟩
    have s45 := same_new (o := HO.lst [V.ref t40, V.ref t42, V.ref t43, V.ref t44]) n45
    have h45 : upd H44 t45 (HO.lst [V.ref t40, V.ref t42, V.ref t43, V.ref t44]) t45 = some (HO.lst [V.ref t40, V.ref t42, V.ref t43, V.ref t44]) := upd_same
    have d45 := dice_same2 d44 s45
    have ne45 := dice_ne d44 n45
    generalize upd H44 t45 (HO.lst [V.ref t40, V.ref t42, V.ref t43, V.ref t44]) = H45 at s45 h45 d45 ⊢
    refine ⟨T5, t45, L5, _, rfl, rfl, ((Same.trans s40 (Same.trans s41 (Same.trans s42 (Same.trans s43 (Same.trans s44 s45)))))) _ _ hT5, h45, (by rw [lenL5]; show 36 ≤ sizeLine; decide), fun t46 n46 => ?_⟩
    have s46 := same_new (o := HO.lst (L5 ++ [V.ref t40, V.ref t42, V.ref t43, V.ref t44])) n46
    have h46 : upd H45 t46 (HO.lst (L5 ++ [V.ref t40, V.ref t42, V.ref t43, V.ref t44])) t46 = some (HO.lst (L5 ++ [V.ref t40, V.ref t42, V.ref t43, V.ref t44])) := upd_same
    have d46 := dice_same2 d45 s46
    have ne46 := dice_ne d45 n46
    generalize upd H45 t46 (HO.lst (L5 ++ [V.ref t40, V.ref t42, V.ref t43, V.ref t44])) = H46 at s46 h46 d46 ⊢
    have hA : ∀ v ∈ ([V.ref t40, V.ref t42, V.ref t43, V.ref t44] : List V), ∀ Hz, Keep p H46 Hz → Ans K Hz m v false := by
      intro v hv Hz kz
      simp only [List.mem_cons, List.not_mem_nil, or_false] at hv
      rcases hv with rfl | rfl | rfl | rfl
      · exact .inl ⟨.tuple [.str "look", .int (3), .str "live"], (.tup (SqT.of (kz _ _ ne40 (((Same.trans s41 (Same.trans s42 (Same.trans s43 (Same.trans s44 (Same.trans s45 s46)))))) _ _ h40))) (.cons (.str _) (.cons (.int _) (.cons (.str _) .nil)))), (by decide +kernel), mod_tup2 (by decide +kernel) (by simp), (badB_ok (by decide +kernel)).symm⟩
      · exact .inl ⟨.tuple [.str "read", .tuple [.str "item"], .str "live"], (.tup (SqT.of (kz _ _ ne42 (((Same.trans s43 (Same.trans s44 (Same.trans s45 s46)))) _ _ h42))) (.cons (.str _) (.cons (.tup (SqT.of (kz _ _ ne41 (((Same.trans s42 (Same.trans s43 (Same.trans s44 (Same.trans s45 s46))))) _ _ h41))) (.cons (.str _) .nil)) (.cons (.str _) .nil)))), (by decide +kernel), mod_tup2 (by decide +kernel) (by simp), (badB_ok (by decide +kernel)).symm⟩
      · exact .inl ⟨.tuple [.str "if", .str "i1", .str "live", .int (0)], (.tup (SqT.of (kz _ _ ne43 (((Same.trans s44 (Same.trans s45 s46))) _ _ h43))) (.cons (.str _) (.cons (.str _) (.cons (.str _) (.cons (.int _) .nil))))), (by decide +kernel), mod_tup2 (by decide +kernel) (by simp), (badB_ok (by decide +kernel)).symm⟩
      · exact .inl ⟨.tuple [.str "read", .str "it em", .str "live"], (.tup (SqT.of (kz _ _ ne44 (((Same.trans s45 s46)) _ _ h44))) (.cons (.str _) (.cons (.str _) (.cons (.str _) .nil)))), (by decide +kernel), mod_tup2 (by decide +kernel) (by simp), (badB_ok (by decide +kernel)).symm⟩
    obtain ⟨L6, T6, hT6, lenL6, hA6, neT6, S6, eL6, eT6⟩ : ∃ (L : List V) (T : Addr), H46 T = some (.lst L) ∧ L.length = 36 ∧ (∀ v ∈ L, ∀ Hz, Keep p H46 Hz → Ans K Hz m v false) ∧ T ≠ p ∧ Same H0 H46 ∧ L = L5 ++ [V.ref t40, V.ref t42, V.ref t43, V.ref t44] ∧ T = t46 := by
      refine ⟨_, _, h46, by rw [List.length_append, lenL5]; rfl, fun v hv Hz kz => ?_, ne46, S5.trans ((Same.trans s40 (Same.trans s41 (Same.trans s42 (Same.trans s43 (Same.trans s44 (Same.trans s45 s46))))))), rfl, rfl⟩
      rcases List.mem_append.mp hv with z | z
      · exact hA5 v z Hz fun b o nb e => kz b o nb (((Same.trans s40 (Same.trans s41 (Same.trans s42 (Same.trans s43 (Same.trans s44 (Same.trans s45 s46))))))) b o e)
      · exact hA v z Hz kz
    rw [← eT6]
    clear hA eL6 eT6
    refine ⟨_, rfl, (by show 2 ≤ sizeLine; decide), fun t47 n47 => ?_⟩
    have s47 := same_new (o := HO.tup [V.str "go", V.int 0]) n47
    have h47 : upd H46 t47 (HO.tup [V.str "go", V.int 0]) t47 = some (HO.tup [V.str "go", V.int 0]) := upd_same
    have d47 := dice_same2 d46 s47
    have ne47 := dice_ne d46 n47
    generalize upd H46 t47 (HO.tup [V.str "go", V.int 0]) = H47 at s47 h47 d47 ⊢
    refine ⟨(by show 1 ≤ sizeLine; decide), fun t48 n48 => ?_⟩
    have s48 := same_new (o := HO.tup [V.ref t47]) n48
    have h48 : upd H47 t48 (HO.tup [V.ref t47]) t48 = some (HO.tup [V.ref t47]) := upd_same
    have d48 := dice_same2 d47 s48
    have ne48 := dice_ne d47 n48
    generalize upd H47 t48 (HO.tup [V.ref t47]) = H48 at s48 h48 d48 ⊢
    refine ⟨(by show 3 ≤ sizeLine; decide), fun t49 n49 => ?_⟩
    have s49 := same_new (o := HO.tup [V.non, V.str "item", V.str "live"]) n49
    have h49 : upd H48 t49 (HO.tup [V.non, V.str "item", V.str "live"]) t49 = some (HO.tup [V.non, V.str "item", V.str "live"]) := upd_same
    have d49 := dice_same2 d48 s49
    have ne49 := dice_ne d48 n49
    generalize upd H48 t49 (HO.tup [V.non, V.str "item", V.str "live"]) = H49 at s49 h49 d49 ⊢
    refine ⟨(by show 3 ≤ sizeLine; decide), fun t50 n50 => ?_⟩
    have s50 := same_new (o := HO.tup [V.str "read", V.str "item", V.str "live"]) n50
    have h50 : upd H49 t50 (HO.tup [V.str "read", V.str "item", V.str "live"]) t50 = some (HO.tup [V.str "read", V.str "item", V.str "live"]) := upd_same
    have d50 := dice_same2 d49 s50
    have ne50 := dice_ne d49 n50
    generalize upd H49 t50 (HO.tup [V.str "read", V.str "item", V.str "live"]) = H50 at s50 h50 d50 ⊢
    refine ⟨(by show 1 ≤ sizeLine; decide), fun t51 n51 => ?_⟩
    have s51 := same_new (o := HO.tup [V.ref t50]) n51
    have h51 : upd H50 t51 (HO.tup [V.ref t50]) t51 = some (HO.tup [V.ref t50]) := upd_same
    have d51 := dice_same2 d50 s51
    have ne51 := dice_ne d50 n51
    generalize upd H50 t51 (HO.tup [V.ref t50]) = H51 at s51 h51 d51 ⊢
    refine ⟨10, 39, rfl, rfl, ⟨by decide, by decide, by decide⟩, (by show 2 ≤ sizeLine; decide), fun t52 n52 => ?_⟩
    have s52 := same_new (o := HO.tup [V.str "go", V.int ((10 : Int) ^ (39 : Int).toNat)]) n52
    have h52 : upd H51 t52 (HO.tup [V.str "go", V.int ((10 : Int) ^ (39 : Int).toNat)]) t52 = some (HO.tup [V.str "go", V.int ((10 : Int) ^ (39 : Int).toNat)]) := upd_same
    have d52 := dice_same2 d51 s52
    have ne52 := dice_ne d51 n52
    generalize upd H51 t52 (HO.tup [V.str "go", V.int ((10 : Int) ^ (39 : Int).toNat)]) = H52 at s52 h52 d52 ⊢
    refine ⟨(by show 4 ≤ sizeLine; decide), fun t53 n53 => ?_⟩
    have s53 := same_new (o := HO.lst [V.ref t48, V.ref t49, V.ref t51, V.ref t52]) n53
    have h53 : upd H52 t53 (HO.lst [V.ref t48, V.ref t49, V.ref t51, V.ref t52]) t53 = some (HO.lst [V.ref t48, V.ref t49, V.ref t51, V.ref t52]) := upd_same
    have d53 := dice_same2 d52 s53
    have ne53 := dice_ne d52 n53
    generalize upd H52 t53 (HO.lst [V.ref t48, V.ref t49, V.ref t51, V.ref t52]) = H53 at s53 h53 d53 ⊢
    refine ⟨T6, t53, L6, _, rfl, rfl, ((Same.trans s47 (Same.trans s48 (Same.trans s49 (Same.trans s50 (Same.trans s51 (Same.trans s52 s53))))))) _ _ hT6, h53, (by rw [lenL6]; show 40 ≤ sizeLine; decide), fun t54 n54 => ?_⟩
    have s54 := same_new (o := HO.lst (L6 ++ [V.ref t48, V.ref t49, V.ref t51, V.ref t52])) n54
    have h54 : upd H53 t54 (HO.lst (L6 ++ [V.ref t48, V.ref t49, V.ref t51, V.ref t52])) t54 = some (HO.lst (L6 ++ [V.ref t48, V.ref t49, V.ref t51, V.ref t52])) := upd_same
    have d54 := dice_same2 d53 s54
    have ne54 := dice_ne d53 n54
    generalize upd H53 t54 (HO.lst (L6 ++ [V.ref t48, V.ref t49, V.ref t51, V.ref t52])) = H54 at s54 h54 d54 ⊢
    have hA : ∀ v ∈ ([V.ref t48, V.ref t49, V.ref t51, V.ref t52] : List V), ∀ Hz, Keep p H54 Hz → Ans K Hz m v false := by
      intro v hv Hz kz
      simp only [List.mem_cons, List.not_mem_nil, or_false] at hv
      rcases hv with rfl | rfl | rfl | rfl
      · exact .inl ⟨.tuple [.tuple [.str "go", .int (0)]], (.tup (SqT.of (kz _ _ ne48 (((Same.trans s49 (Same.trans s50 (Same.trans s51 (Same.trans s52 (Same.trans s53 s54)))))) _ _ h48))) (.cons (.tup (SqT.of (kz _ _ ne47 (((Same.trans s48 (Same.trans s49 (Same.trans s50 (Same.trans s51 (Same.trans s52 (Same.trans s53 s54))))))) _ _ h47))) (.cons (.str _) (.cons (.int _) .nil))) .nil)), (by decide +kernel), mod_tup2 (by decide +kernel) (by simp), (badB_ok (by decide +kernel)).symm⟩
      · exact .inl ⟨.tuple [.none, .str "item", .str "live"], (.tup (SqT.of (kz _ _ ne49 (((Same.trans s50 (Same.trans s51 (Same.trans s52 (Same.trans s53 s54))))) _ _ h49))) (.cons .non (.cons (.str _) (.cons (.str _) .nil)))), (by decide +kernel), mod_tup2 (by decide +kernel) (by simp), (badB_ok (by decide +kernel)).symm⟩
      · exact .inl ⟨.tuple [.tuple [.str "read", .str "item", .str "live"]], (.tup (SqT.of (kz _ _ ne51 (((Same.trans s52 (Same.trans s53 s54))) _ _ h51))) (.cons (.tup (SqT.of (kz _ _ ne50 (((Same.trans s51 (Same.trans s52 (Same.trans s53 s54)))) _ _ h50))) (.cons (.str _) (.cons (.str _) (.cons (.str _) .nil)))) .nil)), (by decide +kernel), mod_tup2 (by decide +kernel) (by simp), (badB_ok (by decide +kernel)).symm⟩
      · exact .inl ⟨.tuple [.str "go", .int ((10 : Int) ^ (39 : Int).toNat)], (.tup (SqT.of (kz _ _ ne52 (((Same.trans s53 s54)) _ _ h52))) (.cons (.str _) (.cons (.int _) .nil))), goInt_shaped, mod_tup2 smB_ok (by simp), (bad_go (.inr (by have : (10 : Int) ^ (39 : Int).toNat = 1000000000000000000000000000000000000000 := (by decide +kernel); omega))).symm⟩
    obtain ⟨L7, T7, hT7, lenL7, hA7, neT7, S7, eL7, eT7⟩ : ∃ (L : List V) (T : Addr), H54 T = some (.lst L) ∧ L.length = 40 ∧ (∀ v ∈ L, ∀ Hz, Keep p H54 Hz → Ans K Hz m v false) ∧ T ≠ p ∧ Same H0 H54 ∧ L = L6 ++ [V.ref t48, V.ref t49, V.ref t51, V.ref t52] ∧ T = t54 := by
      refine ⟨_, _, h54, by rw [List.length_append, lenL6]; rfl, fun v hv Hz kz => ?_, ne54, S6.trans ((Same.trans s47 (Same.trans s48 (Same.trans s49 (Same.trans s50 (Same.trans s51 (Same.trans s52 (Same.trans s53 s54)))))))), rfl, rfl⟩
      rcases List.mem_append.mp hv with z | z
      · exact hA6 v z Hz fun b o nb e => kz b o nb (((Same.trans s47 (Same.trans s48 (Same.trans s49 (Same.trans s50 (Same.trans s51 (Same.trans s52 (Same.trans s53 s54)))))))) b o e)
      · exact hA v z Hz kz
    rw [← eT7]
    clear hA eL7 eT7
    refine ⟨_, rfl, (by show 0 ≤ sizeLine; decide), fun t55 n55 => ?_⟩
    have s55 := same_new (o := HO.lst []) n55
    have h55 : upd H54 t55 (HO.lst []) t55 = some (HO.lst []) := upd_same
    have d55 := dice_same2 d54 s55
    have ne55 := dice_ne d54 n55
    generalize upd H54 t55 (HO.lst []) = H55 at s55 h55 d55 ⊢
    refine fun t56 n56 => ?_
    have s56 := same_new (o := HO.dK []) n56
    have h56 : upd H55 t56 (HO.dK []) t56 = some (HO.dK []) := upd_same
    have d56 := dice_same2 d55 s56
    have ne56 := dice_ne d55 n56
    generalize upd H55 t56 (HO.dK []) = H56 at s56 h56 d56 ⊢
    refine ⟨(by show 3 ≤ sizeLine; decide), fun t57 n57 => ?_⟩
    have s57 := same_new (o := HO.tup [V.str "read", V.ref t55, V.ref t56]) n57
    have h57 : upd H56 t57 (HO.tup [V.str "read", V.ref t55, V.ref t56]) t57 = some (HO.tup [V.str "read", V.ref t55, V.ref t56]) := upd_same
    have d57 := dice_same2 d56 s57
    have ne57 := dice_ne d56 n57
    generalize upd H56 t57 (HO.tup [V.str "read", V.ref t55, V.ref t56]) = H57 at s57 h57 d57 ⊢
    refine ⟨(by show 3 ≤ sizeLine; decide), fun t58 n58 => ?_⟩
    have s58 := same_new (o := HO.tup [V.str "read", V.str "item", V.non]) n58
    have h58 : upd H57 t58 (HO.tup [V.str "read", V.str "item", V.non]) t58 = some (HO.tup [V.str "read", V.str "item", V.non]) := upd_same
    have d58 := dice_same2 d57 s58
    have ne58 := dice_ne d57 n58
    generalize upd H57 t58 (HO.tup [V.str "read", V.str "item", V.non]) = H58 at s58 h58 d58 ⊢
    refine ⟨(by show 3 ≤ sizeLine; decide), fun t59 n59 => ?_⟩
    have s59 := same_new (o := HO.tup [V.str "see", V.str "item", V.str "live"]) n59
    have h59 : upd H58 t59 (HO.tup [V.str "see", V.str "item", V.str "live"]) t59 = some (HO.tup [V.str "see", V.str "item", V.str "live"]) := upd_same
    have d59 := dice_same2 d58 s59
    have ne59 := dice_ne d58 n59
    generalize upd H58 t59 (HO.tup [V.str "see", V.str "item", V.str "live"]) = H59 at s59 h59 d59 ⊢
    refine ⟨(by show 3 ≤ sizeLine; decide), fun t60 n60 => ?_⟩
    have s60 := same_new (o := HO.lst [V.ref t57, V.ref t58, V.ref t59]) n60
    have h60 : upd H59 t60 (HO.lst [V.ref t57, V.ref t58, V.ref t59]) t60 = some (HO.lst [V.ref t57, V.ref t58, V.ref t59]) := upd_same
    have d60 := dice_same2 d59 s60
    have ne60 := dice_ne d59 n60
    generalize upd H59 t60 (HO.lst [V.ref t57, V.ref t58, V.ref t59]) = H60 at s60 h60 d60 ⊢
    refine ⟨T7, t60, L7, _, rfl, rfl, ((Same.trans s55 (Same.trans s56 (Same.trans s57 (Same.trans s58 (Same.trans s59 s60)))))) _ _ hT7, h60, (by rw [lenL7]; show 43 ≤ sizeLine; decide), fun t61 n61 => ?_⟩
    have s61 := same_new (o := HO.lst (L7 ++ [V.ref t57, V.ref t58, V.ref t59])) n61
    have h61 : upd H60 t61 (HO.lst (L7 ++ [V.ref t57, V.ref t58, V.ref t59])) t61 = some (HO.lst (L7 ++ [V.ref t57, V.ref t58, V.ref t59])) := upd_same
    have d61 := dice_same2 d60 s61
    have ne61 := dice_ne d60 n61
    generalize upd H60 t61 (HO.lst (L7 ++ [V.ref t57, V.ref t58, V.ref t59])) = H61 at s61 h61 d61 ⊢
    have hA : ∀ v ∈ ([V.ref t57, V.ref t58, V.ref t59] : List V), ∀ Hz, Keep p H61 Hz → Ans K Hz m v false := by
      intro v hv Hz kz
      simp only [List.mem_cons, List.not_mem_nil, or_false] at hv
      rcases hv with rfl | rfl | rfl
      · exact .inr (.inr ⟨rfl, t57, t56, V.ref t55, .list [], [], rfl, SqT.of (kz _ _ ne57 (((Same.trans s58 (Same.trans s59 (Same.trans s60 s61)))) _ _ h57)), (.lst (SqL.of (kz _ _ ne55 (((Same.trans s56 (Same.trans s57 (Same.trans s58 (Same.trans s59 (Same.trans s60 s61)))))) _ _ h55))) .nil), rfl, (fun _ z => by cases z), (kz _ _ ne56 (((Same.trans s57 (Same.trans s58 (Same.trans s59 (Same.trans s60 s61))))) _ _ h56))⟩)
      · exact .inl ⟨.tuple [.str "read", .str "item", .none], (.tup (SqT.of (kz _ _ ne58 (((Same.trans s59 (Same.trans s60 s61))) _ _ h58))) (.cons (.str _) (.cons (.str _) (.cons .non .nil)))), (by decide +kernel), mod_tup2 (by decide +kernel) (by simp), (badB_ok (by decide +kernel)).symm⟩
      · exact .inl ⟨.tuple [.str "see", .str "item", .str "live"], (.tup (SqT.of (kz _ _ ne59 (((Same.trans s60 s61)) _ _ h59))) (.cons (.str _) (.cons (.str _) (.cons (.str _) .nil)))), (by decide +kernel), mod_tup2 (by decide +kernel) (by simp), (badB_ok (by decide +kernel)).symm⟩
    obtain ⟨L8, T8, hT8, lenL8, hA8, neT8, S8, eL8, eT8⟩ : ∃ (L : List V) (T : Addr), H61 T = some (.lst L) ∧ L.length = 43 ∧ (∀ v ∈ L, ∀ Hz, Keep p H61 Hz → Ans K Hz m v false) ∧ T ≠ p ∧ Same H0 H61 ∧ L = L7 ++ [V.ref t57, V.ref t58, V.ref t59] ∧ T = t61 := by
      refine ⟨_, _, h61, by rw [List.length_append, lenL7]; rfl, fun v hv Hz kz => ?_, ne61, S7.trans ((Same.trans s55 (Same.trans s56 (Same.trans s57 (Same.trans s58 (Same.trans s59 (Same.trans s60 s61))))))), rfl, rfl⟩
      rcases List.mem_append.mp hv with z | z
      · exact hA7 v z Hz fun b o nb e => kz b o nb (((Same.trans s55 (Same.trans s56 (Same.trans s57 (Same.trans s58 (Same.trans s59 (Same.trans s60 s61))))))) b o e)
      · exact hA v z Hz kz
    rw [← eT8]
    clear hA eL8 eT8
    refine ⟨_, rfl, _, rfl, p, T8, L8, rfl, d61, hT8, neT8, (by rw [lenL8]; decide), (by rw [lenL8]; decide), fun ix xw ya yb yc hxw hya => ?_⟩
    have kk : Keep p H61 (upd H61 p (.lst [.int ya, .int yb, .int yc])) := keep_upd
    exact k _ _ ((same_keep S8).trans kk) (.upd hya) (hA8 xw (List.mem_of_getElem? hxw) _ kk)
end
end Rd

/-! What the law's defs share -/
namespace Rd
open PySem PySem.Spec PyProof.Rows L2 Tq Dn Dc Ox LamX
/-- tuples put together, empty or not -/
def rCatU (K : PySem.W.Frag) : R2 := fun x y H Q => ∃ a b xs ys, x = .ref a ∧ y = .ref b ∧ SqT K H a xs ∧ SqT K H b ys ∧ xs.length + ys.length ≤ sizeLine ∧ ∀ q H', Same H H' → SqT K H' q (xs ++ ys) → Q (.ref q) H'
theorem op_catU {X : Cx} : OpR X (binaryOp .Add) (rCatU X.K) := fun pins s σ H x y v u Q I rx ry ⟨a, b, xs, ys, e1, e2, ha, hb, hz, k⟩ =>
  op_catA pins s σ H x y v u Q I rx ry ⟨a, b, xs, ys, e1, e2, ha, hb, hz, fun e => k b H (Same.refl H) (by rw [e]; exact hb), fun _ e => k a H (Same.refl H) (by rw [e, List.append_nil]; exact ha), fun _ _ p np => k p _ (same_new np) (SqT.of upd_same)⟩
/-- a part of a tuple, or all of it -/
def rSlU (K : PySem.W.Frag) : V → Option Int → Option Int → Hp → VK → Prop := fun x lo hi H Q => ∃ a xs, x = .ref a ∧ SqT K H a xs ∧ ∀ q H', Same H H' → SqT K H' q (cutV xs lo hi) → Q (.ref q) H'
theorem sl_tupU {X : Cx} : SlR X (rSlU X.K) := fun pins s σ H x v vl vu lo hi sl Q I rx hs pl pu ⟨a, xs, e, ha, k⟩ =>
  sl_tupA pins s σ H x v vl vu lo hi sl Q I rx hs pl pu ⟨a, xs, e, ha, fun ⟨h1, h2⟩ => k a H (Same.refl H) (by
    unfold cutV
    rw [h1, h2, List.drop_zero, Nat.sub_zero, List.take_length]; exact ha), fun _ p np => k p _ (same_new np) (SqT.of upd_same)⟩
theorem cut_to {xs : List V} {n : Nat} (h : n ≤ xs.length) : cutV xs none (some (n : Int)) = xs.take n := by
  unfold cutV
  rw [HT.sIx_none, HT.sIx_nat, List.drop_zero, Nat.sub_zero, Nat.min_eq_left h]
theorem cut_from {xs : List V} {n : Nat} (h : n ≤ xs.length) : cutV xs (some (n : Int)) none = xs.drop n := by
  unfold cutV
  rw [HT.sIx_none, HT.sIx_nat, Nat.min_eq_left h]
  exact List.take_of_length_le (by rw [List.length_drop]; exact Nat.le_refl _)
section
variable {K : PySem.W.Frag} {H H' : Hp}
theorem sqL_x {a : Addr} {xs : List V} (h : SqL K H a xs) (s : ExtN H H') : SqL K H' a xs := by
  rcases h with (h | ⟨o, h⟩) | h
  · exact .inl (.inl (s _ _ h fun _ e => by cases e))
  · exact .inl (.inr ⟨o, s _ _ h fun _ e => by cases e⟩)
  · exact .inr h
theorem sqT_x {a : Addr} {xs : List V} (h : SqT K H a xs) (s : ExtN H H') : SqT K H' a xs := by
  rcases h with (h | ⟨o, h⟩) | h
  · exact .inl (.inl (s _ _ h fun _ e => by cases e))
  · exact .inl (.inr ⟨o, s _ _ h fun _ e => by cases e⟩)
  · exact .inr h
mutual
theorem dp_x (s : ExtN H H') : ∀ {v : V} {d : PyData}, Dp K H v d → Dp K H' v d
  | _, _, .non => .non
  | _, _, .bl b => .bl b
  | _, _, .int i => .int i
  | _, _, .str x => .str x
  | _, _, .lst h a => .lst (sqL_x h s) (dpAll_x s a)
  | _, _, .tup h a => .tup (sqT_x h s) (dpAll_x s a)
theorem dpAll_x (s : ExtN H H') : ∀ {vs : List V} {ds : List PyData}, DpAll K H vs ds → DpAll K H' vs ds
  | _, _, .nil => .nil
  | _, _, .cons h a => .cons (dp_x s h) (dpAll_x s a)
end
theorem Ans.x {n : Nat} {v : V} {b : Bool} (h : Ans K H n v b) (s : ExtN H H') : Ans K H' n v b := by
  rcases h with ⟨d, a, r⟩ | ⟨e, c, kvs, a, h⟩ | ⟨e, a, c, u, d, kvs, a1, a2, a3, a4, a5, a6⟩
  · exact .inl ⟨d, dp_x s a, r⟩
  · exact .inr (.inl ⟨e, c, kvs, a, s _ _ h fun _ e => by cases e⟩)
  · exact .inr (.inr ⟨e, a, c, u, d, kvs, a1, sqT_x a2 s, dp_x s a3, a4, a5, s _ _ a6 fun _ e => by cases e⟩)
end
theorem rd_ty {K : PySem.W.Frag} {C r : Addr} {H : Hp} {rs : RowsL} (cl : Cls K C) (ii : TxI K C) (h : RdAt K C H r rs) : TyX K H (.ref r) (.ref C) := by
  obtain ⟨dx, L, TT, ps, e, _⟩ := h
  exact .base (.ins e cl ii.ha ii.hn ii.htk ii.hm)
def spRj (T : List (Addr × Str)) : Sp := fun vs H Q _ => ∃ p, vs = [.ref p] ∧ DiceAt H p ∧ Tabs T H ∧ ∀ H', KeepT p H H' → DiceAt H' p → Tabs T H' → Q (.bl true) H'
section
variable {P : Program} {w : World} {K : PySem.W.Frag} {mg : Str → Option Value} {base : Heap}
/-- lines that make no reader, passed one by one -/
theorem made_bad {C CR : Addr} {H : Hp} {xs : List V} (hb : Spoilt K H xs) {x dx : Addr} (nx : H x = Option.none) (nd : H dx = Option.none) (ne : dx ≠ x) {W : V → Hp → Prop} {E : XK} (k : ∀ H', Same H H' → E (.ref CR) none H') :
    spStar 1 (spInitX K C CR) (V.ref x :: xs) (upd (upd H dx (.own x)) x (.ins C dx [])) W E := by
  have s1 : Same H (upd (upd H dx (.own x)) x (.ins C dx [])) := same_to nx (same_new nd)
  refine ⟨[.ref x], xs, rfl, rfl, by have := hb.1; rw [sizeLine_eq]; omega, fun p np => ?_⟩
  have s2 := same_new (o := HO.tup xs) np
  exact ⟨x, dx, p, xs, rfl, s2 _ _ upd_same, SqT.of upd_same, hb.up (s1.trans s2), fun H' s' => k H' ((s1.trans s2).trans s')⟩
/-- the lines of a reader with a value among them that is no line -/
theorem spoil {H : Hp} {rs : RowsL} {L : Addr} {n : Nat} {v : V} (hL : LinesAt K H L rs) (ok : RdOk rs) (few : rs.length < 16) (hn : n ≤ rs.length) (hv : Ans K H (rs.length + 1) v false) :
    Spoilt K H (((rs.map fun r => V.ref r.1).take n ++ [v]) ++ (rs.map fun r => V.ref r.1).drop n) := by
  have len : (((rs.map fun r => V.ref r.1).take n ++ [v]) ++ (rs.map fun r => V.ref r.1).drop n).length = rs.length + 1 := by
    rw [List.length_append, List.length_append, List.length_take, List.length_drop, List.length_map, List.length_singleton, Nat.min_eq_left hn]; omega
  refine ⟨by rw [len]; omega, ((rs.take n).map (fun r => lineD r.2.d (rs.length + 1 : Nat)) ++ [false]) ++ (rs.drop n).map (fun r => lineD r.2.d (rs.length + 1 : Nat)), ?_, by simp⟩
  rw [len, ← List.map_take, ← List.map_drop]
  refine paired_app (paired_app (paired_map fun r hr => ?_) (.cons hv .nil)) (paired_map fun r hr => ?_)
  · exact Ans.ln (hL.2 r (List.mem_of_mem_take hr)) (ok.fine r (List.mem_of_mem_take hr))
  · exact Ans.ln (hL.2 r (List.mem_of_mem_drop hr)) (ok.fine r (List.mem_of_mem_drop hr))
/-- a reader made by its class -/
theorem made_at {C : Addr} {H : Hp} {rs : RowsL} (hL : ∀ r ∈ rs, SqT K H r.1 r.2.vs) (ok : RdOk rs) {x dx : Addr} (nx : H x = Option.none) (nd : H dx = Option.none) (ne : dx ≠ x) {W : V → Hp → Prop} (k : ∀ H', Same H H' → RdAt K C H' x rs → W .non H') :
    spStar 1 (spInit K C) (V.ref x :: (rs.map fun r => V.ref r.1)) (upd (upd H dx (.own x)) x (.ins C dx [])) W E0 := by
  have s1 : Same H (upd (upd H dx (.own x)) x (.ins C dx [])) := same_to nx (same_new nd)
  refine ⟨[.ref x], _, rfl, rfl, by rw [List.length_map, sizeLine_eq]; have := ok.few; omega, fun p np => ?_⟩
  have s2 := same_new (o := HO.tup (rs.map fun r => V.ref r.1)) np
  refine ⟨x, dx, p, rs, rfl, s2 _ _ upd_same, ⟨SqT.of upd_same, fun r hr => sqT_up (hL r hr) (s1.trans s2)⟩, ok, fun H' T ps kp e hA hP => ?_⟩
  have hx0 : upd (upd (upd H dx (.own x)) x (.ins C dx [])) p (HO.tup (rs.map fun r => V.ref r.1)) x = some (.ins C dx []) := s2 _ _ upd_same
  refine k H' (fun b o hb => ?_) (rd_new e (LinesAt.off hx0 kp ⟨SqT.of upd_same, fun r hr => sqT_up (hL r hr) (s1.trans s2)⟩) hA hP)
  exact kp b o (ne_of_none hb nx) ((s1.trans s2) b o hb)
end
end Rd

/-! Lines of which one is spoilt, values that are no tuple -/
namespace Rd
open PySem PySem.Spec PyProof.Rows L2 Tq Dn Dc Ox LamX Rl
abbrev sSp : Stmt := top 55
abbrev nSp : List Str := ["_law_dice_here", "_law_lines_here", "_law_size", "_law_at", "_law_odd_here", "_law_wrong"]
theorem scSp : FnScope nSp ["_law_dice_here"] (defScope sSp) := ⟨rfl, rfl, rfl, by decide +kernel, rfl, by decide +kernel, by decide +kernel⟩
structure TxS (K : PySem.W.Frag) (mg : Str → Option Value) (P : Program) (w : World) (base : Heap) (C CR : Addr) : Prop extends TxX K mg P w base C CR where
  eRR : PySem.W.exmOne K (.ref CR) (.ref CR) = some true
  ii : TxI K C
  noT : PySem.W.kitOne K (.ref C) (.type "tuple") = some false
  roll : Has P w K mg base "_law_roll" 1 ["_law_dice_here", "_law_total"] spRoll
  one : Has P w K mg base "_law_one_of" 2 ["_law_dice_here", "_law_items"] spOne
  lns : Has P w K mg base "_law_lines" 4 ["_law_dice_here", "_law_most"] (spLns K)
  od : Has P w K mg base "_law_odd" 3 ["_law_dice_here", "_law_size"] (spOdd K)
  ir : Has P w K mg base "_law_is_reader" 8 ["_law_lines_here"] (spIsR K)
  of_ : HasC P w K mg base C "of" 7 (spOf K C)
  madeX : ∃ f, Mk K C f ∧ FnR P w K mg base (L2N.CX P w) 5 f (spStar 1 (spInitX K C CR))
  rf : ∃ (g : Addr) (oc kV doc pm cdv ct : Value) (od an : Option Addr) (osl : Array (Option Value)), mg "_law_is_refused" = some (.ref g) ∧ PySem.W.keepIn K (.ref g) = true ∧ PySem.W.codeIn K cdv "_law_is_refused" = true ∧
    K.lookup g = some ⟨oc, od, .func (PySem.W.fnOf "_law_is_refused" "_law_is_refused" (defArgs sRf) (defBody sRf) (defScope sRf) .none kV doc pm an cdv ct), osl⟩ ∧ Binds K (PySem.W.fnOf "_law_is_refused" "_law_is_refused" (defArgs sRf) (defBody sRf) (defScope sRf) .none kV doc pm an cdv ct) ["_law_call"] []
section
variable {P : Program} {w : World} {K : PySem.W.Frag} {mg : Str → Option Value} {base : Heap}
theorem ok_sp {C CR f PT cc : Addr} {fd : FuncData} {TS : List (Addr × Str)} (F : Fun K "_law_spoilt_right" "_law_spoilt_right" sSp f fd) (T : TxS K mg P w base C CR) (hcd : fd.code = .ref cc) (TB : TabB base mg cc PT)
    (hmT : ∀ n, (PT, (envOfC "_law_spoilt_right" (defScope sSp) n f (.ref cc)).qual ++ "<lambda>") ∈ TS) (hu' : ∀ n, ∀ p ∈ TS, p.1 = PT → p.2 = (envOfC "_law_spoilt_right" (defScope sSp) n f (.ref cc)).qual ++ "<lambda>") : FnG P w K mg base 9 f fd ["_law_dice_here"] (spRj TS) := by
  obtain ⟨mc, p0, g0, cr, cm, G0⟩ := T.of_
  obtain ⟨fX, MX, GX⟩ := T.madeX
  obtain ⟨fR, fdR, mR, kR, bR, GR⟩ := T.roll
  obtain ⟨fO, fdO, mO, kO, bO, GO⟩ := T.one
  obtain ⟨fL, fdL, mL, kL, bL, GL⟩ := T.lns
  obtain ⟨fD, fdD, mD, kD, bD, GD⟩ := T.od
  obtain ⟨fI, fdI, mI, kI, bI, GI⟩ := T.ir
  obtain ⟨gF, ocF, kVF, dcF, pmF, cdF, ctF, odF, anF, slF, mF, kF, cF, lF, bF⟩ := T.rf
  refine okGc hcd F scSp (fun vs H Q E h => ?_) (fun A outer s H0 vs Q E hgd hr h => ?_)
  · obtain ⟨p, rfl, _⟩ := h; rfl
  · obtain ⟨p, rfl, di, tb, k⟩ := h
    have r1 := hr.mono (show 1 ≤ 8 by decide)
    have r2 := hr.mono (show 2 ≤ 8 by decide)
    have r3 := hr.mono (show 3 ≤ 8 by decide)
    have r4 := hr.mono (show 4 ≤ 8 by decide)
    have r7 := hr.mono (show 7 ≤ 8 by decide)
    have pe_ref1 := fun {params : Arguments} {body : Expr} {scope : Scope} {t : XK → TE} {p lpos pos : Pos} (L : LamS (defScope sSp) scope) (hdef) (hbind) (hbody) => Rl.pe_callV (X := (cxOf CX0 P w K mg base nSp "_law_spoilt_right" (defScope sSp) f (.ref cc) A outer s H0 E).nox) (TT := TTref CR) (x := "_law_is_refused") (a := "_law_call") (g := gF) (k := 6) (Ng := ["_law_call"]) (e := .Lambda params body scope lpos) (te := tLamV TS (IsLam (cxOf CX0 P w K mg base nSp "_law_spoilt_right" (defScope sSp) f (.ref cc) A outer s H0 E).nox params body scope)) (params := params) (body := body) (scope := scope) (t := t) (p := p) (pos := pos)
      (by rfl) mF kF lF cF bF scRf rfl (fun _ => rfl) (.inl rfl) (ref_gives T.gR T.eRR) hr L (pe_lamV TB rfl (hmT _) (hu' _) L hdef) hbind hbody (by rfl)
    refine ⟨_, pss_cons (ps_set (i := 1) scSp.nd rfl (Or.inl rfl) (pe_call GL r4 (by rfl) mL kL bL .nil pass0 (pa_cons (pv 0) (pa_cons pe_int pa_nil))))
      (pss_cons (ps_par (i := 2) (j := 3) rfl scSp.nd rfl rfl (by decide) rfl rfl (pa_cons (pe_callB call_lenT (by rfl) T.len PySem.boot_len (pa_cons (pv 1) pa_nil)) (pa_cons (pe_call GR r1 (by rfl) mR kR bR .nil pass0 (pa_cons (pv 0) (pa_cons (pe_op op_add (pe_callB call_lenT (by rfl) T.len PySem.boot_len (pa_cons (pv 1) pa_nil)) pe_int) pa_nil))) pa_nil)) (by rfl))
      (pss_cons (ps_set (i := 4) scSp.nd rfl (Or.inl rfl) (pe_call GD r3 (by rfl) mD kD bD .nil pass0 (pa_cons (pv 0) (pa_cons (pe_op op_add (pv 2) pe_int) pa_nil))))
      (pss_cons (ps_if (PW.pt (pw_or (pt_not (pt_val (pe_call GI hr (by rfl) mI kI bI .nil pass0 (pa_cons (pv 1) pa_nil)))) (pw_or1 (pt_val (pe_call GI hr (by rfl) mI kI bI .nil pass0 (pa_cons (pe_op op_catU (pe_op op_catU (pe_slice sl_tupU (pv 1) po_none (po_some (pv 3))) (pe_tup (pa_cons (pv 4) pa_nil))) (pe_slice sl_tupU (pv 1) (po_some (pv 3)) po_none)) pa_nil)))))) (pss_one (ps_ret pe_bl)) pss_nil)
      (pss_cons (ps_asg (pe_tup (pa_cons (pe_call GO r2 (by rfl) mO kO bO .nil pass0 (pa_cons (pv 0) (pa_cons (pe_lst (pa_cons pe_non (pa_cons (pe_callTy call_list_of (by rfl) T.list (by decide +kernel) (pa_cons (pv 1) pa_nil)) (pa_cons pe_int (pa_cons pe_str (pa_cons pe_dnewK (pa_cons pe_bl (pa_cons (ClX.pe_cmeth (pe_glob (v := .ref C) (by rfl) T.mgC rfl) cr cm G0 r7 pass0 (pa_cons (pv 1) pa_nil)) (pa_cons (pe_lst pa_nil) (pa_cons pe_str pa_nil)))))))))) pa_nil))) (pa_cons (pe_call GD r3 (by rfl) mD kD bD .nil pass0 (pa_cons (pv 0) (pa_cons pe_int pa_nil))) pa_nil))) (pg_tup rfl (pgs_cons (pg_name (i := 4) scSp.nd rfl (.inl rfl)) (pgs_cons (pg_name (i := 5) scSp.nd rfl (.inr rfl)) pgs_nil))))
      (pss_one (ps_ret (pe_and (pe_not (pe_call GI hr (by rfl) mI kI bI .nil pass0 (pa_cons (pv 4) pa_nil))) (pe_one (pe_ref1 (lamS_by (by rfl)) rfl (fun _ _ _ _ _ => rfl) (fun A outer s H E f c hr2 => (StX.pe_makeR (E := E) MX GX hr2 (by rfl) T.mgC (L2N.passes_call (L2N.takes_of rfl rfl rfl rfl) (fun _ _ _ _ h => h)) (pa_cons (pe_tup (pa_cons pe_str (pa_cons pe_int pa_nil))) (pa_cons (pv 5) pa_nil))))))))))))), ?_⟩
    have d0 := di
    have b0 := tb
    clear di tb
    refine ⟨_, rfl, p, 9, rfl, by decide, d0, fun L rs H1 k1 d1 nL eL hrows hdr few => ?_⟩
    have q1 : KeepT p H0 H1 := kt_keep k1
    have b1 := tabs_keep b0 d0 k1
    have hL : LinesAt K H1 L rs := ⟨SqT.of eL, fun r hr => SqT.of (hrows r hr)⟩
    have ok : RdOk rs := drawn_ok hdr (by omega)
    have lm : (rs.map fun r => V.ref r.1).length = rs.length := List.length_map _
    refine ⟨_, rfl, L, _, rfl, hL.1, ?_⟩
    obtain ⟨xa2, xb2, xc2, hp2, ha2⟩ := id d1
    refine ⟨_, rfl, _, rfl, L, _, rfl, hL.1, _, _, rfl, rfl, p, ((rs.map fun r => V.ref r.1).length : Int) + 1, xa2, xb2, xc2, rfl, hp2, ha2, by omega, by omega, fun v2 ya2 yb2 yc2 v12 v22 v32 => ?_⟩
    obtain ⟨n, rfl⟩ : ∃ n : Nat, v2 = (n : Int) := ⟨v2.toNat, (Int.toNat_of_nonneg v12).symm⟩
    have k2 : Keep p H1 (upd H1 p (.lst [.int ya2, .int yb2, .int yc2])) := keep_upd
    have d2 : DiceAt (upd H1 p (.lst [.int ya2, .int yb2, .int yc2])) p := .upd v32
    generalize upd H1 p (HO.lst [V.int ya2, V.int yb2, V.int yc2]) = H2 at k2 d2 ⊢
    have q2 : KeepT p H1 H2 := kt_keep k2
    have b2 := tabs_keep b1 d1 k2
    have hn : n ≤ rs.length := by omega
    refine ⟨_, _, rfl, ?_⟩
    rw [lm]
    refine ⟨_, rfl, _, rfl, _, _, rfl, rfl, p, rs.length + 1, rfl, by omega, d2, fun H3 ov k3 d3 hov => ?_⟩
    have q3 : KeepT p H2 H3 := kt_keep k3
    have b3 := tabs_keep b2 d2 k3
    refine ⟨_, rfl, _, rfl, .inl ⟨L, rs, rfl, (hL.kt d1 (KeepT.trans q2 q3)), ok, fun H4 s4 => ⟨_, rfl, iteF ?_⟩⟩⟩
    have q4 : KeepT p H3 H4 := kt_same s4
    have d4 := dice_same2 d3 s4
    have b4 := b3.ext s4
    refine ⟨_, rfl, _, rfl, _, rfl, L, _, rfl, (hL.kt d1 (KeepT.trans q2 (KeepT.trans q3 q4))).1, fun qa H5 s5 hqa => ?_⟩
    have q5 : KeepT p H4 H5 := kt_same s5
    have d5 := dice_same2 d4 s5
    have b5 := b4.ext s5
    rw [cut_to (by rw [lm]; exact hn)] at hqa
    refine ⟨_, rfl, (by show 1 ≤ sizeLine; decide), fun t6 n6 => ?_⟩
    have ne6 := dice_ne d5 n6
    have s6 := same_new (o := HO.tup [ov]) n6
    have h6 : upd H5 t6 (HO.tup [ov]) t6 = some (HO.tup [ov]) := upd_same
    have q6 : KeepT p H5 (upd H5 t6 (HO.tup [ov])) := kt_same s6
    have d6 := dice_upd (o := HO.tup [ov]) d5 ne6
    have b6 := b5.ext s6
    generalize upd H5 t6 (HO.tup [ov]) = H6 at s6 h6 q6 d6 b6 ⊢
    refine ⟨qa, t6, _, _, rfl, rfl, (sqT_kt hqa d5 q6), SqT.of h6, (by rw [List.length_take, lm, sizeLine_eq]; show _ + 1 ≤ _; omega), fun qb H7 s7 hqb => ?_⟩
    have q7 : KeepT p H6 H7 := kt_same s7
    have d7 := dice_same2 d6 s7
    have b7 := b6.ext s7
    refine ⟨_, rfl, _, rfl, _, rfl, L, _, rfl, (hL.kt d1 (KeepT.trans q2 (KeepT.trans q3 (KeepT.trans q4 (KeepT.trans q5 (KeepT.trans q6 q7)))))).1, fun qc H8 s8 hqc => ?_⟩
    have q8 : KeepT p H7 H8 := kt_same s8
    have d8 := dice_same2 d7 s8
    have b8 := b7.ext s8
    rw [cut_from (by rw [lm]; exact hn)] at hqc
    refine ⟨qb, qc, _, _, rfl, rfl, (sqT_kt hqb d7 q8), hqc, (by rw [List.length_append, List.length_take, List.length_drop, lm, sizeLine_eq]; show _ + 1 + _ ≤ _; omega), fun qd H9 s9 hqd => ?_⟩
    have q9 : KeepT p H8 H9 := kt_same s9
    have d9 := dice_same2 d8 s9
    have b9 := b8.ext s9
    have hsp := spoil (v := ov) (hL.kt d1 (KeepT.trans q2 (KeepT.trans q3 (KeepT.trans q4 (KeepT.trans q5 (KeepT.trans q6 (KeepT.trans q7 (KeepT.trans q8 q9)))))))) ok (by omega) hn (hov.up (Same.trans s4 (Same.trans s5 (Same.trans s6 (Same.trans s7 (Same.trans s8 s9))))))
    refine ⟨_, rfl, .inr ⟨.inr ⟨qd, _, rfl, hqd, .inl hsp⟩, fun H10 s10 => ⟨_, rfl, iteF ?_⟩⟩⟩
    have q10 : KeepT p H9 H10 := kt_same s10
    have d10 := dice_same2 d9 s10
    have b10 := b9.ext s10
    refine ⟨_, rfl, _, rfl, L, _, rfl, .inr (hL.kt d1 (KeepT.trans q2 (KeepT.trans q3 (KeepT.trans q4 (KeepT.trans q5 (KeepT.trans q6 (KeepT.trans q7 (KeepT.trans q8 (KeepT.trans q9 q10))))))))).1, fun t11 n11 => ?_⟩
    have ne11 := dice_ne d10 n11
    have s11 := same_new (o := HO.lst (rs.map fun r => V.ref r.1)) n11
    have h11 : upd H10 t11 (HO.lst (rs.map fun r => V.ref r.1)) t11 = some (HO.lst (rs.map fun r => V.ref r.1)) := upd_same
    have q11 : KeepT p H10 (upd H10 t11 (HO.lst (rs.map fun r => V.ref r.1))) := kt_same s11
    have d11 := dice_upd (o := HO.lst (rs.map fun r => V.ref r.1)) d10 ne11
    have b11 := b10.ext s11
    generalize upd H10 t11 (HO.lst (rs.map fun r => V.ref r.1)) = H11 at s11 h11 q11 d11 b11 ⊢
    refine fun t12 n12 => ?_
    have ne12 := dice_ne d11 n12
    have s12 := same_new (o := HO.dK []) n12
    have h12 : upd H11 t12 (HO.dK []) t12 = some (HO.dK []) := upd_same
    have q12 : KeepT p H11 (upd H11 t12 (HO.dK [])) := kt_same s12
    have d12 := dice_upd (o := HO.dK []) d11 ne12
    have b12 := b11.ext s12
    generalize upd H11 t12 (HO.dK []) = H12 at s12 h12 q12 d12 b12 ⊢
    refine ⟨rfl, _, rfl, L, rs, rfl, (hL.kt d1 (KeepT.trans q2 (KeepT.trans q3 (KeepT.trans q4 (KeepT.trans q5 (KeepT.trans q6 (KeepT.trans q7 (KeepT.trans q8 (KeepT.trans q9 (KeepT.trans q10 (KeepT.trans q11 q12))))))))))), ok, fun H13 rr s13 nrr hRr => ?_⟩
    have q13 : KeepT p H12 H13 := kt_same s13
    have d13 := dice_same2 d12 s13
    have b13 := b12.ext s13
    refine ⟨(by show 0 ≤ sizeLine; decide), fun t14 n14 => ?_⟩
    have ne14 := dice_ne d13 n14
    have s14 := same_new (o := HO.lst []) n14
    have h14 : upd H13 t14 (HO.lst []) t14 = some (HO.lst []) := upd_same
    have q14 : KeepT p H13 (upd H13 t14 (HO.lst [])) := kt_same s14
    have d14 := dice_upd (o := HO.lst []) d13 ne14
    have b14 := b13.ext s14
    generalize upd H13 t14 (HO.lst []) = H14 at s14 h14 q14 d14 b14 ⊢
    refine ⟨(by show 9 ≤ sizeLine; decide), fun t15 n15 => ?_⟩
    have ne15 := dice_ne d14 n15
    have s15 := same_new (o := HO.lst [V.non, V.ref t11, V.int 7, V.str "go", V.ref t12, V.bl true, V.ref rr, V.ref t14, V.str ""]) n15
    have h15 : upd H14 t15 (HO.lst [V.non, V.ref t11, V.int 7, V.str "go", V.ref t12, V.bl true, V.ref rr, V.ref t14, V.str ""]) t15 = some (HO.lst [V.non, V.ref t11, V.int 7, V.str "go", V.ref t12, V.bl true, V.ref rr, V.ref t14, V.str ""]) := upd_same
    have q15 : KeepT p H14 (upd H14 t15 (HO.lst [V.non, V.ref t11, V.int 7, V.str "go", V.ref t12, V.bl true, V.ref rr, V.ref t14, V.str ""])) := kt_same s15
    have d15 := dice_upd (o := HO.lst [V.non, V.ref t11, V.int 7, V.str "go", V.ref t12, V.bl true, V.ref rr, V.ref t14, V.str ""]) d14 ne15
    have b15 := b14.ext s15
    generalize upd H14 t15 (HO.lst [V.non, V.ref t11, V.int 7, V.str "go", V.ref t12, V.bl true, V.ref rr, V.ref t14, V.str ""]) = H15 at s15 h15 q15 d15 b15 ⊢
    have notup : ∀ x ∈ ([V.non, V.ref t11, V.int 7, V.str "go", V.ref t12, V.bl true, V.ref rr, V.ref t14, V.str ""] : List V), ∃ t, PySem.W.kitOne K t (.type "tuple") = some false ∧ ∀ Hz, KeepT p H15 Hz → TyX K Hz x t := by
      intro x hx
      simp only [List.mem_cons, List.not_mem_nil, or_false] at hx
      rcases hx with rfl | rfl | rfl | rfl | rfl | rfl | rfl | rfl | rfl
      · exact ⟨_, kit_ty (by decide +kernel), fun Hz kz => .base .non⟩
      · exact ⟨_, kit_ty (by decide +kernel), fun Hz kz => .base (.lst (lst_kt h11 ne11 (KeepT.trans (KeepT.trans q12 (KeepT.trans q13 (KeepT.trans q14 q15))) kz)))⟩
      · exact ⟨_, kit_ty (by decide +kernel), fun Hz kz => .base (.int _)⟩
      · exact ⟨_, kit_ty (by decide +kernel), fun Hz kz => .base (.str _)⟩
      · exact ⟨_, kit_ty (by decide +kernel), fun Hz kz => .base (.dK ((KeepT.trans (KeepT.trans q13 (KeepT.trans q14 q15)) kz) _ _ ne12 h12 (fun _ z => by cases z)))⟩
      · exact ⟨_, kit_ty (by decide +kernel), fun Hz kz => .base (.bl _)⟩
      · exact ⟨_, T.noT, fun Hz kz => rd_ty T.cl T.ii (hRr.kt d13 (KeepT.trans (KeepT.trans q14 q15) kz))⟩
      · exact ⟨_, kit_ty (by decide +kernel), fun Hz kz => .base (.lst (lst_kt h14 ne14 (KeepT.trans q15 kz)))⟩
      · exact ⟨_, kit_ty (by decide +kernel), fun Hz kz => .base (.str _)⟩
    refine ⟨p, t15, _, rfl, d15, h15, ne15, (by show 0 < 9; decide), (by show 9 < 1000; decide), fun ix xw ya yb yc hxw hya => ?_⟩
    have k16 : Keep p H15 (upd H15 p (HO.lst [V.int ya, V.int yb, V.int yc])) := keep_upd
    have d16 : DiceAt (upd H15 p (HO.lst [V.int ya, V.int yb, V.int yc])) p := .upd hya
    generalize upd H15 p (HO.lst [V.int ya, V.int yb, V.int yc]) = H16 at k16 d16 ⊢
    have q16 : KeepT p H15 H16 := kt_keep k16
    have b16 := tabs_keep b15 d15 k16
    obtain ⟨xt, hxk, hxt⟩ := notup xw (List.mem_of_getElem? hxw)
    refine ⟨_, rfl, p, 2, rfl, by decide, d16, fun H17 wv k17 d17 hwv => ?_⟩
    have q17 : KeepT p H16 H17 := kt_keep k17
    have b17 := tabs_keep b16 d16 k17
    refine ⟨(by show 2 ≤ sizeLine; decide), fun t18 n18 => ?_⟩
    have ne18 := dice_ne d17 n18
    have s18 := same_new (o := HO.tup [xw, wv]) n18
    have h18 : upd H17 t18 (HO.tup [xw, wv]) t18 = some (HO.tup [xw, wv]) := upd_same
    have q18 : KeepT p H17 (upd H17 t18 (HO.tup [xw, wv])) := kt_same s18
    have d18 := dice_upd (o := HO.tup [xw, wv]) d17 ne18
    have b18 := b17.ext s18
    generalize upd H17 t18 (HO.tup [xw, wv]) = H18 at s18 h18 q18 d18 b18 ⊢
    refine ⟨t18, _, rfl, SqT.of h18, rfl, _, _, rfl, _, _, rfl, rfl, ?_⟩
    refine ⟨_, rfl, _, rfl, .inr ⟨.inl ⟨xt, hxt _ (KeepT.trans q16 (KeepT.trans q17 q18)), hxk⟩, fun H19 s19 => ⟨_, rfl, _, rfl, iteT ?_⟩⟩⟩
    have q19 : KeepT p H18 H19 := kt_same s19
    have d19 := dice_same2 d18 s19
    have b19 := b18.ext s19
    have hw1 := hwv.up (Same.trans s18 s19)
    refine ⟨b19, fun lf H20 e20 b20 nlf hlf => ⟨lf, rfl, hlf, ?_⟩⟩
    have q20 : KeepT p H19 H20 := kt_ext e20
    have d20 := dice_ext d19 e20
    have hw2 := hw1.x e20
    refine ⟨(by show 2 ≤ sizeLine; decide), fun t21 n21 => ?_⟩
    have ne21 := dice_ne d20 n21
    have s21 := same_new (o := HO.tup [V.str "go", V.int 2]) n21
    have h21 : upd H20 t21 (HO.tup [V.str "go", V.int 2]) t21 = some (HO.tup [V.str "go", V.int 2]) := upd_same
    have q21 : KeepT p H20 (upd H20 t21 (HO.tup [V.str "go", V.int 2])) := kt_same s21
    have d21 := dice_upd (o := HO.tup [V.str "go", V.int 2]) d20 ne21
    have b21 := b20.ext s21
    generalize upd H20 t21 (HO.tup [V.str "go", V.int 2]) = H21 at s21 h21 q21 d21 b21 ⊢
    have hsp2 : Spoilt K H21 [V.ref t21, wv] := ⟨(by show 2 ≤ 16; decide), [lineD (Ln.go 2).d (2 : Nat), false], .cons (Ans.ln (r := (t21, Ln.go 2)) (m := 2) (SqT.of (xs := (Ln.go 2).vs) h21) rfl) (.cons (hw2.up s21) .nil), by simp⟩
    refine ⟨_, rfl, fun r dr nr nd ne => made_bad hsp2 nr nd ne fun H22 s22 => ⟨rfl, ?_⟩⟩
    have q22 : KeepT p H21 H22 := kt_same s22
    have d22 := dice_same2 d21 s22
    have b22 := b21.ext s22
    exact k _ (KeepT.trans q1 (KeepT.trans q2 (KeepT.trans q3 (KeepT.trans q4 (KeepT.trans q5 (KeepT.trans q6 (KeepT.trans q7 (KeepT.trans q8 (KeepT.trans q9 (KeepT.trans q10 (KeepT.trans q11 (KeepT.trans q12 (KeepT.trans q13 (KeepT.trans q14 (KeepT.trans q15 (KeepT.trans q16 (KeepT.trans q17 (KeepT.trans q18 (KeepT.trans q19 (KeepT.trans q20 (KeepT.trans q21 q22))))))))))))))))))))) d22 b22
end
end Rd

/-! Nine words of one letter each, repeated -/
namespace Rd
open PySem PySem.Spec PyProof.Rows L2 Tq Dn Dc Ox LamX
abbrev tooL (n : Nat) : Bool := decide (n > sizeLine)
/-- a text some times over -/
def strN (z : Str) (k : Nat) : Str := ⟨(List.replicate k z.cps).foldl (· ++ ·) #[]⟩
theorem fold_size (a : Array Nat) : ∀ (n : Nat) (acc : Array Nat), ((List.replicate n a).foldl (· ++ ·) acc).size = acc.size + n * a.size
  | 0, acc => by simp
  | n + 1, acc => by rw [List.replicate_succ, List.foldl_cons, fold_size a n, Array.size_append, Nat.succ_mul]; omega
theorem strN_len (z : Str) (k : Nat) : (strN z k).length = k * z.length := by
  show ((List.replicate k z.cps).foldl (· ++ ·) #[]).size = k * z.cps.size
  rw [fold_size]; simp
def rMulS : R2 := fun x y H Q => ∃ z k, x = .str z ∧ y = .int k ∧ 1 ≤ k ∧ k ≤ 8 ∧ z.length = 1 ∧ Q (.str (strN z k.toNat)) H
theorem op_mulS {X : Cx} : OpR X (binaryOp .Mult) rMulS := by
  intro pins s σ H x y v u Q I rx ry h
  obtain ⟨z, k, rfl, rfl, h1, h2, hz, q⟩ := h
  obtain ⟨t, rfl⟩ := rx
  obtain ⟨t', rfl⟩ := ry
  have fit : ∀ x : Int, 1 ≤ x → x ≤ 8 → ¬ (((1 : Nat) : Int) > (2 ^ 63 - 1) / x) := fun x a b => by
    have : (1 : Int) ≤ (2 ^ 63 - 1) / x := Int.le_ediv_of_mul_le (by omega) (by omega)
    omega
  have lo : (decide (k < -(2 ^ 63 : Int)) || decide (k ≥ 2 ^ 63)) = false := by rw [decide_eq_false (by omega : ¬ k < -(2 ^ 63 : Int)), decide_eq_false (by omega : ¬ k ≥ 2 ^ 63)]; rfl
  have sz : tooL (1 * k.toNat) = false := decide_eq_false (by have : k.toNat ≤ 8 := by omega
                                                              rw [sizeLine_eq]; omega)
  refine P.mul_str lo (fun _ _ => by rw [hz]; exact fit k h1 h2) (fun _ _ => by rw [hz]; exact sz) ?_
  rw [if_neg (by omega)]
  by_cases hk : (k == 1 || z.length == 0) = true
  · rw [if_pos hk]
    have e1 : k = 1 := by
      rcases Bool.or_eq_true_iff.mp hk with h | h
      · exact beq_iff_eq.mp h
      · rw [hz] at h; cases h
    subst e1
    have e : strN z (1 : Int).toNat = z := by
      show (⟨#[] ++ z.cps⟩ : Str) = z
      rw [Array.empty_append]
    rw [e] at q
    exact ⟨.str z, H, I, ⟨_, rfl⟩, q⟩
  · rw [if_neg hk]
    exact ⟨(by show (strN z k.toNat).length ≤ sizeLine; rw [strN_len, hz, sizeLine_eq]; omega), ⟨.str (strN z k.toNat), H, I.tok _, ⟨_, rfl⟩, q⟩⟩
/-- the word of letter i, k times -/
abbrev wS (i k : Nat) : Str := strN ⟨#[97 + i]⟩ k
theorem wS_name : ∀ i, i < 9 → ∀ k, k < 9 → 0 < k → nameS (wS i k) = true := by decide +kernel
theorem wS_head : ∀ i, i < 9 → ∀ k, k < 9 → 0 < k → (wS i k).cps[0]? = some (97 + i) := by decide +kernel
theorem wS_inj {i j k l : Nat} (hi : i < 9) (hj : j < 9) (hk : k < 9) (hk0 : 0 < k) (hl : l < 9) (hl0 : 0 < l) (e : wS i k = wS j l) : i = j := by
  have a := wS_head i hi k hk hk0
  have b := wS_head j hj l hl hl0
  rw [e, b] at a
  have := Option.some.inj a
  omega
abbrev abcS : Str := "abcdefghijklmnopqrstuvwxyz"
theorem abc_let : ∀ i, i < 9 → abcS.cps.toList[i]? = some (97 + i) := by decide +kernel
abbrev sWo : Stmt := top 56
/-- so many words, each of its letter -/
def Words (i : Nat) (ws : List Str) : Prop := ws.length = i ∧ ∀ j, j < i → ∃ k, 0 < k ∧ k < 9 ∧ ws[j]? = some (wS j k)
def spWo : Sp := fun vs H Q _ => ∃ p, vs = [.ref p, .int 9] ∧ DiceAt H p ∧ ∀ H' D ws, Keep p H H' → DiceAt H' p → H D = none → D ≠ p → H' D = some (.lst (ws.map V.str)) → Words 9 ws → Q (.ref D) H'
theorem scWo : FnScope ["_law_dice_here", "_law_many", "_law_found", "_law_at"] ["_law_dice_here", "_law_many"] (defScope sWo) := ⟨rfl, rfl, rfl, by decide +kernel, rfl, by decide +kernel, by decide +kernel⟩
section
variable {P : Program} {w : World} {K : PySem.W.Frag} {mg : Str → Option Value} {base : Heap}
theorem ok_wo {f : Addr} {fd : FuncData} (F : Fun K "_law_words" "_law_words" sWo f fd) (T : TxB K mg) (hR : Has P w K mg base "_law_roll" 1 ["_law_dice_here", "_law_total"] spRoll) : FnOk P w K mg base CX0 2 f fd ["_law_dice_here", "_law_many"] spWo := by
  obtain ⟨fR, fdR, mR, kR, bR, GR⟩ := hR
  refine F.ok scWo (fun vs H Q E h => ?_) (fun cdv A outer s H0 vs Q E hr h => ?_)
  · obtain ⟨p, rfl, _⟩ := h; rfl
  · obtain ⟨p, rfl, d0, k⟩ := h
    refine ⟨_, pss_cons (ps_set (i := 2) scWo.nd rfl (Or.inl rfl) (pe_lst pa_nil))
      (pss_cons (ps_for PassesOwn.never rfl (pi_range1 (by rfl) T.range (pa_cons (pv 1) pa_nil)) (pg_name (i := 3) scWo.nd rfl (.inl rfl))
        (pss_one (ps_expr (pe_bm PySem.F.plainAttrs_list PySem.F.slot_list_append PySem.F.type_list_append mt_append (pv 2) (pa_cons (pe_op op_mulS (pe_ix ix_str pe_str (pv 3) (fun _ _ => rfl)) (pe_op op_add pe_int (pe_call GR hr (by rfl) mR kR bR .nil pass0 (pa_cons (pv 0) (pa_cons pe_int pa_nil))))) pa_nil)))))
      (pss_one (ps_ret (pv 2)))), ?_⟩
    refine ⟨(by show 0 ≤ sizeLine; decide), fun D nD => ?_⟩
    have neD := dice_ne d0 nD
    have s1 := same_new (o := HO.lst []) nD
    have h1 : upd H0 D (HO.lst []) D = some (.lst []) := upd_same
    have d1 := dice_same2 d0 s1
    generalize upd H0 D (HO.lst []) = H1 at s1 h1 d1 ⊢
    refine ⟨_, rfl, 9, rfl, by decide, by decide, ?_⟩
    refine for_it walk_range (fun i σ H' => (∃ b, σ = [some (.ref p), some (.int 9), some (.ref D), b]) ∧ Keep p H0 H' ∧ DiceAt H' p ∧ ∃ ws, H' D = some (.lst (ws.map V.str)) ∧ Words i ws) ⟨⟨_, rfl⟩, same_keep s1, d1, [], h1, rfl, fun j hj => absurd hj (by omega)⟩ (fun _ _ _ _ _ => trivial) ?_ ?_
    · rintro i x σ Ha Hb hi ⟨⟨b, rfl⟩, ka, da, ws, eD, lw, hw⟩ ⟨rfl, rfl⟩
      have hi9 : i < 9 := hi
      obtain ⟨xa, xb, xc, hp, ha⟩ := id da
      refine ⟨_, rfl, Or.inl ⟨rfl, _, SqL.of eD⟩, _, rfl, _, _, 97 + i, rfl, rfl, (by decide +kernel), (by rw [Int.zero_add]; exact atI_nat (abc_let i hi9)), ?_⟩
      refine ⟨_, rfl, p, 8, xa, xb, xc, rfl, hp, ha, by decide, by decide, fun v ya yb yc v1 v2 v3 => ?_⟩
      obtain ⟨n, rfl⟩ : ∃ n : Nat, v = (n : Int) := ⟨v.toNat, (Int.toNat_of_nonneg v1).symm⟩
      have k1 : Keep p Hb (upd Hb p (.lst [.int ya, .int yb, .int yc])) := keep_upd
      have d2 : DiceAt (upd Hb p (.lst [.int ya, .int yb, .int yc])) p := .upd v3
      have eD2 := k1 _ _ neD eD
      generalize upd Hb p (HO.lst [V.int ya, V.int yb, V.int yc]) = H2 at k1 d2 eD2 ⊢
      refine ⟨_, _, rfl, rfl, _, _, rfl, rfl, by omega, by omega, rfl, ?_⟩
      refine ⟨D, _, _, rfl, rfl, eD2, (by rw [List.length_map, lw, sizeLine_eq]; omega), ?_⟩
      refine ⟨⟨_, rfl⟩, fun b o nb e => ?_, dice_upd d2 neD, ws ++ [wS i (n + 1)], by rw [upd_same, List.map_append, show ((1 : Int) + (n : Int)).toNat = n + 1 by omega]; rfl, by rw [List.length_append, lw]; rfl, fun j hj => ?_⟩
      · rw [upd_ne (fun z => by rw [z, nD] at e; cases e)]
        exact k1 b o nb (ka b o nb e)
      · by_cases hji : j < i
        · obtain ⟨k, k0, k9, ek⟩ := hw j hji
          exact ⟨k, k0, k9, by rw [List.getElem?_append_left (by omega)]; exact ek⟩
        · obtain rfl : j = i := by omega
          exact ⟨n + 1, by omega, by omega, by rw [List.getElem?_append_right (by omega), lw, Nat.sub_self]; rfl⟩
    · rintro σ Hf ⟨⟨b, rfl⟩, kf, df, ws, eD, hw⟩
      exact ⟨_, rfl, k _ D ws kf df nD neD eD hw⟩
end
end Rd

/-! Lines and tested pairs at the limits -/
namespace Rd
open PySem PySem.Spec PyProof.Rows L2 Tq Dn Dc Ox LamX
abbrev sSz : Stmt := top 57
abbrev nSz : List Str := ["_law_dice_here", "_law_many", "_law_words_here", "_law_turn", "_law_lines_here", "_law_tested", "_law_rows", "_law_at"]
theorem scSz : FnScope nSz ["_law_dice_here"] (defScope sSz) := ⟨rfl, rfl, rfl, by decide +kernel, rfl, by decide +kernel, by decide +kernel⟩
theorem keep_refl {p : Addr} (H : Hp) : Keep p H H := fun _ _ _ h => h
def spSz : Sp := fun vs H Q _ => ∃ p, vs = [.ref p] ∧ DiceAt H p ∧ ∀ H', Keep p H H' → DiceAt H' p → Q (.bl true) H'
structure TxSz (K : PySem.W.Frag) (mg : Str → Option Value) (P : Program) (w : World) (base : Heap) : Prop extends TxM K mg where
  roll : Has P w K mg base "_law_roll" 1 ["_law_dice_here", "_law_total"] spRoll
  one : Has P w K mg base "_law_one_of" 2 ["_law_dice_here", "_law_items"] spOne
  wo : Has P w K mg base "_law_words" 2 ["_law_dice_here", "_law_many"] spWo
  ir : Has P w K mg base "_law_is_reader" 8 ["_law_lines_here"] (spIsR K)
theorem bl_shaped (b : Bool) : SeqAt.shaped (.bool b) = true := by cases b <;> decide +kernel
theorem bl_eqv (a b : Bool) : PyData.eqv (.bool a) (.bool b) = (a == b) := by cases a <;> cases b <;> simp [PyData.eqv]
theorem isr {K : PySem.W.Frag} {H : Hp} {v : V} {b : Bool} {Q : VK} {E : XK} (h : (b = true ∧ ∃ (L : Addr) (rs : RowsL), v = .ref L ∧ LinesAt K H L rs ∧ RdOk rs) ∨ (b = false ∧ Refused K H v)) (k : ∀ H', Same H H' → Q (.bl b) H') : spIsR K [v] H Q E := by
  rcases h with ⟨rfl, L, rs, e, hL, ok⟩ | ⟨rfl, hr⟩
  · exact ⟨v, rfl, .inl ⟨L, rs, e, hL, ok, k⟩⟩
  · exact ⟨v, rfl, .inr ⟨hr, k⟩⟩
theorem isrC {K : PySem.W.Frag} {σ : L2.St} {H : Hp} {v : V} {b : Bool} {Q : VK} (h : (b = true ∧ ∃ (L : Addr) (rs : RowsL), v = .ref L ∧ LinesAt K H L rs ∧ RdOk rs) ∨ (b = false ∧ Refused K H v)) (k : ∀ H', Same H H' → Q (.bl b) H') :
    tNil σ H (fun xs H2 => (fun vs H1 => spIsR K (vs ++ []) H1 Q E0) (v :: xs) H2) := isr (E := E0) h k
theorem atI_m1 {xs : List V} {v : V} {n : Nat} (hl : xs.length = n + 1) (h : xs[n]? = some v) : atI xs (-1) = some v := by
  have e : xs = xs.take n ++ [v] := by
    have e1 : xs.take (n + 1) = xs.take n ++ [v] := by rw [List.take_add_one, h]; rfl
    rw [← e1, List.take_of_length_le (by omega)]
  rw [e]; exact atI_last _ v
/-- the line that tests pair j -/
def IfAt (ws : List Str) (tt : Nat) (l : Ln) (j : Nat) : Prop := ∃ a b n, ws[j]? = some a ∧ ws[8]? = some b ∧ n ≤ tt + 2 ∧ l = .ift a b n
structure RowsOk (ws : List Str) (tt : Nat) (rs : RowsL) : Prop where
  len : rs.length = tt + 2
  fine : ∀ r ∈ rs, r.2.fine (tt + 2) = true
  some_ : ∀ r ∈ rs, r.2.word = "if" → ∃ j, j < tt ∧ IfAt ws tt r.2 j
  all : ∀ j, j < tt → ∃ r ∈ rs, IfAt ws tt r.2 j
theorem mem_move {α : Type} {rs : List α} {k : Nat} {x r : α} (h : rs[k]? = some x) : r ∈ rs.eraseIdx k ++ [x] ↔ r ∈ rs := by
  obtain ⟨hk, e⟩ := List.getElem?_eq_some_iff.mp h
  have e1 : rs = rs.take k ++ x :: rs.drop (k + 1) := by
    conv => lhs; rw [← List.take_append_drop k rs]
    rw [List.drop_eq_getElem_cons hk, e]
  rw [List.eraseIdx_eq_take_drop_succ]
  conv => rhs; rw [e1]
  simp only [List.mem_append, List.mem_cons, List.not_mem_nil, or_false]
  constructor
  · rintro ((h | h) | h)
    · exact .inl h
    · exact .inr (.inr h)
    · exact .inr (.inl h)
  · rintro (h | h | h)
    · exact .inl (.inl h)
    · exact .inr h
    · exact .inl (.inr h)
theorem map_eraseIdx {α β : Type} (f : α → β) : ∀ (xs : List α) (n : Nat), (xs.eraseIdx n).map f = (xs.map f).eraseIdx n
  | [], _ => rfl
  | _ :: _, 0 => rfl
  | x :: xs, n + 1 => by rw [List.eraseIdx_cons_succ, List.map_cons, List.map_cons, List.eraseIdx_cons_succ, map_eraseIdx f xs n]
theorem RowsOk.move {ws : List Str} {tt : Nat} {rs : RowsL} {k : Nat} {x : Addr × Ln} (h : RowsOk ws tt rs) (hx : rs[k]? = some x) : RowsOk ws tt (rs.eraseIdx k ++ [x]) := by
  obtain ⟨hk, _⟩ := List.getElem?_eq_some_iff.mp hx
  have l1 : (rs.eraseIdx k).length = rs.length - 1 := List.length_eraseIdx_of_lt hk
  refine ⟨by rw [List.length_append, l1, List.length_singleton]; have := h.len; omega, fun r hr => h.fine r ((mem_move hx).mp hr), fun r hr => h.some_ r ((mem_move hx).mp hr), fun j hj => ?_⟩
  obtain ⟨r, hr, e⟩ := h.all j hj
  exact ⟨r, (mem_move hx).mpr hr, e⟩
theorem keys_if {ls : List Ln} {k : List Str} : k ∈ keysOf ["if"] ls ↔ ∃ l ∈ ls, l.word = "if" ∧ l.key = k := by
  unfold keysOf
  rw [List.mem_map]
  constructor
  · rintro ⟨l, hl, e⟩
    obtain ⟨h1, h2⟩ := List.mem_filter.mp hl
    exact ⟨l, h1, by simpa using h2, e⟩
  · rintro ⟨l, hl, hw, e⟩
    exact ⟨l, List.mem_filter.mpr ⟨hl, by simpa using hw⟩, e⟩
theorem rows_few {ws : List Str} {tt : Nat} {rs : RowsL} (hW : Words 9 ws) (h : RowsOk ws tt rs) (ht : tt ≤ 6) : RdOk rs := by
  refine ⟨by have := h.len; omega, fun r hr => by rw [h.len]; exact h.fine r hr, fun ps hA => ?_⟩
  have sub : ∀ k ∈ ps, k ∈ (List.range tt).map fun j => [(ws[j]?).getD ("" : Str), (ws[8]?).getD ("" : Str)] := fun k hk => by
    obtain ⟨l, hl, hw, e⟩ := keys_if.mp ((hA.mem k).mp hk)
    obtain ⟨r, hr, rfl⟩ := List.mem_map.mp hl
    obtain ⟨j, hj, a, b, n, ha, hb, _, el⟩ := h.some_ r hr hw
    refine List.mem_map.mpr ⟨j, List.mem_range.mpr hj, ?_⟩
    rw [← e, el, ha, hb]; rfl
  have := sub_len (up_nodup hA.up) sub
  rw [List.length_map, List.length_range] at this
  omega
theorem rows_many {ws : List Str} {tt : Nat} {rs : RowsL} (hW : Words 9 ws) (h : RowsOk ws tt rs) (ht : 6 < tt) (h8 : tt ≤ 8) {ps : List (List Str)} (hA : Asc (keysOf ["if"] (rs.map Prod.snd)) ps) : 6 < ps.length := by
  have nd : ((List.range tt).map fun j => [(ws[j]?).getD ("" : Str), (ws[8]?).getD ("" : Str)]).Nodup := by
    rw [List.nodup_iff_pairwise_ne, List.pairwise_map]
    refine (List.nodup_iff_pairwise_ne.mp (List.nodup_range (n := tt))).imp_of_mem fun {i j} hi hj ne e => ne ?_
    have hi := List.mem_range.mp hi
    have hj := List.mem_range.mp hj
    obtain ⟨k, k0, k9, ek⟩ := hW.2 i (by omega)
    obtain ⟨l, l0, l9, el⟩ := hW.2 j (by omega)
    rw [ek, el] at e
    exact wS_inj (by omega) (by omega) k9 k0 l9 l0 (List.cons.inj e).1
  have := sub_len nd fun k hk => by
    obtain ⟨j, hj, rfl⟩ := List.mem_map.mp hk
    obtain ⟨r, hr, a, b, n, ha, hb, _, el⟩ := h.all j (List.mem_range.mp hj)
    refine (hA.mem _).mpr (keys_if.mpr ⟨r.2, List.mem_map_of_mem hr, by rw [el]; rfl, ?_⟩)
    rw [el, ha, hb]; rfl
  rw [List.length_map, List.length_range] at this
  omega
section
variable {P : Program} {w : World} {K : PySem.W.Frag} {mg : Str → Option Value} {base : Heap}
theorem ok_sz {f : Addr} {fd : FuncData} (F : Fun K "_law_sizes_right" "_law_sizes_right" sSz f fd) (T : TxSz K mg P w base) : FnOk P w K mg base CX0 9 f fd ["_law_dice_here"] spSz := by
  obtain ⟨fR, fdR, mR, kR, bR, GR⟩ := T.roll
  obtain ⟨fO, fdO, mO, kO, bO, GO⟩ := T.one
  obtain ⟨fW, fdW, mW, kW, bW, GW⟩ := T.wo
  obtain ⟨fI, fdI, mI, kI, bI, GI⟩ := T.ir
  refine F.ok scSz (fun vs H Q E h => ?_) (fun cdv A outer s H0 vs Q E hr h => ?_)
  · obtain ⟨p, rfl, _⟩ := h; rfl
  · obtain ⟨p, rfl, d0, k⟩ := h
    have hu := hr.units
    have r1 := hr.mono (show 1 ≤ 8 by decide)
    have r2 := hr.mono (show 2 ≤ 8 by decide)
    refine ⟨_, pss_cons (ps_asg (pe_tup (pa_cons (pe_op op_add pe_int (pe_call GR r1 (by rfl) mR kR bR .nil pass0 (pa_cons (pv 0) (pa_cons pe_int pa_nil)))) (pa_cons (pe_call GW r2 (by rfl) mW kW bW .nil pass0 (pa_cons (pv 0) (pa_cons pe_int pa_nil))) pa_nil))) (pg_tup rfl (pgs_cons (pg_name (i := 1) scSz.nd rfl (.inr rfl)) (pgs_cons (pg_name (i := 2) scSz.nd rfl (.inr rfl)) pgs_nil))))
      (pss_cons (ps_set (i := 4) scSz.nd rfl (Or.inl rfl) (pe_callTy call_tupOf (by rfl) T.tuple PyProof.Rows.boot_tuple (pa_cons (pe_lc (own := [("_law_turn", 3)]) (g := gName 3) (tt := tYes) rfl scSz.nd (pi_range1 (by rfl) T.range (pa_cons (pv 1) pa_nil)) (blkOk_by (N := nSz) (sc := defScope sSz) (by decide +kernel)) (fun _ _ _ _ _ => pg_name (i := 3) scSz.nd rfl (Or.inl rfl)) (fun _ _ _ _ _ => pts_nil) (fun _ _ _ _ _ => (pe_call GO r2 (by rfl) mO kO bO .nil pass0 (pa_cons (pv 0) (pa_cons (pe_lst (pa_cons (pe_tup (pa_cons pe_str (pa_cons pe_int pa_nil))) (pa_cons (pe_tup (pa_cons pe_str (pa_cons (pv 1) pa_nil))) (pa_cons (pe_tup (pa_cons pe_str (pa_cons pe_str (pa_cons pe_str pa_nil)))) pa_nil)))) pa_nil))))) pa_nil)))
      (pss_cons (ps_if (pt_cmpR (op_neD hu) (pe_call GI hr (by rfl) mI kI bI .nil pass0 (pa_cons (pv 4) pa_nil)) (pe_cmpR op_le (pv 1) pe_int (nomark _)) (nomark _)) (pss_one (ps_ret pe_bl)) pss_nil)
      (pss_cons (ps_set (i := 5) scSz.nd rfl (Or.inr rfl) (pe_op op_add pe_int (pe_call GR r1 (by rfl) mR kR bR .nil pass0 (pa_cons (pv 0) (pa_cons pe_int pa_nil)))))
      (pss_cons (ps_setLc (i := 6) (own := [("_law_at", 7)]) (g := gName 7) (tt := tYes) (te := tTup (tCons (tC (.str "if")) (tCons (tOp (rIxL K) (tVar 2) (tVar 7)) (tCons (tOp (rIxL K) (tVar 2) (tUn (rU fun i => .int (-i)) (tC (.int 1)))) (tCons (tCall spRoll [] E0 (tCons (tVar 0) (tCons (tOp (rI0 fun i j => .int (i + j)) (tVar 5) (tC (.int 3))) tNil))) tNil))))) rfl scSz.nd rfl rfl (sw_true rfl rfl rfl rfl) (pi_range1 (by rfl) T.range (pa_cons (pv 5) pa_nil)) (blkOk_by (N := nSz) (sc := defScope sSz) (by decide +kernel)) (fun _ _ _ _ _ => pg_name (i := 7) scSz.nd rfl (Or.inl rfl)) (fun _ _ _ _ _ => pts_nil) (fun _ _ _ _ _ => (pe_tup (pa_cons pe_str (pa_cons (pe_ix ix_list (pv 2) (pv 7) (fun _ _ => rfl)) (pa_cons (pe_ix ix_list (pv 2) (pe_un un_neg pe_int) (fun _ _ => rfl)) (pa_cons (pe_call GR r1 (by rfl) mR kR bR .nil pass0 (pa_cons (pv 0) (pa_cons (pe_op op_add (pv 5) pe_int) pa_nil))) pa_nil)))))))
      (pss_cons (ps_set (i := 6) scSz.nd rfl (Or.inl rfl) (pe_op op_cat (pv 6) (pe_lst (pa_cons (pe_call GO r2 (by rfl) mO kO bO .nil pass0 (pa_cons (pv 0) (pa_cons (pv 6) pa_nil))) (pa_cons (pe_call GO r2 (by rfl) mO kO bO .nil pass0 (pa_cons (pv 0) (pa_cons (pe_lst (pa_cons (pe_tup (pa_cons pe_str (pa_cons (pe_ix ix_list (pv 2) pe_int (fun _ _ => rfl)) (pa_cons pe_str pa_nil)))) (pa_cons (pe_tup (pa_cons pe_str (pa_cons pe_str (pa_cons (pe_ix ix_list (pv 2) pe_int (fun _ _ => rfl)) pa_nil)))) pa_nil))) pa_nil))) pa_nil)))))
      (pss_cons (ps_for PassesOwn.never rfl (pi_range1 (by rfl) T.range (pa_cons (pe_op op_fdiv (pe_callB call_len_seq (by rfl) T.len PySem.boot_len (pa_cons (pv 6) pa_nil)) pe_int) pa_nil)) (pg_name (i := 3) scSz.nd rfl (.inl rfl)) (pss_one (ps_expr (pe_bm PySem.F.plainAttrs_list PySem.F.slot_list_append PySem.F.type_list_append mt_append (pv 6) (pa_cons (pe_bm PySem.F.plainAttrs_list PySem.F.slot_list_pop PySem.F.type_list_pop mt_popAt (pv 6) (pa_cons (pe_call GR r1 (by rfl) mR kR bR .nil pass0 (pa_cons (pv 0) (pa_cons (pe_callB call_len_seq (by rfl) T.len PySem.boot_len (pa_cons (pv 6) pa_nil)) pa_nil))) pa_nil)) pa_nil)))))
      (pss_one (ps_ret (pe_cmpR (op_eqD hu) (pe_call GI hr (by rfl) mI kI bI .nil pass0 (pa_cons (pe_callTy call_tupOf (by rfl) T.tuple PyProof.Rows.boot_tuple (pa_cons (pv 6) pa_nil)) pa_nil)) (pe_cmpR op_le (pv 5) pe_int (nomark _)) (nomark _)))))))))), ?_⟩
    obtain ⟨xa1, xb1, xc1, hp1, ha1⟩ := id d0
    refine ⟨_, rfl, p, 4, xa1, xb1, xc1, rfl, hp1, ha1, by omega, by omega, fun v1 ya1 yb1 yc1 v11 v21 v31 => ?_⟩
    obtain ⟨m0, rfl⟩ : ∃ n : Nat, v1 = (n : Int) := ⟨v1.toNat, (Int.toNat_of_nonneg v11).symm⟩
    have c1 : Keep p H0 (upd H0 p (.lst [.int ya1, .int yb1, .int yc1])) := keep_upd
    have d1 : DiceAt (upd H0 p (.lst [.int ya1, .int yb1, .int yc1])) p := .upd v31
    generalize upd H0 p (HO.lst [V.int ya1, V.int yb1, V.int yc1]) = H1 at c1 d1 ⊢
    refine ⟨_, _, rfl, rfl, ?_⟩
    dsimp only
    rw [show (15 : Int) + (m0 : Int) = ((15 + m0 : Nat) : Int) by omega]
    have hm18 : 15 + m0 ≤ 18 := by omega
    generalize 15 + m0 = mm at hm18 ⊢
    refine ⟨_, rfl, p, rfl, d1, fun H2 Dw ws c2 d2 nDw neDw eW hW => ?_⟩
    refine ⟨(by show 2 ≤ sizeLine; decide), fun t3 n3 => ?_⟩
    have ne3 := dice_ne d2 n3
    have s3 := same_new (o := HO.tup [V.int (mm : Int), V.ref Dw]) n3
    have h3 : upd H2 t3 (HO.tup [V.int (mm : Int), V.ref Dw]) t3 = some (HO.tup [V.int (mm : Int), V.ref Dw]) := upd_same
    have c3 : Keep p H2 (upd H2 t3 (HO.tup [V.int (mm : Int), V.ref Dw])) := same_keep s3
    have d3 := dice_same2 d2 s3
    generalize upd H2 t3 (HO.tup [V.int (mm : Int), V.ref Dw]) = H3 at s3 h3 c3 d3 ⊢
    refine ⟨t3, _, rfl, SqT.of h3, rfl, _, _, rfl, _, _, rfl, rfl, ?_⟩
    refine ⟨_, rfl, (mm : Int), rfl, by omega, by omega, fun D2 nD2 => ?_⟩
    have n2p := dice_ne d3 nD2
    refine lc_range (n := mm) (fun i H' => Keep p H3 H' ∧ DiceAt H' p ∧ ∃ rs : RowsL, H' D2 = some (.lst (rs.map fun r => .ref r.1)) ∧ (∀ r ∈ rs, H' r.1 = some (.tup r.2.vs)) ∧ rs.length = i ∧ ∀ r ∈ rs, r.2.fine mm = true ∧ r.2.word ≠ "if") ⟨keep_new nD2, dice_upd d3 n2p, [], upd_same, (fun r hr => nomatch hr), rfl, fun r hr => nomatch hr⟩ ?_ ?_
    · rintro i Ha hi ⟨ka, da, rs, ea, hrs, el, dr⟩
      refine ⟨rfl, tt_yes ?_⟩
      refine ⟨_, rfl, (by show 2 ≤ sizeLine; decide), fun ti1 ni1 => ?_⟩
      have nei1 := dice_ne da ni1
      have si1 := same_new (o := HO.tup [V.str "go", V.int 0]) ni1
      have hi1 : upd Ha ti1 (HO.tup [V.str "go", V.int 0]) ti1 = some (HO.tup [V.str "go", V.int 0]) := upd_same
      have ci1 : Keep p Ha (upd Ha ti1 (HO.tup [V.str "go", V.int 0])) := same_keep si1
      have di1 := dice_same2 da si1
      generalize upd Ha ti1 (HO.tup [V.str "go", V.int 0]) = Hi1 at si1 hi1 ci1 di1 ⊢
      refine ⟨_, rfl, (by show 2 ≤ sizeLine; decide), fun ti2 ni2 => ?_⟩
      have nei2 := dice_ne di1 ni2
      have si2 := same_new (o := HO.tup [V.str "go", V.int (mm : Int)]) ni2
      have hi2 : upd Hi1 ti2 (HO.tup [V.str "go", V.int (mm : Int)]) ti2 = some (HO.tup [V.str "go", V.int (mm : Int)]) := upd_same
      have ci2 : Keep p Hi1 (upd Hi1 ti2 (HO.tup [V.str "go", V.int (mm : Int)])) := same_keep si2
      have di2 := dice_same2 di1 si2
      generalize upd Hi1 ti2 (HO.tup [V.str "go", V.int (mm : Int)]) = Hi2 at si2 hi2 ci2 di2 ⊢
      refine ⟨(by show 3 ≤ sizeLine; decide), fun ti3 ni3 => ?_⟩
      have nei3 := dice_ne di2 ni3
      have si3 := same_new (o := HO.tup [V.str "read", V.str "item", V.str "live"]) ni3
      have hi3 : upd Hi2 ti3 (HO.tup [V.str "read", V.str "item", V.str "live"]) ti3 = some (HO.tup [V.str "read", V.str "item", V.str "live"]) := upd_same
      have ci3 : Keep p Hi2 (upd Hi2 ti3 (HO.tup [V.str "read", V.str "item", V.str "live"])) := same_keep si3
      have di3 := dice_same2 di2 si3
      generalize upd Hi2 ti3 (HO.tup [V.str "read", V.str "item", V.str "live"]) = Hi3 at si3 hi3 ci3 di3 ⊢
      refine ⟨(by show 3 ≤ sizeLine; decide), fun ti4 ni4 => ?_⟩
      have nei4 := dice_ne di3 ni4
      have si4 := same_new (o := HO.lst [V.ref ti1, V.ref ti2, V.ref ti3]) ni4
      have hi4 : upd Hi3 ti4 (HO.lst [V.ref ti1, V.ref ti2, V.ref ti3]) ti4 = some (HO.lst [V.ref ti1, V.ref ti2, V.ref ti3]) := upd_same
      have ci4 : Keep p Hi3 (upd Hi3 ti4 (HO.lst [V.ref ti1, V.ref ti2, V.ref ti3])) := same_keep si4
      have di4 := dice_same2 di3 si4
      generalize upd Hi3 ti4 (HO.lst [V.ref ti1, V.ref ti2, V.ref ti3]) = Hi4 at si4 hi4 ci4 di4 ⊢
      refine ⟨ p, ti4, _, rfl, di4, hi4, nei4, (by show 0 < 3; decide), (by show 3 < 1000; decide), fun ixi5 x yai5 ybi5 yci5 hx hyai5 => ?_⟩
      have ci5 : Keep p Hi4 (upd Hi4 p (.lst [.int yai5, .int ybi5, .int yci5])) := keep_upd
      have di5 : DiceAt (upd Hi4 p (.lst [.int yai5, .int ybi5, .int yci5])) p := .upd hyai5
      generalize upd Hi4 p (HO.lst [V.int yai5, V.int ybi5, V.int yci5]) = Hi5 at ci5 di5 ⊢
      obtain ⟨a, l, rfl, hal, fal, wal⟩ : ∃ (a : Addr) (l : Ln), x = .ref a ∧ Hi5 a = some (.tup l.vs) ∧ l.fine mm = true ∧ l.word ≠ "if" := by
        have hm := List.mem_of_getElem? hx
        simp only [List.mem_cons, List.not_mem_nil, or_false] at hm
        rcases hm with rfl | rfl | rfl
        · exact ⟨_, .go 0, rfl, ((Keep.trans ci2 (Keep.trans ci3 (Keep.trans ci4 ci5))) _ _ nei1 hi1), decide_eq_true (Nat.zero_le mm), (by show ("go" : Str) ≠ "if"; decide +kernel)⟩
        · exact ⟨_, .go mm, rfl, ((Keep.trans ci3 (Keep.trans ci4 ci5)) _ _ nei2 hi2), decide_eq_true (Nat.le_refl _), (by show ("go" : Str) ≠ "if"; decide +kernel)⟩
        · exact ⟨_, .read "item" "live", rfl, ((Keep.trans ci4 ci5) _ _ nei3 hi3), (by show (nameS "item" && nameS "live") = true; decide +kernel), (by show ("read" : Str) ≠ "if"; decide +kernel)⟩
      have eD := (Keep.trans ci1 (Keep.trans ci2 (Keep.trans ci3 (Keep.trans ci4 ci5)))) _ _ n2p ea
      refine ⟨_, eD, by rw [List.length_map, sizeLine_eq]; omega, fun b o nb e => ?_, dice_upd di5 n2p, rs ++ [(a, l)], by rw [upd_same, List.map_append]; rfl, fun r hr => ?_, by rw [List.length_append, el]; rfl, fun r hr => ?_⟩
      · rw [upd_ne (fun z => by rw [z, nD2] at e; cases e)]
        exact (Keep.trans ci1 (Keep.trans ci2 (Keep.trans ci3 (Keep.trans ci4 ci5)))) b o nb (ka b o nb e)
      · rcases List.mem_append.mp hr with z | z
        · have h5 := (Keep.trans ci1 (Keep.trans ci2 (Keep.trans ci3 (Keep.trans ci4 ci5)))) r.1 _ (not_p da (hrs r z) (fun _ q => by cases q)) (hrs r z)
          rw [upd_ne (fun q => by rw [q, eD] at h5; cases h5)]; exact h5
        · rw [List.mem_singleton.mp z]
          have h5 := hal
          rw [upd_ne (fun q => by rw [show a = D2 from q, eD] at h5; cases h5)]; exact h5
      · rcases List.mem_append.mp hr with z | z
        · exact dr r z
        · rw [List.mem_singleton.mp z]; exact ⟨fal, wal⟩
    rintro H4 ⟨c4, d4, rs, eb, hrs, el, dr⟩
    refine ⟨D2, _, rfl, SqL.of eb, fun t5 n5 => ?_⟩
    have ne5 := dice_ne d4 n5
    have s5 := same_new (o := HO.tup (rs.map fun r => V.ref r.1)) n5
    have h5 : upd H4 t5 (HO.tup (rs.map fun r => V.ref r.1)) t5 = some (HO.tup (rs.map fun r => V.ref r.1)) := upd_same
    have c5 : Keep p H4 (upd H4 t5 (HO.tup (rs.map fun r => V.ref r.1))) := same_keep s5
    have d5 := dice_same2 d4 s5
    generalize upd H4 t5 (HO.tup (rs.map fun r => V.ref r.1)) = H5 at s5 h5 c5 d5 ⊢
    have hL : LinesAt K H5 t5 rs := ⟨SqT.of h5, fun r hr => SqT.of (s5 _ _ (hrs r hr))⟩
    have hv : (decide (mm ≤ 16) = true ∧ ∃ (L : Addr) (rs : RowsL), V.ref t5 = .ref L ∧ LinesAt K H5 L rs ∧ RdOk rs) ∨ (decide (mm ≤ 16) = false ∧ Refused K H5 (.ref t5)) := by
      by_cases h16 : mm ≤ 16
      · refine .inl ⟨decide_eq_true h16, _, rs, rfl, hL, by omega, fun r hr => by rw [el]; exact (dr r hr).1, fun ps hA => ?_⟩
        cases ps with
        | nil => exact Nat.zero_le _
        | cons x xs =>
          obtain ⟨l, hl, hw, _⟩ := keys_if.mp ((hA.mem x).mp List.mem_cons_self)
          obtain ⟨r, hr, rfl⟩ := List.mem_map.mp hl
          exact absurd hw (dr r hr).2
      · exact .inr ⟨decide_eq_false h16, .inr ⟨_, _, rfl, hL.1, .inr ⟨by rw [List.length_map]; omega, .inl (by rw [List.length_map]; omega)⟩⟩⟩
    refine ⟨_, rfl, isrC (b := decide (mm ≤ 16)) hv fun H6 s6 => ?_⟩
    have c6 : Keep p H5 H6 := same_keep s6
    have d6 := dice_same2 d5 s6
    refine ⟨_, rfl, _, _, rfl, rfl, .bool (decide (mm ≤ 16)), .bool (decide ((mm : Int) ≤ 16)), .bl _, .bl _, bl_shaped _, bl_shaped _, _, rfl, ?_⟩
    rw [show decide ((mm : Int) ≤ 16) = decide (mm ≤ 16) from decide_eq_decide.mpr (by omega), SeqAt.eqv_refl _ (SeqAt.canLay_of_shaped (bl_shaped _))]
    refine iteF ?_
    clear hv hL eb hrs el dr
    obtain ⟨xa7, xb7, xc7, hp7, ha7⟩ := id d6
    refine ⟨_, rfl, p, 4, xa7, xb7, xc7, rfl, hp7, ha7, by omega, by omega, fun v7 ya7 yb7 yc7 v17 v27 v37 => ?_⟩
    obtain ⟨m1, rfl⟩ : ∃ n : Nat, v7 = (n : Int) := ⟨v7.toNat, (Int.toNat_of_nonneg v17).symm⟩
    have c7 : Keep p H6 (upd H6 p (.lst [.int ya7, .int yb7, .int yc7])) := keep_upd
    have d7 : DiceAt (upd H6 p (.lst [.int ya7, .int yb7, .int yc7])) p := .upd v37
    generalize upd H6 p (HO.lst [V.int ya7, V.int yb7, V.int yc7]) = H7 at c7 d7 ⊢
    refine ⟨_, _, rfl, rfl, ?_⟩
    dsimp only
    rw [show (5 : Int) + (m1 : Int) = ((5 + m1 : Nat) : Int) by omega]
    have ht8 : 5 + m1 ≤ 8 := by omega
    have ht5 : 5 ≤ 5 + m1 := by omega
    generalize 5 + m1 = tt at ht8 ht5 ⊢
    obtain ⟨kw, kw0, kw9, ew⟩ := hW.2 8 (by decide)
    refine ⟨_, rfl, (tt : Int), rfl, by omega, by omega, fun D3 nD3 => ?_⟩
    have n3p := dice_ne d7 nD3
    refine lc_range (n := tt) (fun i H' => Keep p H7 H' ∧ DiceAt H' p ∧ ∃ rs : RowsL, H' D3 = some (.lst (rs.map fun r => .ref r.1)) ∧ (∀ r ∈ rs, H' r.1 = some (.tup r.2.vs)) ∧ rs.length = i ∧ (∀ r ∈ rs, ∃ j, j < tt ∧ IfAt ws tt r.2 j) ∧ ∀ j, j < i → ∃ r ∈ rs, IfAt ws tt r.2 j) ⟨keep_new nD3, dice_upd d7 n3p, [], upd_same, (fun r hr => nomatch hr), rfl, (fun r hr => nomatch hr), fun j hj => absurd hj (by omega)⟩ ?_ ?_
    · rintro i Ha hi ⟨ka, da, rs, ea, hrs, el, dr, al⟩
      have eWa := ka _ _ neDw ((Keep.trans c3 (Keep.trans c4 (Keep.trans c5 (Keep.trans c6 c7)))) _ _ neDw eW)
      obtain ⟨ki, ki0, ki9, ei⟩ := hW.2 i (by omega)
      have mp : ∀ {j : Nat} {s : Str}, ws[j]? = some s → (ws.map V.str)[j]? = some (V.str s) := fun h => by rw [List.getElem?_map, h]; rfl
      refine ⟨rfl, tt_yes ?_⟩
      refine ⟨_, rfl, _, rfl, Dw, _, _, _, rfl, rfl, SqL.of eWa, (by rw [Int.zero_add]; exact atI_nat (mp ei)), _, rfl, _, rfl, Dw, _, _, _, rfl, rfl, SqL.of eWa, atI_m1 (by rw [List.length_map, hW.1]) (mp ew), ?_⟩
      obtain ⟨xaj1, xbj1, xcj1, hpj1, haj1⟩ := id da
      refine ⟨_, rfl, _, rfl, _, _, rfl, rfl, p, (tt : Int) + 3, xaj1, xbj1, xcj1, rfl, hpj1, haj1, by omega, by omega, fun vj1 yaj1 ybj1 ycj1 v1j1 v2j1 v3j1 => ?_⟩
      obtain ⟨n, rfl⟩ : ∃ n : Nat, vj1 = (n : Int) := ⟨vj1.toNat, (Int.toNat_of_nonneg v1j1).symm⟩
      have cj1 : Keep p Ha (upd Ha p (.lst [.int yaj1, .int ybj1, .int ycj1])) := keep_upd
      have dj1 : DiceAt (upd Ha p (.lst [.int yaj1, .int ybj1, .int ycj1])) p := .upd v3j1
      generalize upd Ha p (HO.lst [V.int yaj1, V.int ybj1, V.int ycj1]) = Hj1 at cj1 dj1 ⊢
      refine ⟨(by show 4 ≤ sizeLine; decide), fun tj2 nj2 => ?_⟩
      have nej2 := dice_ne dj1 nj2
      have sj2 := same_new (o := HO.tup [V.str "if", V.str (wS i ki), V.str (wS 8 kw), V.int (n : Int)]) nj2
      have hj2 : upd Hj1 tj2 (HO.tup [V.str "if", V.str (wS i ki), V.str (wS 8 kw), V.int (n : Int)]) tj2 = some (HO.tup [V.str "if", V.str (wS i ki), V.str (wS 8 kw), V.int (n : Int)]) := upd_same
      have cj2 : Keep p Hj1 (upd Hj1 tj2 (HO.tup [V.str "if", V.str (wS i ki), V.str (wS 8 kw), V.int (n : Int)])) := same_keep sj2
      have dj2 := dice_same2 dj1 sj2
      generalize upd Hj1 tj2 (HO.tup [V.str "if", V.str (wS i ki), V.str (wS 8 kw), V.int (n : Int)]) = Hj2 at sj2 hj2 cj2 dj2 ⊢
      obtain ⟨a, l, ea2, hal, hIf⟩ : ∃ (a : Addr) (l : Ln), a = tj2 ∧ Hj2 a = some (.tup l.vs) ∧ IfAt ws tt l i := ⟨_, .ift (wS i ki) (wS 8 kw) n, rfl, hj2, _, _, n, ei, ew, by omega, rfl⟩
      rw [← ea2]
      have eD := (Keep.trans cj1 cj2) _ _ n3p ea
      refine ⟨_, eD, by rw [List.length_map, sizeLine_eq]; omega, fun b o nb e => ?_, dice_upd dj2 n3p, rs ++ [(a, l)], by rw [upd_same, List.map_append]; rfl, fun r hr => ?_, by rw [List.length_append, el]; rfl, fun r hr => ?_, fun j hj => ?_⟩
      · rw [upd_ne (fun z => by rw [z, nD3] at e; cases e)]
        exact (Keep.trans cj1 cj2) b o nb (ka b o nb e)
      · rcases List.mem_append.mp hr with z | z
        · have h5 := (Keep.trans cj1 cj2) r.1 _ (not_p da (hrs r z) (fun _ q => by cases q)) (hrs r z)
          rw [upd_ne (fun q => by rw [q, eD] at h5; cases h5)]; exact h5
        · rw [List.mem_singleton.mp z]
          have h5 := hal
          rw [upd_ne (fun q => by rw [show a = D3 from q, eD] at h5; cases h5)]; exact h5
      · rcases List.mem_append.mp hr with z | z
        · exact dr r z
        · rw [List.mem_singleton.mp z]; exact ⟨i, hi, hIf⟩
      · by_cases hji : j < i
        · obtain ⟨r, hr, e⟩ := al j hji
          exact ⟨r, List.mem_append_left _ hr, e⟩
        · obtain rfl : j = i := by omega
          exact ⟨(a, l), List.mem_append_right _ (List.mem_singleton.mpr rfl), hIf⟩
    rintro H8 ⟨c8, d8, rs, eb, hrs, el, dr, al⟩
    refine ⟨_, rfl, _, rfl, _, rfl, p, D3, _, rfl, d8, eb, n3p, (by rw [List.length_map]; omega), (by rw [List.length_map]; omega), fun ix9 x1 ya9 yb9 yc9 hx1 hya9 => ?_⟩
    have c9 : Keep p H8 (upd H8 p (.lst [.int ya9, .int yb9, .int yc9])) := keep_upd
    have d9 : DiceAt (upd H8 p (.lst [.int ya9, .int yb9, .int yc9])) p := .upd hya9
    generalize upd H8 p (HO.lst [V.int ya9, V.int yb9, V.int yc9]) = H9 at c9 d9 ⊢
    obtain ⟨r1_, hr1, rfl⟩ : ∃ r ∈ rs, x1 = V.ref r.1 := by
      rw [List.getElem?_map] at hx1
      obtain ⟨r, hr, e⟩ := Option.map_eq_some_iff.mp hx1
      exact ⟨r, List.mem_of_getElem? hr, e.symm⟩
    obtain ⟨k7, k70, k79, e7⟩ := hW.2 7 (by decide)
    have mp : ∀ {j : Nat} {s : Str}, ws[j]? = some s → (ws.map V.str)[j]? = some (V.str s) := fun h => by rw [List.getElem?_map, h]; rfl
    refine ⟨_, rfl, _, rfl, Dw, _, _, _, rfl, rfl, SqL.of ((Keep.trans c3 (Keep.trans c4 (Keep.trans c5 (Keep.trans c6 (Keep.trans c7 (Keep.trans c8 c9)))))) _ _ neDw eW), atI_nat (j := 8) (mp ew), (by show 3 ≤ sizeLine; decide), fun t10 n10 => ?_⟩
    have ne10 := dice_ne d9 n10
    have s10 := same_new (o := HO.tup [V.str "read", V.str (wS 8 kw), V.str "x"]) n10
    have h10 : upd H9 t10 (HO.tup [V.str "read", V.str (wS 8 kw), V.str "x"]) t10 = some (HO.tup [V.str "read", V.str (wS 8 kw), V.str "x"]) := upd_same
    have c10 : Keep p H9 (upd H9 t10 (HO.tup [V.str "read", V.str (wS 8 kw), V.str "x"])) := same_keep s10
    have d10 := dice_same2 d9 s10
    generalize upd H9 t10 (HO.tup [V.str "read", V.str (wS 8 kw), V.str "x"]) = H10 at s10 h10 c10 d10 ⊢
    refine ⟨_, rfl, Dw, _, _, _, rfl, rfl, SqL.of ((Keep.trans c3 (Keep.trans c4 (Keep.trans c5 (Keep.trans c6 (Keep.trans c7 (Keep.trans c8 (Keep.trans c9 c10))))))) _ _ neDw eW), atI_nat (j := 7) (mp e7), (by show 3 ≤ sizeLine; decide), fun t11 n11 => ?_⟩
    have ne11 := dice_ne d10 n11
    have s11 := same_new (o := HO.tup [V.str "look", V.str "y", V.str (wS 7 k7)]) n11
    have h11 : upd H10 t11 (HO.tup [V.str "look", V.str "y", V.str (wS 7 k7)]) t11 = some (HO.tup [V.str "look", V.str "y", V.str (wS 7 k7)]) := upd_same
    have c11 : Keep p H10 (upd H10 t11 (HO.tup [V.str "look", V.str "y", V.str (wS 7 k7)])) := same_keep s11
    have d11 := dice_same2 d10 s11
    generalize upd H10 t11 (HO.tup [V.str "look", V.str "y", V.str (wS 7 k7)]) = H11 at s11 h11 c11 d11 ⊢
    refine ⟨(by show 2 ≤ sizeLine; decide), fun t12 n12 => ?_⟩
    have ne12 := dice_ne d11 n12
    have s12 := same_new (o := HO.lst [V.ref t10, V.ref t11]) n12
    have h12 : upd H11 t12 (HO.lst [V.ref t10, V.ref t11]) t12 = some (HO.lst [V.ref t10, V.ref t11]) := upd_same
    have c12 : Keep p H11 (upd H11 t12 (HO.lst [V.ref t10, V.ref t11])) := same_keep s12
    have d12 := dice_same2 d11 s12
    generalize upd H11 t12 (HO.lst [V.ref t10, V.ref t11]) = H12 at s12 h12 c12 d12 ⊢
    refine ⟨ p, t12, _, rfl, d12, h12, ne12, (by show 0 < 2; decide), (by show 2 < 1000; decide), fun ix13 x2 ya13 yb13 yc13 hx2 hya13 => ?_⟩
    have c13 : Keep p H12 (upd H12 p (.lst [.int ya13, .int yb13, .int yc13])) := keep_upd
    have d13 : DiceAt (upd H12 p (.lst [.int ya13, .int yb13, .int yc13])) p := .upd hya13
    generalize upd H12 p (HO.lst [V.int ya13, V.int yb13, V.int yc13]) = H13 at c13 d13 ⊢
    obtain ⟨a2, l2, rfl, hal2, fal2, wal2⟩ : ∃ (a : Addr) (l : Ln), x2 = .ref a ∧ H13 a = some (.tup l.vs) ∧ l.fine (tt + 2) = true ∧ l.word ≠ "if" := by
      have hm := List.mem_of_getElem? hx2
      simp only [List.mem_cons, List.not_mem_nil, or_false] at hm
      rcases hm with rfl | rfl
      · exact ⟨_, .read (wS 8 kw) "x", rfl, ((Keep.trans c11 (Keep.trans c12 c13)) _ _ ne10 h10), (by show (nameS (wS 8 kw) && nameS "x") = true; rw [wS_name 8 (by decide) kw kw9 kw0]; decide +kernel), (by show ("read" : Str) ≠ "if"; decide +kernel)⟩
      · exact ⟨_, .look "y" (wS 7 k7), rfl, ((Keep.trans c12 c13) _ _ ne11 h11), (by show (nameS "y" && nameS (wS 7 k7)) = true; rw [wS_name 7 (by decide) k7 k79 k70]; decide +kernel), (by show ("look" : Str) ≠ "if"; decide +kernel)⟩
    have nea2 : a2 ≠ p := not_p d13 hal2 (fun _ z => by cases z)
    refine ⟨(by show 2 ≤ sizeLine; decide), fun t14 n14 => ?_⟩
    have ne14 := dice_ne d13 n14
    have s14 := same_new (o := HO.lst [V.ref r1_.1, V.ref a2]) n14
    have h14 : upd H13 t14 (HO.lst [V.ref r1_.1, V.ref a2]) t14 = some (HO.lst [V.ref r1_.1, V.ref a2]) := upd_same
    have c14 : Keep p H13 (upd H13 t14 (HO.lst [V.ref r1_.1, V.ref a2])) := same_keep s14
    have d14 := dice_same2 d13 s14
    generalize upd H13 t14 (HO.lst [V.ref r1_.1, V.ref a2]) = H14 at s14 h14 c14 d14 ⊢
    refine ⟨D3, t14, _, _, rfl, rfl, ((Keep.trans c9 (Keep.trans c10 (Keep.trans c11 (Keep.trans c12 (Keep.trans c13 c14))))) _ _ n3p eb), h14, (by rw [List.length_map, sizeLine_eq]; show _ + 2 ≤ _; omega), fun t15 n15 => ?_⟩
    have ne15 := dice_ne d14 n15
    have s15 := same_new (o := HO.lst ((rs.map fun r => V.ref r.1) ++ [V.ref r1_.1, V.ref a2])) n15
    have h15 : upd H14 t15 (HO.lst ((rs.map fun r => V.ref r.1) ++ [V.ref r1_.1, V.ref a2])) t15 = some (HO.lst ((rs.map fun r => V.ref r.1) ++ [V.ref r1_.1, V.ref a2])) := upd_same
    have c15 : Keep p H14 (upd H14 t15 (HO.lst ((rs.map fun r => V.ref r.1) ++ [V.ref r1_.1, V.ref a2]))) := same_keep s15
    have d15 := dice_same2 d14 s15
    generalize upd H14 t15 (HO.lst ((rs.map fun r => V.ref r.1) ++ [V.ref r1_.1, V.ref a2])) = H15 at s15 h15 c15 d15 ⊢
    have hrs5 : ∀ r ∈ rs ++ [r1_, (a2, l2)], H15 r.1 = some (.tup r.2.vs) := fun r hr => by
      have old : ∀ r ∈ rs, H15 r.1 = some (.tup r.2.vs) := fun r z => (Keep.trans c9 (Keep.trans c10 (Keep.trans c11 (Keep.trans c12 (Keep.trans c13 (Keep.trans c14 c15)))))) r.1 _ (not_p d8 (hrs r z) (fun _ q => by cases q)) (hrs r z)
      simp only [List.mem_append, List.mem_cons, List.not_mem_nil, or_false] at hr
      rcases hr with z | rfl | rfl
      · exact old r z
      · exact old r hr1
      · exact ((Keep.trans c14 c15) _ _ nea2 hal2)
    have hfine : ∀ l j, IfAt ws tt l j → j < tt → l.fine (tt + 2) = true := fun l j ⟨a, b, n, ha, hb, hn, e⟩ hj => by
      obtain ⟨k, k0, k9, ek⟩ := hW.2 j (by omega)
      rw [ek] at ha; rw [ew] at hb; cases ha; cases hb
      rw [e]
      show (nameS _ && (nameS _ && decide (n ≤ tt + 2))) = true
      rw [wS_name j (by omega) k k9 k0, wS_name 8 (by decide) kw kw9 kw0, decide_eq_true hn]; rfl
    have hR : RowsOk ws tt (rs ++ [r1_, (a2, l2)]) := by
      refine ⟨by rw [List.length_append, el]; rfl, fun r hr => ?_, fun r hr hw => ?_, fun j hj => ?_⟩
      · simp only [List.mem_append, List.mem_cons, List.not_mem_nil, or_false] at hr
        rcases hr with z | rfl | rfl
        · obtain ⟨j, hj, e⟩ := dr r z; exact hfine _ j e hj
        · obtain ⟨j, hj, e⟩ := dr _ hr1; exact hfine _ j e hj
        · exact fal2
      · simp only [List.mem_append, List.mem_cons, List.not_mem_nil, or_false] at hr
        rcases hr with z | rfl | rfl
        · exact dr r z
        · exact dr _ hr1
        · exact absurd hw wal2
      · obtain ⟨r, hr, e⟩ := al j hj
        exact ⟨r, List.mem_append_left _ hr, e⟩
    rw [show (rs.map fun r => V.ref r.1) ++ [V.ref r1_.1, V.ref a2] = (rs ++ [r1_, (a2, l2)]).map fun r => V.ref r.1 by rw [List.map_append]; rfl] at h15
    generalize rs ++ [r1_, (a2, l2)] = us at h15 hrs5 hR
    refine ⟨_, rfl, t15, _, rfl, .inl (SqL.of h15), _, _, rfl, rfl, ⟨by decide, by decide⟩, _, rfl, ?_, ?_, ?_⟩
    · rw [List.length_map, hR.len]; omega
    · rw [List.length_map, hR.len]; omega
    refine for_it walk_range (fun i σ H' => (∃ b, σ = [some (.ref p), some (.int (mm : Int)), some (.ref Dw), b, some (.ref t5), some (.int (tt : Int)), some (.ref t15), none]) ∧ Keep p H14 H' ∧ DiceAt H' p ∧ ∃ us : RowsL, H' t15 = some (.lst (us.map fun r => .ref r.1)) ∧ (∀ r ∈ us, H' r.1 = some (.tup r.2.vs)) ∧ RowsOk ws tt us) ⟨⟨_, rfl⟩, c15, d15, us, h15, hrs5, hR⟩ (fun _ _ _ _ _ => trivial) ?_ ?_
    · rintro i x σ Ha Hb hi ⟨⟨b, rfl⟩, ka, da, us, eD, hus, hU⟩ ⟨rfl, rfl⟩
      have db := da
      have lu : (us.map fun r => V.ref r.1).length = tt + 2 := by rw [List.length_map]; exact hU.len
      refine ⟨_, rfl, Or.inl ⟨rfl, _, SqL.of eD⟩, _, rfl, Or.inl ⟨rfl, _, SqL.of eD⟩, ?_⟩
      obtain ⟨xal1, xbl1, xcl1, hpl1, hal1⟩ := id db
      refine ⟨_, rfl, _, rfl, t15, _, rfl, .inl (SqL.of eD), p, ((us.map fun r => V.ref r.1).length : Int), xal1, xbl1, xcl1, rfl, hpl1, hal1, by omega, by omega, fun vl1 yal1 ybl1 ycl1 v1l1 v2l1 v3l1 => ?_⟩
      obtain ⟨n, rfl⟩ : ∃ n : Nat, vl1 = (n : Int) := ⟨vl1.toNat, (Int.toNat_of_nonneg v1l1).symm⟩
      have cl1 : Keep p Hb (upd Hb p (.lst [.int yal1, .int ybl1, .int ycl1])) := keep_upd
      have dl1 : DiceAt (upd Hb p (.lst [.int yal1, .int ybl1, .int ycl1])) p := .upd v3l1
      generalize upd Hb p (HO.lst [V.int yal1, V.int ybl1, V.int ycl1]) = Hl1 at cl1 dl1 ⊢
      have hn : n < us.length := by have := hU.len; omega
      obtain ⟨u, hu_⟩ : ∃ u, us[n]? = some u := ⟨us[n], List.getElem?_eq_getElem hn⟩
      have eD1 := cl1 _ _ ne15 eD
      have hus1 : ∀ r ∈ us, Hl1 r.1 = some (.tup r.2.vs) := fun r hr => cl1 _ _ (not_p da (hus r hr) (fun _ q => by cases q)) (hus r hr)
      refine ⟨t15, _, _, n, .ref u.1, rfl, rfl, eD1, by omega, by omega, PySem.seqIndex_of (k := (n : Int)) (by omega) (by rw [lu]; have := hU.len; omega), (by rw [List.getElem?_map, hu_]; rfl), ?_⟩
      refine ⟨t15, _, _, rfl, rfl, upd_same, (by rw [List.length_eraseIdx_of_lt (by rw [List.length_map]; exact hn), lu, sizeLine_eq]; omega), ?_⟩
      rw [upd_upd]
      refine ⟨⟨_, rfl⟩, fun b o nb e => ?_, dice_upd dl1 ne15, us.eraseIdx n ++ [u], ?_, fun r hr => ?_, hU.move hu_⟩
      · rw [upd_ne (fun z => by rw [z, n15] at e; cases e)]
        exact cl1 b o nb (ka b o nb e)
      · rw [upd_same, List.map_append, map_eraseIdx]; rfl
      · have h5 := hus1 r ((mem_move hu_).mp hr)
        rw [upd_ne (fun q => by rw [q, eD1] at h5; cases h5)]; exact h5
    rintro σ H16 ⟨⟨b, rfl⟩, c16, d16, us, eD, hus, hU⟩
    refine ⟨_, rfl, t15, _, rfl, SqL.of eD, fun t17 n17 => ?_⟩
    have ne17 := dice_ne d16 n17
    have s17 := same_new (o := HO.tup (us.map fun r => V.ref r.1)) n17
    have h17 : upd H16 t17 (HO.tup (us.map fun r => V.ref r.1)) t17 = some (HO.tup (us.map fun r => V.ref r.1)) := upd_same
    have c17 : Keep p H16 (upd H16 t17 (HO.tup (us.map fun r => V.ref r.1))) := same_keep s17
    have d17 := dice_same2 d16 s17
    generalize upd H16 t17 (HO.tup (us.map fun r => V.ref r.1)) = H17 at s17 h17 c17 d17 ⊢
    have hL : LinesAt K H17 t17 us := ⟨SqT.of h17, fun r hr => SqT.of (s17 _ _ (hus r hr))⟩
    have hv : (decide (tt ≤ 6) = true ∧ ∃ (L : Addr) (rs : RowsL), V.ref t17 = .ref L ∧ LinesAt K H17 L rs ∧ RdOk rs) ∨ (decide (tt ≤ 6) = false ∧ Refused K H17 (.ref t17)) := by
      by_cases h6 : tt ≤ 6
      · exact .inl ⟨decide_eq_true h6, _, us, rfl, hL, rows_few hW hU h6⟩
      · have lu := hU.len
        refine .inr ⟨decide_eq_false h6, .inr ⟨_, _, rfl, hL.1, .inr ⟨by rw [List.length_map]; omega, .inr ⟨us, rfl, hL.2, by omega, fun r hr => by rw [lu]; exact hU.fine r hr, fun ps hA => rows_many hW hU (by omega) ht8 hA⟩⟩⟩⟩
    refine isrC (b := decide (tt ≤ 6)) hv fun H18 s18 => ?_
    have c18 : Keep p H17 H18 := same_keep s18
    have d18 := dice_same2 d17 s18
    refine ⟨_, rfl, _, _, rfl, rfl, .bool (decide (tt ≤ 6)), .bool (decide ((tt : Int) ≤ 6)), .bl _, .bl _, bl_shaped _, bl_shaped _, ?_⟩
    rw [show decide ((tt : Int) ≤ 6) = decide (tt ≤ 6) from decide_eq_decide.mpr (by omega), SeqAt.eqv_refl _ (SeqAt.canLay_of_shaped (bl_shaped _))]
    exact k _ (Keep.trans c1 (Keep.trans c2 (Keep.trans c3 (Keep.trans c4 (Keep.trans c5 (Keep.trans c6 (Keep.trans c7 (Keep.trans c8 (Keep.trans c9 (Keep.trans c10 (Keep.trans c11 (Keep.trans c12 (Keep.trans c13 (Keep.trans c14 (Keep.trans c16 (Keep.trans c17 c18)))))))))))))))) d18
end
end Rd

/-! Readings of which no reader is made -/
namespace Rd
open PySem PySem.Spec PyProof.Rows L2 Tq Dn Dc Ox LamX
abbrev rdD (dt d : PyData) : PyData := .tuple [.str "read", dt, d]
theorem bad_rd {dt d : PyData} (h : nameD dt = false ∨ nameD d = false) (m : Int) : lineD (rdD dt d) m = false := by
  refine wr_by (.inr ?_)
  rw [lineT_str, if_neg ne3, if_neg ne5]
  rcases h with h | h <;> simp [h]
theorem paired_of {α β : Type} {F : α → β → Prop} : ∀ {xs : List α} {ys : List β}, xs.length = ys.length → (∀ (j : Nat) x y, xs[j]? = some x → ys[j]? = some y → F x y) → Paired F xs ys
  | [], [], _, _ => .nil
  | [], _ :: _, h, _ => absurd h (by simp)
  | _ :: _, [], h, _ => absurd h (by simp)
  | x :: xs, y :: ys, h, f => .cons (f 0 x y rfl rfl) (paired_of (by simpa using h) fun j a b ha hb => f (j + 1) a b ha hb)
def spReadX (K : PySem.W.Frag) (C CR : Addr) : Sp := fun vs H Q E => ∃ (tv : V) (a : Addr) (pvs : List V) (dt : PyData) (ds : List PyData), vs = [.ref C, tv, .ref a] ∧ SqT K H a pvs ∧ Dp K H tv dt ∧ DpAll K H pvs ds ∧ pvs.length ≤ 900 ∧
  (16 < pvs.length ∨ (pvs.length ≤ 16 ∧ (∀ d ∈ ds, SeqAt.shaped (rdD dt d) = true ∧ Mod_ (rdD dt d)) ∧ ∃ d ∈ ds, nameD dt = false ∨ nameD d = false)) ∧ ∀ H', Same H H' → E (.ref CR) none H'
structure TxRx (K : PySem.W.Frag) (mg : Str → Option Value) (P : Program) (w : World) (base : Heap) (C CR : Addr) : Prop extends TxX K mg P w base C CR where
  ofA : ∃ mc p g, ClX.CRead K C mc ∧ ClX.CMet K C mc "of" p g ∧ FnR P w K mg base (L2N.CX P w) 7 g (spOfA K C CR)
section
variable {P : Program} {w : World} {K : PySem.W.Frag} {mg : Str → Option Value} {base : Heap}
theorem ok_readX {C CR f : Addr} {fd : FuncData} (F : Fun K "reading" "Reader.reading" sReading f fd) (T : TxRx K mg P w base C CR) : FnR P w K mg base (L2N.CX P w) 8 f (spStar 2 (spReadX K C CR)) := by
  obtain ⟨mc, p0, g, cr, cm, G⟩ := T.ofA
  refine okStarN (ps := ["cls", "table"]) (pv := "parts") F scRe (fun kV doc pm an cdv ct => StX.bind_star2 (B := fun us => bindArgs _ ⟨us, []⟩) (p1 := "cls") (p2 := "table") (pv := "parts") (fun a b => rfl) (fun a b r rs => rfl)) (fun cdv A outer s H vs Q E hr h => ?_)
  obtain ⟨tv, a, pvs, dt, ds, rfl, ha, ht, hd, few, hbad, k⟩ := h
  have hl := dpAll_len hd
  refine ⟨_, pss_one (ps_ret (ClX.pe_cmeth (E := E) (pv 0) cr cm G hr (L2N.passes_call (L2N.takes_of rfl rfl rfl rfl) (fun _ _ _ _ h => h)) (pa_cons (pe_callTy call_tuple_of (by rfl) T.tuple PyProof.Rows.boot_tuple (pa_cons (pe_lc (own := [("part", 3)]) (g := gName 3) (tt := tYes) rfl scRe.nd (pi_tup (pv 2))
        (blkOk_by (N := ["cls", "table", "parts", "part"]) (sc := defScope sReading) (by decide +kernel)) (fun _ _ _ _ _ => pg_name (i := 3) scRe.nd rfl (Or.inl rfl)) (fun _ _ _ _ _ => pts_nil)
        (fun _ _ _ _ _ => pe_tup (pa_cons pe_str (pa_cons (pv 1) (pa_cons (pv 3) pa_nil))))) pa_nil)) pa_nil))), ?_⟩
  refine ⟨_, rfl, rfl, _, rfl, a, rfl, ⟨_, ha⟩, fun D hD => ?_⟩
  have off : Off D (fun i acc H' => ∃ ks : List Addr, acc = (ks.map fun k => V.ref k) ∧ ks.length = i ∧ ∀ (j : Nat) k v, ks[j]? = some k → pvs[j]? = some v → SqT K H' k [.str "read", tv, v]) :=
    fun i acc l H2 H3 e kp ⟨ks, z1, z2, z3⟩ => ⟨ks, z1, z2, fun j k v h1 h2 => off_seq e kp (z3 j k v h1 h2)⟩
  refine lc_fil walk_tup hD (fun i acc H' => ∃ ks : List Addr, acc = (ks.map fun k => V.ref k) ∧ ks.length = i ∧ ∀ (j : Nat) k v, ks[j]? = some k → pvs[j]? = some v → SqT K H' k [.str "read", tv, v]) ⟨[], rfl, rfl, fun j k v h => by simp at h⟩ (fun H' s' => sqT_up ha s') ?_ ?_
  · rintro i v acc H2 H3 hi s2 e2 ⟨ks, rfl, hk, hks⟩ ⟨rfl, hv⟩
    refine ⟨rfl, tt_yes ?_⟩
    refine ⟨_, rfl, _, rfl, (by show 3 ≤ sizeLine; decide), fun p np => ?_⟩
    have sn := same_new (o := HO.tup [V.str "read", tv, v]) np
    refine put_of hD off s2 e2 sn ?_ ⟨ks ++ [p], by rw [List.map_append]; rfl, by rw [List.length_append, hk]; rfl, fun j q u hj hu => ?_⟩
    · rw [List.length_map, sizeLine_eq]; omega
    · by_cases hji : j < i
      · rw [List.getElem?_append_left (by omega)] at hj
        exact sqT_up (hks j q u hj hu) sn
      · rw [List.getElem?_append_right (by omega), hk] at hj
        have e0 : j - i = 0 := by
          cases e : j - i with
          | zero => rfl
          | succ n => rw [e] at hj; simp at hj
        obtain rfl : j = i := by omega
        rw [Nat.sub_self] at hj
        cases hj
        rw [hv] at hu; cases hu
        exact SqT.of upd_same
  · rintro acc H2 s2 e2 ⟨ks, rfl, hk, hks⟩
    refine ⟨D, _, rfl, .inl ⟨SqL.of e2, fun l nl => ?_⟩⟩
    have sn := same_new (o := HO.tup (ks.map fun k => V.ref k)) nl
    refine .inr ⟨.ref l, rfl, .inr ⟨l, _, rfl, SqT.of upd_same, ?_⟩, fun H' s' => k H' ((s2.trans sn).trans s')⟩
    have lk : (ks.map fun k => V.ref k).length = pvs.length := by rw [List.length_map]; exact hk
    rcases hbad with h16 | ⟨h16, hsh, d, hdm, hdb⟩
    · exact .inr ⟨by omega, .inl (by omega)⟩
    · refine .inl ⟨by omega, ds.map fun d => lineD (rdD dt d) ((ks.map fun k => V.ref k).length : Nat), paired_of (by rw [List.length_map, List.length_map, hk, hl]) (fun j x y hx hy => ?_), List.mem_map.mpr ⟨d, hdm, bad_rd hdb _⟩⟩
      rw [List.getElem?_map] at hx hy
      obtain ⟨q, hq, rfl⟩ := Option.map_eq_some_iff.mp hx
      obtain ⟨d2, hd2, rfl⟩ := Option.map_eq_some_iff.mp hy
      obtain ⟨v, hv⟩ : ∃ v, pvs[j]? = some v := ⟨pvs[j]'(by rw [hl]; exact (List.getElem?_eq_some_iff.mp hd2).1), List.getElem?_eq_getElem _⟩
      obtain ⟨d3, hd3, dv⟩ := dpAll_get hd hv
      rw [hd2] at hd3; cases hd3
      exact .inl ⟨_, .tup (sqT_up (hks j q v hq hv) sn) (.cons (.str _) (.cons (dp_up (s2.trans sn) ht) (.cons (dp_up (s2.trans sn) dv) .nil))), (hsh _ (List.mem_of_getElem? hd2)).1, (hsh _ (List.mem_of_getElem? hd2)).2, rfl⟩
end
end Rd

/-! try: what is raised finds the names as they are -/
namespace Rd
open PySem PySem.Spec PyProof.Rows L2 Tq Dn Dc Ox LamX
/-- a reading at one state of the names -/
def tAtS (σ0 : L2.St) (te : TE) : TE := fun σ H Q => σ = σ0 ∧ te σ H Q
/-- try: E what may be raised, where the names are as they are -/
def tTryS (K : PySem.W.Frag) (i : Nat) (Wout : WX) (l : List (Value × Bool × (Addr → Value → Option Addr → TS))) (t : L2.St → XK → TS) : TS := fun D σ H => ∃ E : XK, (∀ cls d H', E cls d H' → Om.wAll K i Wout D l cls d σ H') ∧ t σ E D σ H
section
variable {X : Cx} {n : Str} {i : Nat} {body : List Stmt} {h₀ : ExceptHandler} {hds : List ExceptHandler} {l : List (Value × Bool × (Addr → Value → Option Addr → TS))} {pos : Pos} {t : L2.St → XK → TS} {Wout : WX}
theorem ps_tryS (hs : X.stack = X.env :: X.outer) (hf : X.env.frame = some X.env.locals) (hN : X.N.Nodup) (hi : X.N[i]? = some n) (hln : X.env.kindOf n = some .local) (tk : L2N.Takes X Wout)
    (hb : ∀ (σ0 : L2.St) (E : XK) (W : WX) (pn : List (Addr × Obj)) (xe : Value → Shared → Prop), PassesAt (L2N.CX X.prog X.w) (X.tr pn xe) σ0 E → PSs (X.tr pn xe) body (t σ0 E))
    (hh : Om.Clauses X n (h₀ :: hds) l) : PS X (.Try body (h₀ :: hds) [] [] pos) (tTryS X.K i Wout l t) :=
  Om.ps_try_mix (tb := fun W D σ H => ∃ E : XK, (∀ cls d H', E cls d H' → W cls d σ H') ∧ t σ E D σ H) hs hf hN hi hln tk
    (fun W pn xe tk _ => ⟨fun pins s σ H D I ⟨E, hE, h⟩ => (hb σ E W pn xe fun pins H s e s' I c => tk e s' (L2N.XE.of_call I (fun cls d H' h => hE cls d H' h) c)).run pins s σ H D I h⟩) hh
end
section
variable {X : Cx} {CX : CXT} {k : Nat} {C p g : Addr} {mc : Value} {sp : Sp} {E : XK} {o e : Expr} {es : List Expr} {m : Str} {pos apos : Pos} {ta : TE} {t : TA} {pl : Sem Bool} {σ0 : L2.St}
theorem pe_cmethS (he : PE X o ta) (r : ClX.CRead X.K C mc) (c : ClX.CMet X.K C mc m p g) (F : FnR X.prog X.w X.K X.mg X.base CX k g sp) (hr : Room k X.A) (hx : PassesAt CX X σ0 E) (ha : PA X (e :: es) t)
    (hst : starEach (e :: es) X.env = (false, eval e X.env) :: starEach es X.env := by rfl) (hpl : (backTo pos (starEach es X.env)).any (·.1) = false := by rfl)
    (ht : eval (.Call (.Attribute o m apos) (e :: es) [] pos) X.env = (do
      let ov ← eval o X.env
      standAt apos.atName
      let (f, first) ← holding [ov] (getMethod ov m pl)
      callWith pos f first (backTo pos (starEach (e :: es) X.env)) (backToKw pos (keywordEach [] X.env))) := by rfl) :
    PE X (.Call (.Attribute o m apos) (e :: es) [] pos) (tAtS σ0 (ClX.tCMeth C sp E ta t)) := by
  refine ⟨fun pins s σ H Q I ⟨hσ, h⟩ => ?_⟩
  subst hσ
  refine PySem.W.methodCall_KW (pl := pl) (thn (he.run pins s σ H _ I h) fun u s1 ⟨x, H1, I1, rx, ex, q⟩ => ?_) ht
  subst ex
  obtain rfl : u = Value.ref C := rx
  refine ClX.getmethcm_ok I1 r c fun s2 I2 => ClX.callwith_cm I2 (ClX.base_none I1 (Nat.le_refl _)) c.fi (thn (ha.run pos _ s2 σ H1 _ I2 q) fun us s3 ⟨vs, H2, I3, rv, q2⟩ => ⟨⟨ClX.pin_at I3, I3.kIn⟩, ?_⟩) hst hpl
  have z : wpAny (model X.prog X.w) X.A (call (.ref s1.heap.objs.size) us) (EP X ((s1.heap.objs.size, PySem.W.methodObj (.ref g) (.ref C)) :: pins) σ Q) X.xe s3 := by
    refine wpAny_call (PySem.W.method_call (ClX.pin_at I3) (codeAny_mono (F X.A X.stack s3 H2 (.ref C :: us) (.ref C :: vs) Q E hr I3.env0 (.cons rfl rv) q2) fun r s' hq => ?_))
    cases r with
    | error e => exact hx _ H2 s3 e s' I3 hq
    | ok fl =>
      cases fl with
      | ret u => exact I3.after hq
      | next => exact False.elim hq
      | brk => exact False.elim hq
      | cont => exact False.elim hq
  exact thn z fun _ _ y => ClX.unpinE y
end
end Rd

/-! Readings, and what is none -/
namespace Rd
open PySem PySem.Spec PyProof.Rows L2 Tq Dn Dc Ox LamX
abbrev sRr : Stmt := top 58
abbrev nRr : List Str := ["_law_dice_here", "_law_many", "_law_words_here", "_law_odd_here", "_law_parts", "_law_told", "_law_table", "_law_first", "_law_second", "_law_turn", "_law_part"]
theorem scRr : FnScope nRr ["_law_dice_here"] (defScope sRr) := ⟨rfl, rfl, rfl, by decide +kernel, rfl, by decide +kernel, by decide +kernel⟩
def spRdA (K : PySem.W.Frag) (C CR : Addr) : Sp := fun vs H Q E => spStar 2 (spReading K C) vs H Q E ∨ spStar 2 (spReadX K C CR) vs H Q E
structure TxRr (K : PySem.W.Frag) (mg : Str → Option Value) (P : Program) (w : World) (base : Heap) (C CR : Addr) : Prop extends TxM K mg where
  mgC : mg "Reader" = some (.ref C)
  gR : mg "InvalidReader" = some (.ref CR)
  eRR : PySem.W.exmOne K (.ref CR) (.ref CR) = some true
  roll : Has P w K mg base "_law_roll" 1 ["_law_dice_here", "_law_total"] spRoll
  one : Has P w K mg base "_law_one_of" 2 ["_law_dice_here", "_law_items"] spOne
  ir : Has P w K mg base "_law_is_reader" 8 ["_law_lines_here"] (spIsR K)
  len_ : HasD P w K mg base C "__len__" 1 (spLen K C)
  readA : ∃ mc p g, ClX.CRead K C mc ∧ ClX.CMet K C mc "reading" p g ∧ FnR P w K mg base (L2N.CX P w) 8 g (spRdA K C CR)
def prt : Nat → Str
  | 0 => "x"
  | 1 => "y"
  | _ => "live"
def ps3 (n : Nat) : List Str := (List.range n).map fun j => prt (j % 3)
theorem ps3_succ (n : Nat) : ps3 (n + 1) = ps3 n ++ [prt (n % 3)] := by unfold ps3; rw [List.range_succ, List.map_append]; rfl
theorem ps3_len (n : Nat) : (ps3 n).length = n := by unfold ps3; rw [List.length_map, List.length_range]
theorem prt_name : ∀ n, nameS (prt n) = true
  | 0 => by decide +kernel
  | 1 => by decide +kernel
  | _ + 2 => by show nameS "live" = true; decide +kernel
theorem ps3_name {n : Nat} : ∀ s ∈ ps3 n, nameS s = true := fun s hs => by
  obtain ⟨j, _, rfl⟩ := List.mem_map.mp hs
  exact prt_name _
theorem at3 (i : Nat) : atI ([V.str "x", V.str "y", V.str "live"] : List V) ((i : Int) % 3) = some (.str (prt (i % 3))) := by
  rw [show (i : Int) % 3 = ((i % 3 : Nat) : Int) by omega]
  refine atI_nat ?_
  have : i % 3 < 3 := Nat.mod_lt _ (by decide)
  generalize i % 3 = m at this ⊢
  match m, this with
  | 0, _ => rfl
  | 1, _ => rfl
  | 2, _ => rfl
/-- data that may stand in a line that reads -/
def oddOk (d : PyData) : Bool := (SeqAt.shaped (rdD d (.str "x")) && SeqAt.shaped (rdD d (.str "y")) && SeqAt.shaped (rdD (.str "item") d)) && (smB [.str "read", d, .str "x"] && smB [.str "read", d, .str "y"] && smB [.str "read", .str "item", d])
theorem oddOk_at {d : PyData} (h : oddOk d = true) : (SeqAt.shaped (rdD d (.str "x")) = true ∧ Mod_ (rdD d (.str "x"))) ∧ (SeqAt.shaped (rdD d (.str "y")) = true ∧ Mod_ (rdD d (.str "y"))) ∧ (SeqAt.shaped (rdD (.str "item") d) = true ∧ Mod_ (rdD (.str "item") d)) := by
  simp only [oddOk, Bool.and_eq_true] at h
  obtain ⟨⟨⟨a, b⟩, c⟩, ⟨⟨e, f⟩, g⟩⟩ := h
  exact ⟨⟨a, mod_tup2 e (by simp)⟩, ⟨b, mod_tup2 f (by simp)⟩, ⟨c, mod_tup2 g (by simp)⟩⟩
theorem itemOk : (SeqAt.shaped (rdD (.str "item") (.str "x")) = true ∧ Mod_ (rdD (.str "item") (.str "x"))) ∧ (SeqAt.shaped (rdD (.str "item") (.str "y")) = true ∧ Mod_ (rdD (.str "item") (.str "y"))) :=
  ⟨⟨by decide +kernel, mod_tup2 (by decide +kernel) (by simp)⟩, ⟨by decide +kernel, mod_tup2 (by decide +kernel) (by simp)⟩⟩
abbrev toldR : List V := [.int 2, .str "reader", .str "reader", .str "reader"]
/-- where it is refused nothing is returned -/
theorem rdA_mono {K : PySem.W.Frag} {C CR : Addr} {vs : List V} {H : Hp} {Q : VK} {E : XK} (h : spRdA K C CR vs H (fun _ _ => False) E) : spRdA K C CR vs H Q E := by
  rcases h with ⟨ws, rest, a, b, c, k⟩ | ⟨ws, rest, a, b, c, k⟩
  · refine .inl ⟨ws, rest, a, b, c, fun p np => ?_⟩
    obtain ⟨t, q, ps, h1, h2, h3, h4, h5, h6⟩ := k p np
    exact ⟨t, q, ps, h1, h2, h3, h4, h5, fun H' r rs s nr er hr => (h6 H' r rs s nr er hr).elim⟩
  · exact .inr ⟨ws, rest, a, b, c, k⟩
section
variable {P : Program} {w : World} {K : PySem.W.Frag} {mg : Str → Option Value} {base : Heap}
theorem ok_rr {C CR f : Addr} {fd : FuncData} (F : Fun K "_law_reading_right" "_law_reading_right" sRr f fd) (T : TxRr K mg P w base C CR) : FnOk P w K mg base CX0 9 f fd ["_law_dice_here"] spSz := by
  obtain ⟨fR, fdR, mR, kR, bR, GR⟩ := T.roll
  obtain ⟨fO, fdO, mO, kO, bO, GO⟩ := T.one
  obtain ⟨fI, fdI, mI, kI, bI, GI⟩ := T.ir
  obtain ⟨gL, dL, GL⟩ := T.len_
  obtain ⟨mc, p0, g0, cr, cm, GA⟩ := T.readA
  refine F.ok scRr (fun vs H Q E h => ?_) (fun cdv A outer s H0 vs Q E hr h => ?_)
  · obtain ⟨p, rfl, _⟩ := h; rfl
  · obtain ⟨p, rfl, d0, k⟩ := h
    have hu := hr.units
    have r1 := hr.mono (show 1 ≤ 8 by decide)
    have r2 := hr.mono (show 2 ≤ 8 by decide)
    refine ⟨_, pss_cons (ps_set (i := 1) scRr.nd rfl (Or.inl rfl) (pe_op op_add pe_int (pe_call GR r1 (by rfl) mR kR bR .nil pass0 (pa_cons (pv 0) (pa_cons pe_int pa_nil)))))
      (pss_cons (ps_asg (pe_tup (pa_cons (pe_lst (pa_cons pe_str (pa_cons pe_str (pa_cons pe_str pa_nil)))) (pa_cons (pe_call GO r2 (by rfl) mO kO bO .nil pass0 (pa_cons (pv 0) (pa_cons (pe_lst (pa_cons pe_non (pa_cons pe_int (pa_cons pe_str (pa_cons pe_str (pa_cons pe_str (pa_cons (pe_tup (pa_cons pe_str pa_nil)) (pa_cons pe_bl (pa_cons pe_str (pa_cons (pe_lst pa_nil) pa_nil)))))))))) pa_nil))) pa_nil))) (pg_tup rfl (pgs_cons (pg_name (i := 2) scRr.nd rfl (.inr rfl)) (pgs_cons (pg_name (i := 3) scRr.nd rfl (.inl rfl)) pgs_nil))))
      (pss_cons (ps_setLc (i := 4) (own := [("_law_turn", 9)]) (g := gName 9) (tt := tYes) (te := tOp (rIxL K) (tVar 2) (tOp (rI (fun _ j => 0 < j) fun i j => .int (i % j)) (tCB (fun xs H Q => (∃ i, xs = [.int i] ∧ Q (.int i) H) ∨ ∃ k, xs = [.bl k] ∧ Q (.int (if k then 1 else 0)) H) (tCons (tVar 9) tNil)) (tC (.int 3)))) rfl scRr.nd rfl rfl (sw_true rfl rfl rfl rfl) (pi_range1 (by rfl) T.range (pa_cons (pv 1) pa_nil)) (blkOk_by (N := nRr) (sc := defScope sRr) (by decide +kernel)) (fun _ _ _ _ _ => pg_name (i := 9) scRr.nd rfl (Or.inl rfl)) (fun _ _ _ _ _ => pts_nil) (fun _ _ _ _ _ => pe_ix ix_list (pv 2) (pe_op op_mod (pe_callTy call_int1 (by rfl) T.int PyProof.Rows.boot_int (pa_cons (pv 9) pa_nil)) pe_int) (fun _ _ => rfl)))
      (pss_cons (ps_if (pt_cmpR (op_neD hu) (pe_call GI hr (by rfl) mI kI bI .nil pass0 (pa_cons (pe_callTy call_tupOf (by rfl) T.tuple PyProof.Rows.boot_tuple (pa_cons (pe_lc (own := [("_law_part", 10)]) (g := gName 10) (tt := tYes) rfl scRr.nd (pi_list (pv 4)) (blkOk_by (N := nRr) (sc := defScope sRr) (by decide +kernel)) (fun _ _ _ _ _ => pg_name (i := 10) scRr.nd rfl (Or.inl rfl)) (fun _ _ _ _ _ => pts_nil) (fun _ _ _ _ _ => (pe_tup (pa_cons pe_str (pa_cons pe_str (pa_cons (pv 10) pa_nil)))))) pa_nil)) pa_nil)) (pe_cmpR op_le (pv 1) pe_int (nomark _)) (nomark _)) (pss_one (ps_ret pe_bl)) pss_nil)
      (pss_cons (ps_set (i := 5) scRr.nd rfl (Or.inl rfl) (pe_lst pa_nil))
      (pss_cons (ps_for PassesOwn.never rfl (pi_tup (pe_tup (pa_cons (pe_tup (pa_cons pe_str (pa_cons pe_str (pa_cons pe_str pa_nil)))) (pa_cons (pe_tup (pa_cons (pv 3) (pa_cons pe_str (pa_cons pe_str pa_nil)))) (pa_cons (pe_tup (pa_cons pe_str (pa_cons (pv 3) (pa_cons pe_str pa_nil)))) (pa_cons (pe_tup (pa_cons pe_str (pa_cons pe_str (pa_cons (pv 3) pa_nil)))) pa_nil)))))) (pg_tup rfl (pgs_cons (pg_name (i := 6) scRr.nd rfl (.inl rfl)) (pgs_cons (pg_name (i := 7) scRr.nd rfl (.inl rfl)) (pgs_cons (pg_name (i := 8) scRr.nd rfl (.inl rfl)) pgs_nil)))) (pss_one (ps_tryS (i := 5) (n := "_law_told") (l := [(.ref CR, false, fun _ _ _ => tDrop (tBM K "list" rAppend (tVar 5) (tCons (tC (.str "reader")) tNil)))]) (Wout := fun _ _ _ _ => False) (t := fun σ0 E => tDrop (tBM K "list" rAppend (tVar 5) (tCons (tCB (rLenO C (spLen K C) E0) (tCons (tAtS σ0 (ClX.tCMeth C (spRdA K C CR) E (tC (.ref C)) (tCons (tVar 6) (tCons (tVar 7) (tCons (tVar 8) tNil))))) tNil)) tNil))) rfl rfl scRr.nd rfl rfl takesN0 (fun σ0 E W pn xe hE => pss_one (ps_expr (pe_bm PySem.F.plainAttrs_list PySem.F.slot_list_append PySem.F.type_list_append mt_append (pv 5) (pa_cons (pe_callB (call_lenO dL GL r2 (fun σ => pass0A σ)) (by rfl) T.len PySem.boot_len (pa_cons (pe_cmethS (E := E) (σ0 := σ0) (pe_glob (v := .ref C) (by rfl) T.mgC rfl) cr cm GA hr hE (pa_cons (pv 6) (pa_cons (pv 7) (pa_cons (pv 8) pa_nil)))) pa_nil)) pa_nil)))) (.bare ⟨rfl, by decide, .inl T.gR⟩ (fun a oe cls d pn hz hf => pss_one (ps_expr (pe_bm PySem.F.plainAttrs_list PySem.F.slot_list_append PySem.F.type_list_append mt_append (pv 5) (pa_cons pe_str pa_nil)))) .nil))))
      (pss_one (ps_ret (pe_cmpR (op_eqD hu) (pv 5) (pe_lst (pa_cons pe_int (pa_cons pe_str (pa_cons pe_str (pa_cons pe_str pa_nil))))) (nomark _))))))))), ?_⟩
    obtain ⟨xa1, xb1, xc1, hp1, ha1⟩ := id d0
    refine ⟨_, rfl, p, 18, xa1, xb1, xc1, rfl, hp1, ha1, by omega, by omega, fun v1 ya1 yb1 yc1 v11 v21 v31 => ?_⟩
    obtain ⟨m0, rfl⟩ : ∃ n : Nat, v1 = (n : Int) := ⟨v1.toNat, (Int.toNat_of_nonneg v11).symm⟩
    have c1 : Keep p H0 (upd H0 p (.lst [.int ya1, .int yb1, .int yc1])) := keep_upd
    have d1 : DiceAt (upd H0 p (.lst [.int ya1, .int yb1, .int yc1])) p := .upd v31
    generalize upd H0 p (HO.lst [V.int ya1, V.int yb1, V.int yc1]) = H1 at c1 d1 ⊢
    refine ⟨_, _, rfl, rfl, ?_⟩
    dsimp only
    rw [show (1 : Int) + (m0 : Int) = ((1 + m0 : Nat) : Int) by omega]
    have hm18 : 1 + m0 ≤ 18 := by omega
    generalize 1 + m0 = mm at hm18 ⊢
    refine ⟨(by show 3 ≤ sizeLine; decide), fun t2 n2 => ?_⟩
    have ne2 := dice_ne d1 n2
    have s2 := same_new (o := HO.lst [V.str "x", V.str "y", V.str "live"]) n2
    have h2 : upd H1 t2 (HO.lst [V.str "x", V.str "y", V.str "live"]) t2 = some (HO.lst [V.str "x", V.str "y", V.str "live"]) := upd_same
    have c2 : Keep p H1 (upd H1 t2 (HO.lst [V.str "x", V.str "y", V.str "live"])) := same_keep s2
    have d2 := dice_same2 d1 s2
    generalize upd H1 t2 (HO.lst [V.str "x", V.str "y", V.str "live"]) = H2 at s2 h2 c2 d2 ⊢
    refine ⟨_, rfl, (by show 1 ≤ sizeLine; decide), fun t3 n3 => ?_⟩
    have ne3 := dice_ne d2 n3
    have s3 := same_new (o := HO.tup [V.str "x"]) n3
    have h3 : upd H2 t3 (HO.tup [V.str "x"]) t3 = some (HO.tup [V.str "x"]) := upd_same
    have c3 : Keep p H2 (upd H2 t3 (HO.tup [V.str "x"])) := same_keep s3
    have d3 := dice_same2 d2 s3
    generalize upd H2 t3 (HO.tup [V.str "x"]) = H3 at s3 h3 c3 d3 ⊢
    refine ⟨(by show 0 ≤ sizeLine; decide), fun t4 n4 => ?_⟩
    have ne4 := dice_ne d3 n4
    have s4 := same_new (o := HO.lst []) n4
    have h4 : upd H3 t4 (HO.lst []) t4 = some (HO.lst []) := upd_same
    have c4 : Keep p H3 (upd H3 t4 (HO.lst [])) := same_keep s4
    have d4 := dice_same2 d3 s4
    generalize upd H3 t4 (HO.lst []) = H4 at s4 h4 c4 d4 ⊢
    refine ⟨(by show 9 ≤ sizeLine; decide), fun t5 n5 => ?_⟩
    have ne5 := dice_ne d4 n5
    have s5 := same_new (o := HO.lst [V.non, V.int 1, V.str "Live", V.str "", V.str "toolongaa", V.ref t3, V.bl true, V.str "a b", V.ref t4]) n5
    have h5 : upd H4 t5 (HO.lst [V.non, V.int 1, V.str "Live", V.str "", V.str "toolongaa", V.ref t3, V.bl true, V.str "a b", V.ref t4]) t5 = some (HO.lst [V.non, V.int 1, V.str "Live", V.str "", V.str "toolongaa", V.ref t3, V.bl true, V.str "a b", V.ref t4]) := upd_same
    have c5 : Keep p H4 (upd H4 t5 (HO.lst [V.non, V.int 1, V.str "Live", V.str "", V.str "toolongaa", V.ref t3, V.bl true, V.str "a b", V.ref t4])) := same_keep s5
    have d5 := dice_same2 d4 s5
    generalize upd H4 t5 (HO.lst [V.non, V.int 1, V.str "Live", V.str "", V.str "toolongaa", V.ref t3, V.bl true, V.str "a b", V.ref t4]) = H5 at s5 h5 c5 d5 ⊢
    have hodd : ∀ x ∈ ([V.non, V.int 1, V.str "Live", V.str "", V.str "toolongaa", V.ref t3, V.bl true, V.str "a b", V.ref t4] : List V), ∃ d, nameD d = false ∧ oddOk d = true ∧ ∀ Hz, Keep p H5 Hz → Dp K Hz x d := by
      intro x hx
      simp only [List.mem_cons, List.not_mem_nil, or_false] at hx
      rcases hx with rfl | rfl | rfl | rfl | rfl | rfl | rfl | rfl | rfl
      · exact ⟨.none, rfl, by decide +kernel, fun _ _ => .non⟩
      · exact ⟨.int 1, rfl, by decide +kernel, fun _ _ => .int _⟩
      · exact ⟨.str "Live", by decide +kernel, by decide +kernel, fun _ _ => .str _⟩
      · exact ⟨.str "", by decide +kernel, by decide +kernel, fun _ _ => .str _⟩
      · exact ⟨.str "toolongaa", by decide +kernel, by decide +kernel, fun _ _ => .str _⟩
      · exact ⟨.tuple [.str "x"], rfl, by decide +kernel, fun Hz kz => .tup (SqT.of (kz _ _ ne3 ((Keep.trans c4 c5) _ _ ne3 h3))) (.cons (.str _) .nil)⟩
      · exact ⟨.bool true, rfl, by decide +kernel, fun _ _ => .bl _⟩
      · exact ⟨.str "a b", by decide +kernel, by decide +kernel, fun _ _ => .str _⟩
      · exact ⟨.list [], rfl, by decide +kernel, fun Hz kz => .lst (SqL.of (kz _ _ ne4 (c5 _ _ ne4 h4))) .nil⟩
    refine ⟨ p, t5, _, rfl, d5, h5, ne5, (by show 0 < 9; decide), (by show 9 < 1000; decide), fun ix6 xo ya6 yb6 yc6 hxo hya6 => ?_⟩
    have c6 : Keep p H5 (upd H5 p (.lst [.int ya6, .int yb6, .int yc6])) := keep_upd
    have d6 : DiceAt (upd H5 p (.lst [.int ya6, .int yb6, .int yc6])) p := .upd hya6
    generalize upd H5 p (HO.lst [V.int ya6, V.int yb6, V.int yc6]) = H6 at c6 d6 ⊢
    obtain ⟨od, odn, odk, hod⟩ := hodd xo (List.mem_of_getElem? hxo)
    obtain ⟨okx, oky, oki⟩ := oddOk_at odk
    obtain ⟨itx, ity⟩ := itemOk
    refine ⟨(by show 2 ≤ sizeLine; decide), fun t7 n7 => ?_⟩
    have ne7 := dice_ne d6 n7
    have s7 := same_new (o := HO.tup [V.ref t2, xo]) n7
    have h7 : upd H6 t7 (HO.tup [V.ref t2, xo]) t7 = some (HO.tup [V.ref t2, xo]) := upd_same
    have c7 : Keep p H6 (upd H6 t7 (HO.tup [V.ref t2, xo])) := same_keep s7
    have d7 := dice_same2 d6 s7
    generalize upd H6 t7 (HO.tup [V.ref t2, xo]) = H7 at s7 h7 c7 d7 ⊢
    refine ⟨t7, _, rfl, SqT.of h7, rfl, _, _, rfl, _, _, rfl, rfl, ?_⟩
    refine ⟨_, rfl, (mm : Int), rfl, by omega, by omega, fun D2 nD2 => ?_⟩
    have n2p := dice_ne d7 nD2
    refine lc_range (n := mm) (fun i H' => Keep p H7 H' ∧ DiceAt H' p ∧ H' D2 = some (.lst ((ps3 i).map V.str))) ⟨keep_new nD2, dice_upd d7 n2p, upd_same⟩ ?_ ?_
    · rintro i Ha hi ⟨ka, da, ea⟩
      refine ⟨rfl, tt_yes ?_⟩
      refine ⟨_, rfl, _, rfl, .inl ⟨_, rfl, _, _, rfl, rfl, (by show (0 : Int) < 3; decide), t2, _, _, _, rfl, rfl, SqL.of (ka _ _ ne2 ((Keep.trans c3 (Keep.trans c4 (Keep.trans c5 (Keep.trans c6 c7)))) _ _ ne2 h2)), (by rw [Int.zero_add]; exact at3 i), ?_⟩⟩
      refine ⟨_, ea, by rw [List.length_map, ps3_len, sizeLine_eq]; omega, fun b o nb e => ?_, dice_upd da n2p, by rw [upd_same, ps3_succ, List.map_append]; rfl⟩
      rw [upd_ne (fun z => by rw [z, nD2] at e; cases e)]
      exact ka b o nb e
    rintro H8 ⟨c8, d8, eP⟩
    refine ⟨_, rfl, D2, rfl, ⟨_, SqL.of eP⟩, fun D3 nD3 => ?_⟩
    refine lc_fil (walk_list (xs := (ps3 mm).map V.str)) nD3 (fun i acc H' => ∃ rs : RowsL, acc = (rs.map fun r => V.ref r.1) ∧ (∀ r ∈ rs, SqT K H' r.1 r.2.vs) ∧ rs.map Prod.snd = ((ps3 mm).take i).map (Ln.read "item")) ⟨[], rfl, fun r z => (by cases z), rfl⟩ (fun H' s' => sqL_up (SqL.of eP) s') ?_ ?_
    · rintro i v acc Ha Hb hi s2 e2 ⟨rs, rfl, hrs, er⟩ ⟨rfl, hv⟩
      rw [List.getElem?_map] at hv
      obtain ⟨q, hq, rfl⟩ := Option.map_eq_some_iff.mp hv
      refine ⟨rfl, tt_yes ?_⟩
      refine ⟨_, rfl, (by show 3 ≤ sizeLine; decide), fun p2 np => ?_⟩
      have sn := same_new (o := HO.tup [V.str "read", V.str "item", V.str q]) np
      refine put_of nD3 (fun i acc l H2 H3 e kp ⟨rs, z1, z2, z3⟩ => ⟨rs, z1, fun r hr => off_seq e kp (z2 r hr), z3⟩) s2 e2 sn ?_ ⟨rs ++ [(p2, Ln.read "item" q)], by rw [List.map_append]; rfl, fun r hr => ?_, ?_⟩
      · have h1 := congrArg List.length er
        rw [List.length_map, List.length_map, List.length_take, ps3_len] at h1
        rw [List.length_map, sizeLine_eq]; omega
      · rcases List.mem_append.mp hr with z | z
        · exact sqT_up (hrs r z) sn
        · rw [List.mem_singleton.mp z]; exact SqT.of upd_same
      · rw [List.map_append, er, List.take_add_one, hq, List.map_append]; rfl
    rintro acc H9 s9 e2 ⟨rs, rfl, hrs, er⟩
    have c9 : Keep p H8 H9 := same_keep s9
    have d9 := dice_same2 d8 s9
    rw [List.length_map, List.take_length] at er
    have lr : rs.length = mm := by have := congrArg List.length er; rw [List.length_map, List.length_map, ps3_len] at this; exact this
    refine ⟨D3, _, rfl, SqL.of e2, fun t10 n10 => ?_⟩
    have ne10 := dice_ne d9 n10
    have s10 := same_new (o := HO.tup (rs.map fun r => V.ref r.1)) n10
    have h10 : upd H9 t10 (HO.tup (rs.map fun r => V.ref r.1)) t10 = some (HO.tup (rs.map fun r => V.ref r.1)) := upd_same
    have c10 : Keep p H9 (upd H9 t10 (HO.tup (rs.map fun r => V.ref r.1))) := same_keep s10
    have d10 := dice_same2 d9 s10
    generalize upd H9 t10 (HO.tup (rs.map fun r => V.ref r.1)) = H10 at s10 h10 c10 d10 ⊢
    have hL : LinesAt K H10 t10 rs := ⟨SqT.of h10, fun r hr => sqT_up (hrs r hr) s10⟩
    have hv : (decide (mm ≤ 16) = true ∧ ∃ (L : Addr) (rs : RowsL), V.ref t10 = .ref L ∧ LinesAt K H10 L rs ∧ RdOk rs) ∨ (decide (mm ≤ 16) = false ∧ Refused K H10 (.ref t10)) := by
      by_cases h16 : mm ≤ 16
      · exact .inl ⟨decide_eq_true h16, _, rs, rfl, hL, reads_ok er (by decide +kernel) ps3_name (by rw [ps3_len]; exact h16)⟩
      · exact .inr ⟨decide_eq_false h16, .inr ⟨_, _, rfl, hL.1, .inr ⟨by rw [List.length_map]; omega, .inl (by rw [List.length_map]; omega)⟩⟩⟩
    refine isrC (b := decide (mm ≤ 16)) hv fun H11 s11 => ?_
    have c11 : Keep p H10 H11 := same_keep s11
    have d11 := dice_same2 d10 s11
    refine ⟨_, rfl, _, _, rfl, rfl, .bool (decide (mm ≤ 16)), .bool (decide ((mm : Int) ≤ 16)), .bl _, .bl _, bl_shaped _, bl_shaped _, _, rfl, ?_⟩
    rw [show decide ((mm : Int) ≤ 16) = decide (mm ≤ 16) from decide_eq_decide.mpr (by omega), SeqAt.eqv_refl _ (SeqAt.canLay_of_shaped (bl_shaped _))]
    refine iteF ?_
    clear hv hL er hrs
    refine ⟨(by show 0 ≤ sizeLine; decide), fun t12 n12 => ?_⟩
    have ne12 := dice_ne d11 n12
    have s12 := same_new (o := HO.lst []) n12
    have h12 : upd H11 t12 (HO.lst []) t12 = some (HO.lst []) := upd_same
    have c12 : Keep p H11 (upd H11 t12 (HO.lst [])) := same_keep s12
    have d12 := dice_same2 d11 s12
    generalize upd H11 t12 (HO.lst []) = H12 at s12 h12 c12 d12 ⊢
    refine ⟨(by show 3 ≤ sizeLine; decide), fun t13 n13 => ?_⟩
    have ne13 := dice_ne d12 n13
    have s13 := same_new (o := HO.tup [V.str "item", V.str "x", V.str "y"]) n13
    have h13 : upd H12 t13 (HO.tup [V.str "item", V.str "x", V.str "y"]) t13 = some (HO.tup [V.str "item", V.str "x", V.str "y"]) := upd_same
    have c13 : Keep p H12 (upd H12 t13 (HO.tup [V.str "item", V.str "x", V.str "y"])) := same_keep s13
    have d13 := dice_same2 d12 s13
    generalize upd H12 t13 (HO.tup [V.str "item", V.str "x", V.str "y"]) = H13 at s13 h13 c13 d13 ⊢
    refine ⟨_, rfl, (by show 3 ≤ sizeLine; decide), fun t14 n14 => ?_⟩
    have ne14 := dice_ne d13 n14
    have s14 := same_new (o := HO.tup [xo, V.str "x", V.str "y"]) n14
    have h14 : upd H13 t14 (HO.tup [xo, V.str "x", V.str "y"]) t14 = some (HO.tup [xo, V.str "x", V.str "y"]) := upd_same
    have c14 : Keep p H13 (upd H13 t14 (HO.tup [xo, V.str "x", V.str "y"])) := same_keep s14
    have d14 := dice_same2 d13 s14
    generalize upd H13 t14 (HO.tup [xo, V.str "x", V.str "y"]) = H14 at s14 h14 c14 d14 ⊢
    refine ⟨_, rfl, (by show 3 ≤ sizeLine; decide), fun t15 n15 => ?_⟩
    have ne15 := dice_ne d14 n15
    have s15 := same_new (o := HO.tup [V.str "item", xo, V.str "y"]) n15
    have h15 : upd H14 t15 (HO.tup [V.str "item", xo, V.str "y"]) t15 = some (HO.tup [V.str "item", xo, V.str "y"]) := upd_same
    have c15 : Keep p H14 (upd H14 t15 (HO.tup [V.str "item", xo, V.str "y"])) := same_keep s15
    have d15 := dice_same2 d14 s15
    generalize upd H14 t15 (HO.tup [V.str "item", xo, V.str "y"]) = H15 at s15 h15 c15 d15 ⊢
    refine ⟨_, rfl, (by show 3 ≤ sizeLine; decide), fun t16 n16 => ?_⟩
    have ne16 := dice_ne d15 n16
    have s16 := same_new (o := HO.tup [V.str "item", V.str "x", xo]) n16
    have h16 : upd H15 t16 (HO.tup [V.str "item", V.str "x", xo]) t16 = some (HO.tup [V.str "item", V.str "x", xo]) := upd_same
    have c16 : Keep p H15 (upd H15 t16 (HO.tup [V.str "item", V.str "x", xo])) := same_keep s16
    have d16 := dice_same2 d15 s16
    generalize upd H15 t16 (HO.tup [V.str "item", V.str "x", xo]) = H16 at s16 h16 c16 d16 ⊢
    refine ⟨(by show 4 ≤ sizeLine; decide), fun t17 n17 => ?_⟩
    have ne17 := dice_ne d16 n17
    have s17 := same_new (o := HO.tup [V.ref t13, V.ref t14, V.ref t15, V.ref t16]) n17
    have h17 : upd H16 t17 (HO.tup [V.ref t13, V.ref t14, V.ref t15, V.ref t16]) t17 = some (HO.tup [V.ref t13, V.ref t14, V.ref t15, V.ref t16]) := upd_same
    have c17 : Keep p H16 (upd H16 t17 (HO.tup [V.ref t13, V.ref t14, V.ref t15, V.ref t16])) := same_keep s17
    have d17 := dice_same2 d16 s17
    generalize upd H16 t17 (HO.tup [V.ref t13, V.ref t14, V.ref t15, V.ref t16]) = H17 at s17 h17 c17 d17 ⊢
    refine ⟨t17, rfl, ⟨_, SqT.of h17⟩, ?_⟩
    refine for_it (walk_tup (xs := [V.ref t13, V.ref t14, V.ref t15, V.ref t16])) (fun i σ H' => (∃ a b c, σ = [some (.ref p), some (.int (mm : Int)), some (.ref t2), some xo, some (.ref D2), some (.ref t12), a, b, c, none, none]) ∧ (∀ b o, b ≠ p → b ≠ t12 → H17 b = some o → H' b = some o) ∧ DiceAt H' p ∧ H' t12 = some (.lst (toldR.take i))) ⟨⟨_, _, _, rfl⟩, fun _ _ _ _ h => h, d17, ((Keep.trans c13 (Keep.trans c14 (Keep.trans c15 (Keep.trans c16 c17)))) _ _ ne12 h12)⟩ (fun i σ H' _ hp => SqT.of (hp.2.1 _ _ ne17 (ne_of h17 ((Keep.trans c13 (Keep.trans c14 (Keep.trans c15 (Keep.trans c16 c17)))) _ _ ne12 h12) (fun z => by cases z)) h17)) ?_ ?_
    · rintro i v σ Hi Hb hi ⟨⟨a, b, c, rfl⟩, ki, di, ei⟩ ⟨rfl, hv⟩
      have fin : ∀ (x : V) (Hz : Hp), Same Hb Hz → toldR[i]? = some x → (∀ b o, b ≠ p → b ≠ t12 → H17 b = some o → upd Hz t12 (.lst (toldR.take i ++ [x])) b = some o) ∧ DiceAt (upd Hz t12 (.lst (toldR.take i ++ [x]))) p ∧ upd Hz t12 (.lst (toldR.take i ++ [x])) t12 = some (.lst (toldR.take (i + 1))) := fun x Hz sz ex => ⟨fun b o nb nt e => by rw [upd_ne nt]; exact sz _ _ (ki b o nb nt e), dice_upd (dice_same2 di sz) ne12, by rw [upd_same, List.take_add_one, ex]; rfl⟩
      have small : ∀ x : V, (toldR.take i).length < sizeLine := fun _ => by rw [List.length_take, sizeLine_eq]; show min i 4 < _; omega
      have xoD : Dp K Hb xo od := by
        refine hod Hb fun b o nb e => ki b o nb (fun z => ?_) ((Keep.trans c6 (Keep.trans c7 (Keep.trans c8 (Keep.trans c9 (Keep.trans c10 (Keep.trans c11 (Keep.trans c12 (Keep.trans c13 (Keep.trans c14 (Keep.trans c15 (Keep.trans c16 c17))))))))))) b o nb e)
        rw [z] at e
        have h1 := (Keep.trans c6 (Keep.trans c7 (Keep.trans c8 (Keep.trans c9 (Keep.trans c10 c11))))) _ _ ne12 e
        rw [n12] at h1; cases h1
      have refus : ∀ (j : Nat) (ad : Addr) (a b c : V) (da db dc : PyData), i = j + 1 → j < 3 → Hb ad = some (.tup [a, b, c]) → v = .ref ad → Dp K Hb a da → Dp K Hb b db → Dp K Hb c dc → (∀ d ∈ [db, dc], SeqAt.shaped (rdD da d) = true ∧ Mod_ (rdD da d)) → (∃ d ∈ [db, dc], nameD da = false ∨ nameD d = false) →
          spRdA K C CR [.ref C, a, b, c] Hb (fun _ _ => False) (fun cls d H' => cls = .ref CR ∧ Same Hb H') := fun j ad a b c da db dc ej hj h1 h2 h3 h4 h5 h6 h7 => by
        refine .inr ⟨[.ref C, a], [b, c], rfl, rfl, (by show 2 ≤ sizeLine; decide), fun q nq => ?_⟩
        have sq := same_new (o := HO.tup [b, c]) nq
        exact ⟨a, q, [b, c], da, [db, dc], rfl, SqT.of upd_same, dp_up sq h3, .cons (dp_up sq h4) (.cons (dp_up sq h5) .nil), by show 2 ≤ 900; decide, .inr ⟨by show 2 ≤ 16; decide, h6, h7⟩, fun H' s' => ⟨rfl, sq.trans s'⟩⟩
      have hdl : ∀ (H' : Hp) (D : Ends) (σ : L2.St), σ[5]? = some (some (.ref t12)) → Same Hb H' → toldR[i]? = some (.str "reader") → (∀ Hz, Same Hb Hz → D.nx σ (upd Hz t12 (.lst (toldR.take i ++ [.str "reader"])))) →
          tDrop (tBM K "list" rAppend (tVar 5) (tCons (tC (.str "reader")) tNil)) D σ H' := fun H' D σ h5 s' _ q => ⟨_, h5, Or.inl ⟨rfl, _, SqL.of (s' _ _ ei)⟩, t12, _, _, rfl, rfl, s' _ _ ei, small .non, q _ s'⟩
      have hi4 : i = 0 ∨ i = 1 ∨ i = 2 ∨ i = 3 := by have : i < 4 := hi; omega
      rcases hi4 with rfl | rfl | rfl | rfl
      · obtain rfl : V.ref t13 = v := Option.some.inj hv
        refine ⟨t13, _, rfl, SqT.of (ki _ _ ne13 (ne_of ((Keep.trans c14 (Keep.trans c15 (Keep.trans c16 c17))) _ _ ne13 h13) ((Keep.trans c13 (Keep.trans c14 (Keep.trans c15 (Keep.trans c16 c17)))) _ _ ne12 h12) (fun z => by cases z)) ((Keep.trans c14 (Keep.trans c15 (Keep.trans c16 c17))) _ _ ne13 h13)), rfl, _, _, rfl, _, _, rfl, _, _, rfl, rfl, ?_⟩
        refine ⟨E0, fun _ _ _ z => z.elim, _, rfl, Or.inl ⟨rfl, _, SqL.of ei⟩, rfl, rfl, _, rfl, _, rfl, _, rfl, .inl ⟨[.ref C, .str "item"], [.str "x", .str "y"], rfl, rfl, (by show 2 ≤ sizeLine; decide), fun q nq => ?_⟩⟩
        have sq := same_new (o := HO.tup [V.str "x", V.str "y"]) nq
        refine ⟨"item", q, ["x", "y"], rfl, SqT.of upd_same, by decide +kernel, (fun s hs => by simp only [List.mem_cons, List.not_mem_nil, or_false] at hs; rcases hs with rfl | rfl <;> decide +kernel), by decide, fun Hr r rs s' nr er hR => ?_⟩
        obtain ⟨dx, Lr, Tr, pr, eR, hLr, _⟩ := id hR
        have lr2 : rs.length = 2 := by have := congrArg List.length er; rw [List.length_map] at this; exact this
        refine ⟨r, dx, _, rfl, eR, r, rs, rfl, hR, _, rfl, by omega, by omega, ?_⟩
        rw [lr2]
        refine ⟨t12, _, _, rfl, rfl, s' _ _ (sq _ _ ei), small .non, ?_⟩
        obtain ⟨f1, f2, f3⟩ := fin (.int 2) Hr (sq.trans s') rfl
        exact ⟨⟨_, _, _, rfl⟩, f1, f2, f3⟩
      · obtain rfl : V.ref t14 = v := Option.some.inj hv
        refine ⟨t14, _, rfl, SqT.of (ki _ _ ne14 (ne_of ((Keep.trans c15 (Keep.trans c16 c17)) _ _ ne14 h14) ((Keep.trans c13 (Keep.trans c14 (Keep.trans c15 (Keep.trans c16 c17)))) _ _ ne12 h12) (fun z => by cases z)) ((Keep.trans c15 (Keep.trans c16 c17)) _ _ ne14 h14)), rfl, _, _, rfl, _, _, rfl, _, _, rfl, rfl, ?_⟩
        refine ⟨fun cls d H' => cls = .ref CR ∧ Same Hb H', fun cls d H' ⟨e, s'⟩ => ?_, ?_⟩
        · subst e
          refine ⟨true, T.eRR, fun _ a ha => ?_, fun z => nomatch z⟩
          rw [if_neg (by decide)]
          refine hdl H' _ _ rfl s' rfl fun Hz sz => ?_
          obtain ⟨f1, f2, f3⟩ := fin (.str "reader") Hz sz rfl
          exact ⟨⟨_, _, _, rfl⟩, f1, f2, f3⟩
        · refine ⟨_, rfl, Or.inl ⟨rfl, _, SqL.of ei⟩, rfl, rfl, _, rfl, _, rfl, _, rfl, ?_⟩
          have hr_ := refus 0 t14 (xo) (V.str "x") (V.str "y") (od) (.str "x") (.str "y") rfl (by decide) (ki _ _ ne14 (ne_of ((Keep.trans c15 (Keep.trans c16 c17)) _ _ ne14 h14) ((Keep.trans c13 (Keep.trans c14 (Keep.trans c15 (Keep.trans c16 c17)))) _ _ ne12 h12) (fun z => by cases z)) ((Keep.trans c15 (Keep.trans c16 c17)) _ _ ne14 h14)) rfl (xoD) (.str _) (.str _) (fun d hd => by
            simp only [List.mem_cons, List.not_mem_nil, or_false] at hd
            rcases hd with rfl | rfl
            · exact okx
            · exact oky) ⟨_, List.mem_cons_self, .inl odn⟩
          exact rdA_mono hr_
      · obtain rfl : V.ref t15 = v := Option.some.inj hv
        refine ⟨t15, _, rfl, SqT.of (ki _ _ ne15 (ne_of ((Keep.trans c16 c17) _ _ ne15 h15) ((Keep.trans c13 (Keep.trans c14 (Keep.trans c15 (Keep.trans c16 c17)))) _ _ ne12 h12) (fun z => by cases z)) ((Keep.trans c16 c17) _ _ ne15 h15)), rfl, _, _, rfl, _, _, rfl, _, _, rfl, rfl, ?_⟩
        refine ⟨fun cls d H' => cls = .ref CR ∧ Same Hb H', fun cls d H' ⟨e, s'⟩ => ?_, ?_⟩
        · subst e
          refine ⟨true, T.eRR, fun _ a ha => ?_, fun z => nomatch z⟩
          rw [if_neg (by decide)]
          refine hdl H' _ _ rfl s' rfl fun Hz sz => ?_
          obtain ⟨f1, f2, f3⟩ := fin (.str "reader") Hz sz rfl
          exact ⟨⟨_, _, _, rfl⟩, f1, f2, f3⟩
        · refine ⟨_, rfl, Or.inl ⟨rfl, _, SqL.of ei⟩, rfl, rfl, _, rfl, _, rfl, _, rfl, ?_⟩
          have hr_ := refus 1 t15 (V.str "item") (xo) (V.str "y") (.str "item") (od) (.str "y") rfl (by decide) (ki _ _ ne15 (ne_of ((Keep.trans c16 c17) _ _ ne15 h15) ((Keep.trans c13 (Keep.trans c14 (Keep.trans c15 (Keep.trans c16 c17)))) _ _ ne12 h12) (fun z => by cases z)) ((Keep.trans c16 c17) _ _ ne15 h15)) rfl (.str _) (xoD) (.str _) (fun d hd => by
            simp only [List.mem_cons, List.not_mem_nil, or_false] at hd
            rcases hd with rfl | rfl
            · exact oki
            · exact ity) ⟨_, List.mem_cons_self, .inr odn⟩
          exact rdA_mono hr_
      · obtain rfl : V.ref t16 = v := Option.some.inj hv
        refine ⟨t16, _, rfl, SqT.of (ki _ _ ne16 (ne_of (c17 _ _ ne16 h16) ((Keep.trans c13 (Keep.trans c14 (Keep.trans c15 (Keep.trans c16 c17)))) _ _ ne12 h12) (fun z => by cases z)) (c17 _ _ ne16 h16)), rfl, _, _, rfl, _, _, rfl, _, _, rfl, rfl, ?_⟩
        refine ⟨fun cls d H' => cls = .ref CR ∧ Same Hb H', fun cls d H' ⟨e, s'⟩ => ?_, ?_⟩
        · subst e
          refine ⟨true, T.eRR, fun _ a ha => ?_, fun z => nomatch z⟩
          rw [if_neg (by decide)]
          refine hdl H' _ _ rfl s' rfl fun Hz sz => ?_
          obtain ⟨f1, f2, f3⟩ := fin (.str "reader") Hz sz rfl
          exact ⟨⟨_, _, _, rfl⟩, f1, f2, f3⟩
        · refine ⟨_, rfl, Or.inl ⟨rfl, _, SqL.of ei⟩, rfl, rfl, _, rfl, _, rfl, _, rfl, ?_⟩
          have hr_ := refus 2 t16 (V.str "item") (V.str "x") (xo) (.str "item") (.str "x") (od) rfl (by decide) (ki _ _ ne16 (ne_of (c17 _ _ ne16 h16) ((Keep.trans c13 (Keep.trans c14 (Keep.trans c15 (Keep.trans c16 c17)))) _ _ ne12 h12) (fun z => by cases z)) (c17 _ _ ne16 h16)) rfl (.str _) (.str _) (xoD) (fun d hd => by
            simp only [List.mem_cons, List.not_mem_nil, or_false] at hd
            rcases hd with rfl | rfl
            · exact itx
            · exact oki) ⟨_, .tail _ List.mem_cons_self, .inr odn⟩
          exact rdA_mono hr_
    rintro σ Hf ⟨⟨a, b, c, rfl⟩, kf, df, ef⟩
    have cf : Keep p H11 Hf := fun b o nb e => kf b o nb (fun z => by rw [z, n12] at e; cases e) ((Keep.trans c12 (Keep.trans c13 (Keep.trans c14 (Keep.trans c15 (Keep.trans c16 c17))))) b o nb e)
    refine ⟨_, rfl, (by show 4 ≤ sizeLine; decide), fun t18 n18 => ?_⟩
    have ne18 := dice_ne df n18
    have s18 := same_new (o := HO.lst [V.int 2, V.str "reader", V.str "reader", V.str "reader"]) n18
    have h18 : upd Hf t18 (HO.lst [V.int 2, V.str "reader", V.str "reader", V.str "reader"]) t18 = some (HO.lst [V.int 2, V.str "reader", V.str "reader", V.str "reader"]) := upd_same
    have c18 : Keep p Hf (upd Hf t18 (HO.lst [V.int 2, V.str "reader", V.str "reader", V.str "reader"])) := same_keep s18
    have d18 := dice_same2 df s18
    generalize upd Hf t18 (HO.lst [V.int 2, V.str "reader", V.str "reader", V.str "reader"]) = H18 at s18 h18 c18 d18 ⊢
    have sh : SeqAt.shaped (.list [.int 2, .str "reader", .str "reader", .str "reader"]) = true := by decide +kernel
    refine ⟨.list [.int 2, .str "reader", .str "reader", .str "reader"], .list [.int 2, .str "reader", .str "reader", .str "reader"], .lst (SqL.of (s18 _ _ ef)) (.cons (.int _) (.cons (.str _) (.cons (.str _) (.cons (.str _) .nil)))), .lst (SqL.of h18) (.cons (.int _) (.cons (.str _) (.cons (.str _) (.cons (.str _) .nil)))), sh, sh, ?_⟩
    rw [SeqAt.eqv_refl _ (SeqAt.canLay_of_shaped sh)]
    exact k _ (Keep.trans c1 (Keep.trans c2 (Keep.trans c3 (Keep.trans c4 (Keep.trans c5 (Keep.trans c6 (Keep.trans c7 (Keep.trans c8 (Keep.trans c9 (Keep.trans c10 (Keep.trans c11 (Keep.trans cf c18)))))))))))) d18
end
end Rd

/-! Sixteen and seventeen parts -/
namespace Rd
open PySem PySem.Spec PyProof.Rows L2 Tq Dn Dc Ox LamX Rl
abbrev sMr : Stmt := top 59
abbrev nMr : List Str := ["_law_full", "_law_calls", "_law_a", "_law_b", "_law_c", "_law_d"]
theorem scMr : FnScope nMr [] (defScope sMr) := ⟨rfl, rfl, rfl, by decide +kernel, rfl, by decide +kernel, by decide +kernel⟩
/-- the lambda that stands in a statement -/
def stmE : Stmt → Expr
  | .Assign _ e _ => e
  | .Expr e _ => e
  | _ => .Name "" ⟨0, 0, 0, 0⟩
def arg0 : Expr → Expr
  | .List (e :: _) _ => e
  | .Call _ (e :: _) _ _ => e
  | e => e
def lamP : Expr → Arguments
  | .Lambda p _ _ _ => p
  | _ => { posonlyargs := [], args := [], vararg := none, kwonlyargs := [], kw_defaults := [], kwarg := none, defaults := [] }
def lamB : Expr → Expr
  | .Lambda _ b _ _ => b
  | e => e
def lamSc : Expr → Scope
  | .Lambda _ _ s _ => s
  | _ => { kind := .function, names := [], isGenerator := false, isCoroutine := false }
def lamAt (st : Stmt) (i : Nat) : Expr := arg0 (stmE ((defBody st).getD i (.Expr (.Name "" ⟨0, 0, 0, 0⟩) ⟨0, 0, 0, 0⟩)))
theorem RdAt.x {K : PySem.W.Frag} {C r : Addr} {H H' : Hp} {rs : RowsL} (h : RdAt K C H r rs) (s : ExtN H H') : RdAt K C H' r rs := by
  obtain ⟨dx, L, T, ps, e, a, b, qs, e2, h2, h3⟩ := h
  exact ⟨dx, L, T, ps, s _ _ e (fun _ z => by cases z), ⟨sqT_x a.1 s, fun r hr => sqT_x (a.2 r hr) s⟩, b, qs, e2, sqT_x h2 s, fun x hx => sqT_x (h3 x hx) s⟩
structure TxMr (K : PySem.W.Frag) (mg : Str → Option Value) (P : Program) (w : World) (base : Heap) (C CR : Addr) : Prop extends TxM K mg where
  mgC : mg "Reader" = some (.ref C)
  gR : mg "InvalidReader" = some (.ref CR)
  eRR : PySem.W.exmOne K (.ref CR) (.ref CR) = some true
  len_ : HasD P w K mg base C "__len__" 1 (spLen K C)
  reading_ : HasC P w K mg base C "reading" 8 (spStar 2 (spReading K C))
  readA : ∃ mc p g, ClX.CRead K C mc ∧ ClX.CMet K C mc "reading" p g ∧ FnR P w K mg base (L2N.CX P w) 8 g (spRdA K C CR)
  rf : ∃ (g : Addr) (oc kV doc pm cdv ct : Value) (od an : Option Addr) (osl : Array (Option Value)), mg "_law_is_refused" = some (.ref g) ∧ PySem.W.keepIn K (.ref g) = true ∧ PySem.W.codeIn K cdv "_law_is_refused" = true ∧
    K.lookup g = some ⟨oc, od, .func (PySem.W.fnOf "_law_is_refused" "_law_is_refused" (defArgs sRf) (defBody sRf) (defScope sRf) .none kV doc pm an cdv ct), osl⟩ ∧ Binds K (PySem.W.fnOf "_law_is_refused" "_law_is_refused" (defArgs sRf) (defBody sRf) (defScope sRf) .none kV doc pm an cdv ct) ["_law_call"] []
def spMr (T : List (Addr × Str)) : Sp := fun vs H Q _ => vs = [] ∧ Tabs T H ∧ ∀ H', ExtN H H' → Tabs T H' → Q (.bl true) H'
section
variable {P : Program} {w : World} {K : PySem.W.Frag} {mg : Str → Option Value} {base : Heap}
theorem ok_mr {C CR f PT cc : Addr} {fd : FuncData} {TS : List (Addr × Str)} (F : Fun K "_law_many_readings_right" "_law_many_readings_right" sMr f fd) (T : TxMr K mg P w base C CR) (hcd : fd.code = .ref cc) (TB : TabB base mg cc PT)
    (hmT : ∀ n, (PT, (envOfC "_law_many_readings_right" (defScope sMr) n f (.ref cc)).qual ++ "<lambda>") ∈ TS) (hu' : ∀ n, ∀ p ∈ TS, p.1 = PT → p.2 = (envOfC "_law_many_readings_right" (defScope sMr) n f (.ref cc)).qual ++ "<lambda>") : FnG P w K mg base 11 f fd [] (spMr TS) := by
  obtain ⟨gL, dL, GL⟩ := T.len_
  obtain ⟨mc, p0, g0, cr, cm, G0⟩ := T.reading_
  obtain ⟨mcA, pA, gA, crA, cmA, GA⟩ := T.readA
  obtain ⟨gF, ocF, kVF, dcF, pmF, cdF, ctF, odF, anF, slF, mF, kF, cF, lF, bF⟩ := T.rf
  refine okGc hcd F scMr (fun vs H Q E h => ?_) (fun A outer s H0 vs Q E hgd hr h => ?_)
  · obtain ⟨rfl, _⟩ := h; rfl
  · obtain ⟨rfl, b0, k⟩ := h
    have r2 := hr.mono (show 2 ≤ 10 by decide)
    have r8 := hr.mono (show 8 ≤ 10 by decide)
    refine ⟨_, pss_cons (ps_set (i := 0) scMr.nd rfl (Or.inl rfl) (ClX.pe_cmeth (pe_glob (v := .ref C) (by rfl) T.mgC rfl) cr cm G0 r8 pass0 (pa_cons pe_str (pa_cons pe_str (pa_cons pe_str (pa_cons pe_str (pa_cons pe_str (pa_cons pe_str (pa_cons pe_str (pa_cons pe_str (pa_cons pe_str (pa_cons pe_str (pa_cons pe_str (pa_cons pe_str (pa_cons pe_str (pa_cons pe_str (pa_cons pe_str (pa_cons pe_str (pa_cons pe_str pa_nil)))))))))))))))))))
      (pss_cons (ps_asg (pe_tup (pa_cons pe_str (pa_cons pe_str (pa_cons pe_str (pa_cons pe_str pa_nil))))) (pg_tup rfl (pgs_cons (pg_name (i := 2) scMr.nd rfl (.inr rfl)) (pgs_cons (pg_name (i := 3) scMr.nd rfl (.inr rfl)) (pgs_cons (pg_name (i := 4) scMr.nd rfl (.inr rfl)) (pgs_cons (pg_name (i := 5) scMr.nd rfl (.inr rfl)) pgs_nil))))))
      (pss_cons (ps_set (i := 1) scMr.nd rfl (Or.inl rfl) (pe_lst (pa_cons (pe_lamV (params := lamP (lamAt sMr 2)) (body := lamB (lamAt sMr 2)) (scope := lamSc (lamAt sMr 2)) TB rfl (hmT _) (hu' _) (lamS_by (by rfl)) rfl) pa_nil)))
      (pss_one (ps_ret (pe_and (pe_cmpR op_eq (pe_callB (call_lenO (E := E0) dL GL r2 (fun σ => pass0A σ)) (by rfl) T.len PySem.boot_len (pa_cons (pv 0) pa_nil)) pe_int (nomark _)) (pe_one (Rl.pe_callV (X := (cxOf CX0 P w K mg base nMr "_law_many_readings_right" (defScope sMr) f (.ref cc) A outer s H0 E).nox) (TT := TTref CR) (x := "_law_is_refused") (a := "_law_call") (g := gF) (k := 8) (Ng := ["_law_call"]) (params := lamP (lamAt sMr 2)) (body := lamB (lamAt sMr 2)) (scope := lamSc (lamAt sMr 2)) (by rfl) mF kF lF cF bF scRf rfl (fun _ => rfl) (.inl rfl) (ref_gives T.gR T.eRR) hr (lamS_by (by rfl)) (pe_ix ix_list (pv 1) pe_int (fun _ _ => rfl)) (fun _ _ _ _ _ => rfl) (fun A outer s H E f c hr2 => (show PE _ (lamB (lamAt sMr 2)) _ from ClX.pe_cmeth (E := E) (pe_glob (v := .ref C) (by rfl) T.mgC rfl) crA cmA GA hr2 (L2N.passes_call (L2N.takes_of rfl rfl rfl rfl) (fun _ _ _ _ h => h)) (pa_cons pe_str (pa_cons (pv 2) (pa_cons (pv 2) (pa_cons (pv 2) (pa_cons (pv 2) (pa_cons (pv 2) (pa_cons (pv 3) (pa_cons (pv 3) (pa_cons (pv 3) (pa_cons (pv 3) (pa_cons (pv 4) (pa_cons (pv 4) (pa_cons (pv 4) (pa_cons (pv 4) (pa_cons (pv 5) (pa_cons (pv 5) (pa_cons (pv 5) (pa_cons (pv 5) pa_nil)))))))))))))))))))) (by rfl)))))))), ?_⟩
    refine ⟨rfl, [.ref C, .str "t"], [V.str "a", V.str "b", V.str "c", V.str "d", V.str "e", V.str "f", V.str "g", V.str "h", V.str "i", V.str "j", V.str "k", V.str "l", V.str "m", V.str "n", V.str "o", V.str "p"], rfl, rfl, (by show 16 ≤ sizeLine; decide), fun q nq => ⟨"t", q, ["a", "b", "c", "d", "e", "f", "g", "h", "i", "j", "k", "l", "m", "n", "o", "p"], rfl, SqT.of upd_same, by decide +kernel, (by decide +kernel : ∀ p ∈ (["a", "b", "c", "d", "e", "f", "g", "h", "i", "j", "k", "l", "m", "n", "o", "p"] : List Str), nameS p = true), (by decide), fun H1 r rs s1 nr er hR => ?_⟩⟩
    have s1 := (same_new (o := HO.tup [V.str "a", V.str "b", V.str "c", V.str "d", V.str "e", V.str "f", V.str "g", V.str "h", V.str "i", V.str "j", V.str "k", V.str "l", V.str "m", V.str "n", V.str "o", V.str "p"]) nq).trans s1
    have b1 := b0.ext s1
    have lr : rs.length = 16 := by have := congrArg List.length er; rw [List.length_map] at this; exact this
    obtain ⟨dx, Lr, Tr, pr, eR, _⟩ := id hR
    clear nr nq
    refine ⟨(by show 4 ≤ sizeLine; decide), fun t nt => ?_⟩
    have s2 := same_new (o := HO.tup [V.str "a", V.str "b", V.str "c", V.str "d"]) nt
    have ht : upd H1 t (HO.tup [V.str "a", V.str "b", V.str "c", V.str "d"]) t = some (.tup [V.str "a", V.str "b", V.str "c", V.str "d"]) := upd_same
    have b2 := b1.ext s2
    generalize upd H1 t (HO.tup [V.str "a", V.str "b", V.str "c", V.str "d"]) = H2 at s2 ht b2 ⊢
    refine ⟨t, _, rfl, SqT.of ht, rfl, _, _, rfl, _, _, rfl, _, _, rfl, _, _, rfl, rfl, ?_⟩
    refine ⟨b2, fun lf H3 e3 b3 nlf hlf => ?_⟩
    refine ⟨(by show 1 ≤ sizeLine; decide), fun l nl => ?_⟩
    have s4 := same_new (o := HO.lst [V.ref lf]) nl
    have hl : upd H3 l (HO.lst [V.ref lf]) l = some (.lst [V.ref lf]) := upd_same
    have b4 := b3.ext s4
    generalize upd H3 l (HO.lst [V.ref lf]) = H4 at s4 hl b4 ⊢
    have x4 : ExtN H1 H4 := ((ExtN.of s2).trans e3).trans (ExtN.of s4)
    have hR4 : RdAt K C H4 r rs := hR.x x4
    obtain ⟨dx, Lr, Tr, pr, eR, _⟩ := id hR4
    refine ⟨_, rfl, r, dx, _, rfl, eR, r, rs, rfl, hR4, _, rfl, by omega, by omega, rfl, _, rfl, ?_⟩
    refine ite2 (fun _ => ?_) (fun c => absurd (decide_eq_true (by rw [lr]; rfl)) c)
    refine ⟨_, rfl, l, _, _, _, rfl, rfl, SqL.of hl, atI_nat (j := 0) rfl, lf, rfl, hlf.keep (fun b o e _ _ => s4 b o e), ?_⟩
    refine ⟨rfl, _, rfl, _, rfl, _, rfl, _, rfl, _, rfl, _, rfl, _, rfl, _, rfl, _, rfl, _, rfl, _, rfl, _, rfl, _, rfl, _, rfl, _, rfl, _, rfl, _, rfl, .inr ⟨[.ref C, .str "t"], [V.str "a", V.str "a", V.str "a", V.str "a", V.str "a", V.str "b", V.str "b", V.str "b", V.str "b", V.str "c", V.str "c", V.str "c", V.str "c", V.str "d", V.str "d", V.str "d", V.str "d"], rfl, rfl, (by show 17 ≤ sizeLine; decide), fun q nq => ?_⟩⟩
    have s5 := same_new (o := HO.tup [V.str "a", V.str "a", V.str "a", V.str "a", V.str "a", V.str "b", V.str "b", V.str "b", V.str "b", V.str "c", V.str "c", V.str "c", V.str "c", V.str "d", V.str "d", V.str "d", V.str "d"]) nq
    refine ⟨.str "t", q, [V.str "a", V.str "a", V.str "a", V.str "a", V.str "a", V.str "b", V.str "b", V.str "b", V.str "b", V.str "c", V.str "c", V.str "c", V.str "c", V.str "d", V.str "d", V.str "d", V.str "d"], .str "t", [PyData.str "a", PyData.str "a", PyData.str "a", PyData.str "a", PyData.str "a", PyData.str "b", PyData.str "b", PyData.str "b", PyData.str "b", PyData.str "c", PyData.str "c", PyData.str "c", PyData.str "c", PyData.str "d", PyData.str "d", PyData.str "d", PyData.str "d"], rfl, SqT.of upd_same, .str _, (.cons (.str _) (.cons (.str _) (.cons (.str _) (.cons (.str _) (.cons (.str _) (.cons (.str _) (.cons (.str _) (.cons (.str _) (.cons (.str _) (.cons (.str _) (.cons (.str _) (.cons (.str _) (.cons (.str _) (.cons (.str _) (.cons (.str _) (.cons (.str _) (.cons (.str _) .nil))))))))))))))))), (by decide), .inl (by decide), fun H' s' => ⟨rfl, ?_⟩⟩
    exact k H' ((((ExtN.of s1).trans x4).trans (ExtN.of s5)).trans (ExtN.of s')) ((b4.ext s5).ext s')
end
end Rd

/-! Written readers -/
namespace Rd
open PySem PySem.Spec PyProof.Rows L2 Tq Dn Dc Ox LamX Rl
abbrev sWr : Stmt := top 60
abbrev nWr : List Str := ["_law_full", "_law_calls", "_law_five", "_law_four", "_law_go", "_law_one", "_law_seven", "_law_six", "_law_three", "_law_two", "_law_call"]
theorem scWr : FnScope nWr [] (defScope sWr) := ⟨rfl, rfl, rfl, by decide +kernel, rfl, by decide +kernel, by decide +kernel⟩
theorem lines_ok {ls : List Ln} (few : decide (ls.length ≤ 16) = true) (fine : (ls.all fun l => l.fine ls.length) = true) {ks : List (List Str)} (sub : (keysOf ["if"] ls).all (fun k => decide (k ∈ ks)) = true) (six : ks.length ≤ 6) {rs : RowsL} (e : rs.map Prod.snd = ls) : RdOk rs := by
  have len : rs.length = ls.length := by rw [← e, List.length_map]
  refine ⟨by have := of_decide_eq_true few; omega, fun r hr => ?_, fun ps hA => ?_⟩
  · rw [len]; exact List.all_eq_true.mp fine _ (by rw [← e]; exact List.mem_map_of_mem hr)
  · rw [e] at hA
    exact Nat.le_trans (sub_len (up_nodup hA.up) fun k hk => of_decide_eq_true (List.all_eq_true.mp sub _ ((hA.mem k).mp hk))) six
def spMkA (K : PySem.W.Frag) (C CR : Addr) : Sp := fun vs H Q E => spStar 1 (spInitX K C CR) vs H Q E ∨ spStar 1 (spInitY K C CR) vs H Q E
theorem ext_to {H H' : Hp} {a : Addr} {o : HO} (n : H a = none) (e : ExtN H H') : ExtN H (upd H' a o) := fun b u h t => by
  rw [upd_ne (fun z => by rw [z, n] at h; cases h)]; exact e b u h t
/-- all but tables and lists stays -/
def KL (H H' : Hp) : Prop := ∀ b o, H b = some o → (∀ ps, o ≠ .tbl ps) → (∀ xs, o ≠ .lst xs) → H' b = some o
theorem KL.refl (H : Hp) : KL H H := fun _ _ e _ _ => e
theorem KL.trans {H H1 H2 : Hp} (a : KL H H1) (b : KL H1 H2) : KL H H2 := fun c o e t l => b c o (a c o e t l) t l
theorem KL.x {H H' : Hp} (e : ExtN H H') : KL H H' := fun b o h t _ => e b o h t
theorem KL.app {H : Hp} {D : Addr} {xs : List V} {o : HO} (eD : H D = some (.lst xs)) : KL H (upd H D o) := fun b u e _ l => by
  rw [upd_ne (fun z => l xs (Option.some.inj (e.symm.trans (by rw [z]; exact eD))))]; exact e
theorem ints_shaped {a b : Int} : SeqAt.shaped (.list [.int a, .int b]) = true := by
  show (PyData.canLay0 (.list [.int a, .int b]) && decide (PyData.depth (.list [.int a, .int b]) ≤ 64)) = true
  simp [PyData.canLay0, PyData.canLayAll0, PyData.depth, PyData.depthAll]
structure TxWr (K : PySem.W.Frag) (mg : Str → Option Value) (P : Program) (w : World) (base : Heap) (C CR : Addr) : Prop extends TxM K mg where
  cl : Cls K C
  mgC : mg "Reader" = some (.ref C)
  gR : mg "InvalidReader" = some (.ref CR)
  eRR : PySem.W.exmOne K (.ref CR) (.ref CR) = some true
  len_ : HasD P w K mg base C "__len__" 1 (spLen K C)
  tested_ : HasP P w K mg base C "tested" 1 (getSp C "_tested")
  made_ : ∃ f, Mk K C f ∧ FnR P w K mg base CX0 5 f (spStar 1 (spInit K C))
  madeA : ∃ f, Mk K C f ∧ FnR P w K mg base (L2N.CX P w) 5 f (spMkA K C CR)
  rf : ∃ (g : Addr) (oc kV doc pm cdv ct : Value) (od an : Option Addr) (osl : Array (Option Value)), mg "_law_is_refused" = some (.ref g) ∧ PySem.W.keepIn K (.ref g) = true ∧ PySem.W.codeIn K cdv "_law_is_refused" = true ∧
    K.lookup g = some ⟨oc, od, .func (PySem.W.fnOf "_law_is_refused" "_law_is_refused" (defArgs sRf) (defBody sRf) (defScope sRf) .none kV doc pm an cdv ct), osl⟩ ∧ Binds K (PySem.W.fnOf "_law_is_refused" "_law_is_refused" (defArgs sRf) (defBody sRf) (defScope sRf) .none kV doc pm an cdv ct) ["_law_call"] []
section
variable {P : Program} {w : World} {K : PySem.W.Frag} {mg : Str → Option Value} {base : Heap}
/-- too many lines, or too many tested pairs, passed one by one -/
theorem made_many {C CR : Addr} {H : Hp} {xs : List V} (hb : TooMany K H xs) (few : xs.length ≤ 1000) {x dx : Addr} (nx : H x = Option.none) (nd : H dx = Option.none) (ne : dx ≠ x) {W : V → Hp → Prop} {E : XK} (k : ∀ H', Same H H' → E (.ref CR) none H') :
    spStar 1 (spInitY K C CR) (V.ref x :: xs) (upd (upd H dx (.own x)) x (.ins C dx [])) W E := by
  have s1 : Same H (upd (upd H dx (.own x)) x (.ins C dx [])) := same_to nx (same_new nd)
  refine ⟨[.ref x], xs, rfl, rfl, by rw [sizeLine_eq]; omega, fun p np => ?_⟩
  have s2 := same_new (o := HO.tup xs) np
  exact ⟨x, dx, p, xs, rfl, s2 _ _ upd_same, SqT.of upd_same, hb.up (s1.trans s2), fun H' kp => k H' (fun b o hb => kp b o (ne_of_none hb nx) ((s1.trans s2) b o hb))⟩
theorem ok_wr {C CR f PT cc : Addr} {fd : FuncData} {TS : List (Addr × Str)} (F : Fun K "_law_written_right" "_law_written_right" sWr f fd) (T : TxWr K mg P w base C CR) (hcd : fd.code = .ref cc) (TB : TabB base mg cc PT)
    (hmT : ∀ n, (PT, (envOfC "_law_written_right" (defScope sWr) n f (.ref cc)).qual ++ "<lambda>") ∈ TS) (hu' : ∀ n, ∀ p ∈ TS, p.1 = PT → p.2 = (envOfC "_law_written_right" (defScope sWr) n f (.ref cc)).qual ++ "<lambda>") : FnG P w K mg base 11 f fd [] (spMr TS) := by
  obtain ⟨gL, dL, GL⟩ := T.len_
  obtain ⟨fM, MK, GMk⟩ := T.made_
  obtain ⟨fA, MA, GA⟩ := T.madeA
  obtain ⟨p1, _, fd1, P1, B1, G1⟩ := T.tested_
  obtain ⟨gF, ocF, kVF, dcF, pmF, cdF, ctF, odF, anF, slF, mF, kF, cF, lF, bF⟩ := T.rf
  refine okGc hcd F scWr (fun vs H Q E h => ?_) (fun A outer s H0 vs Q E hgd hr h => ?_)
  · obtain ⟨rfl, _⟩ := h; rfl
  · obtain ⟨rfl, b0, k⟩ := h
    have hu := hr.units
    have r2 := hr.mono (show 2 ≤ 10 by decide)
    have r6 := hr.mono (show 6 ≤ 10 by decide)
    have r8 := hr.mono (show 8 ≤ 10 by decide)
    refine ⟨_, pss_cons (ps_asg (pe_tup (pa_cons (pe_tup (pa_cons pe_str (pa_cons pe_int pa_nil))) (pa_cons (pe_tup (pa_cons pe_str (pa_cons pe_str (pa_cons pe_str (pa_cons pe_int pa_nil))))) (pa_cons (pe_tup (pa_cons pe_str (pa_cons pe_str (pa_cons pe_str (pa_cons pe_int pa_nil))))) (pa_cons (pe_tup (pa_cons pe_str (pa_cons pe_str (pa_cons pe_str (pa_cons pe_int pa_nil))))) pa_nil))))) (pg_tup rfl (pgs_cons (pg_name (i := 4) scWr.nd rfl (.inr rfl)) (pgs_cons (pg_name (i := 5) scWr.nd rfl (.inr rfl)) (pgs_cons (pg_name (i := 9) scWr.nd rfl (.inr rfl)) (pgs_cons (pg_name (i := 8) scWr.nd rfl (.inr rfl)) pgs_nil))))))
      (pss_cons (ps_asg (pe_tup (pa_cons (pe_tup (pa_cons pe_str (pa_cons pe_str (pa_cons pe_str (pa_cons pe_int pa_nil))))) (pa_cons (pe_tup (pa_cons pe_str (pa_cons pe_str (pa_cons pe_str (pa_cons pe_int pa_nil))))) (pa_cons (pe_tup (pa_cons pe_str (pa_cons pe_str (pa_cons pe_str (pa_cons pe_int pa_nil))))) (pa_cons (pe_tup (pa_cons pe_str (pa_cons pe_str (pa_cons pe_str (pa_cons pe_int pa_nil))))) pa_nil))))) (pg_tup rfl (pgs_cons (pg_name (i := 3) scWr.nd rfl (.inr rfl)) (pgs_cons (pg_name (i := 2) scWr.nd rfl (.inr rfl)) (pgs_cons (pg_name (i := 7) scWr.nd rfl (.inr rfl)) (pgs_cons (pg_name (i := 6) scWr.nd rfl (.inr rfl)) pgs_nil))))))
      (pss_cons (ps_set (i := 0) scWr.nd rfl (Or.inl rfl) (StX.pe_makeR MK GMk r6 (by rfl) T.mgC pass0 (pa_cons (pv 4) (pa_cons (pv 4) (pa_cons (pv 4) (pa_cons (pv 4) (pa_cons (pv 4) (pa_cons (pv 4) (pa_cons (pv 4) (pa_cons (pv 4) (pa_cons (pv 4) (pa_cons (pv 5) (pa_cons (pv 9) (pa_cons (pv 8) (pa_cons (pv 3) (pa_cons (pv 2) (pa_cons (pv 7) (pa_cons (pv 7) pa_nil))))))))))))))))))
      (pss_cons (ps_if (pt_cmpR (op_neD hu) (pe_lst (pa_cons (pe_callB (call_lenO (E := E0) dL GL r2 (fun σ => pass0A σ)) (by rfl) T.len PySem.boot_len (pa_cons (pv 0) pa_nil)) (pa_cons (pe_callB call_len_seq (by rfl) T.len PySem.boot_len (pa_cons (pe_prop (pv 0) T.cl P1 G1 r2 B1 .nil pass0 (by rfl)) pa_nil)) pa_nil))) (pe_lst (pa_cons pe_int (pa_cons pe_int pa_nil))) (nomark _)) (pss_one (ps_ret pe_bl)) pss_nil)
      (pss_cons (ps_set (i := 1) scWr.nd rfl (Or.inl rfl) (pe_lst (pa_cons (pe_lamV (params := lamP (lamAt sWr 4)) (body := lamB (lamAt sWr 4)) (scope := lamSc (lamAt sWr 4)) TB rfl (hmT _) (hu' _) (lamS_by (by rfl)) rfl) pa_nil)))
      (pss_cons (ps_expr (pe_bm PySem.F.plainAttrs_list PySem.F.slot_list_append PySem.F.type_list_append mt_append (pv 1) (pa_cons (pe_lamV (params := lamP (lamAt sWr 5)) (body := lamB (lamAt sWr 5)) (scope := lamSc (lamAt sWr 5)) TB rfl (hmT _) (hu' _) (lamS_by (by rfl)) rfl) pa_nil)))
      (pss_cons (ps_expr (pe_bm PySem.F.plainAttrs_list PySem.F.slot_list_append PySem.F.type_list_append mt_append (pv 1) (pa_cons (pe_lamV (params := lamP (lamAt sWr 6)) (body := lamB (lamAt sWr 6)) (scope := lamSc (lamAt sWr 6)) TB rfl (hmT _) (hu' _) (lamS_by (by rfl)) rfl) pa_nil)))
      (pss_cons (ps_expr (pe_bm PySem.F.plainAttrs_list PySem.F.slot_list_append PySem.F.type_list_append mt_append (pv 1) (pa_cons (pe_lamV (params := lamP (lamAt sWr 7)) (body := lamB (lamAt sWr 7)) (scope := lamSc (lamAt sWr 7)) TB rfl (hmT _) (hu' _) (lamS_by (by rfl)) rfl) pa_nil)))
      (pss_cons (ps_expr (pe_bm PySem.F.plainAttrs_list PySem.F.slot_list_append PySem.F.type_list_append mt_append (pv 1) (pa_cons (pe_lamV (params := lamP (lamAt sWr 8)) (body := lamB (lamAt sWr 8)) (scope := lamSc (lamAt sWr 8)) TB rfl (hmT _) (hu' _) (lamS_by (by rfl)) rfl) pa_nil)))
      (pss_one (ps_ret (pe_cmpR (op_eqD hu) (Rl.pe_lcI (own := [("_law_call", 10)]) (g := gName 10) rfl scWr.nd (pi_list (pv 1)) (blkOk_by (N := nWr) (sc := defScope sWr) (by decide +kernel)) (fun _ _ _ _ _ => pg_name (i := 10) scWr.nd rfl (Or.inl rfl)) (fun σz sz Hz Cz clz fpz M => pts_one (pt_not (pt_val (pe_or2 (Rl.pe_callB_ (X := (cxOf CX0 P w K mg base nWr "_law_written_right" (defScope sWr) f (.ref cc) A outer s H0 E).nox) (TT := TTref CR) (x := "_law_is_refused") (a := "_law_call") (g := gF) (k := 6) (Ng := ["_law_call"]) (params := lamP (lamAt sWr 4)) (body := lamB (lamAt sWr 4)) (scope := lamSc (lamAt sWr 4)) M (by rfl) mF kF lF cF bF scRf rfl (fun _ => rfl) (.inl rfl) (ref_gives T.gR T.eRR) r8 (lamS_by (by rfl)) (pv 10) (fun _ _ _ _ _ => rfl) (fun A outer s H E f c hr2 => (show PE _ (lamB (lamAt sWr 4)) _ from (StX.pe_makeR (E := E) MA GA hr2 (by rfl) T.mgC (L2N.passes_call (L2N.takes_of rfl rfl rfl rfl) (fun _ _ _ _ h => h)) (pa_cons (pv 4) (pa_cons (pv 4) (pa_cons (pv 4) (pa_cons (pv 4) (pa_cons (pv 4) (pa_cons (pv 4) (pa_cons (pv 4) (pa_cons (pv 4) (pa_cons (pv 4) (pa_cons (pv 4) (pa_cons (pv 4) (pa_cons (pv 4) (pa_cons (pv 4) (pa_cons (pv 4) (pa_cons (pv 4) (pa_cons (pv 4) (pa_cons (pv 4) pa_nil)))))))))))))))))))) (by rfl)) (pe_or2 (Rl.pe_callB_ (X := (cxOf CX0 P w K mg base nWr "_law_written_right" (defScope sWr) f (.ref cc) A outer s H0 E).nox) (TT := TTref CR) (x := "_law_is_refused") (a := "_law_call") (g := gF) (k := 6) (Ng := ["_law_call"]) (params := lamP (lamAt sWr 5)) (body := lamB (lamAt sWr 5)) (scope := lamSc (lamAt sWr 5)) M (by rfl) mF kF lF cF bF scRf rfl (fun _ => rfl) (.inl rfl) (ref_gives T.gR T.eRR) r8 (lamS_by (by rfl)) (pv 10) (fun _ _ _ _ _ => rfl) (fun A outer s H E f c hr2 => (show PE _ (lamB (lamAt sWr 5)) _ from (StX.pe_makeR (E := E) MA GA hr2 (by rfl) T.mgC (L2N.passes_call (L2N.takes_of rfl rfl rfl rfl) (fun _ _ _ _ h => h)) (pa_cons (pv 5) (pa_cons (pv 9) (pa_cons (pv 8) (pa_cons (pv 3) (pa_cons (pv 2) (pa_cons (pv 7) (pa_cons (pv 6) pa_nil)))))))))) (by rfl)) (pe_or2 (Rl.pe_callB_ (X := (cxOf CX0 P w K mg base nWr "_law_written_right" (defScope sWr) f (.ref cc) A outer s H0 E).nox) (TT := TTref CR) (x := "_law_is_refused") (a := "_law_call") (g := gF) (k := 6) (Ng := ["_law_call"]) (params := lamP (lamAt sWr 6)) (body := lamB (lamAt sWr 6)) (scope := lamSc (lamAt sWr 6)) M (by rfl) mF kF lF cF bF scRf rfl (fun _ => rfl) (.inl rfl) (ref_gives T.gR T.eRR) r8 (lamS_by (by rfl)) (pv 10) (fun _ _ _ _ _ => rfl) (fun A outer s H E f c hr2 => (show PE _ (lamB (lamAt sWr 6)) _ from (StX.pe_makeR (E := E) MA GA hr2 (by rfl) T.mgC (L2N.passes_call (L2N.takes_of rfl rfl rfl rfl) (fun _ _ _ _ h => h)) (pa_cons (pe_tup (pa_cons pe_str (pa_cons pe_int pa_nil))) pa_nil)))) (by rfl)) (pe_or2 (Rl.pe_callB_ (X := (cxOf CX0 P w K mg base nWr "_law_written_right" (defScope sWr) f (.ref cc) A outer s H0 E).nox) (TT := TTref CR) (x := "_law_is_refused") (a := "_law_call") (g := gF) (k := 6) (Ng := ["_law_call"]) (params := lamP (lamAt sWr 7)) (body := lamB (lamAt sWr 7)) (scope := lamSc (lamAt sWr 7)) M (by rfl) mF kF lF cF bF scRf rfl (fun _ => rfl) (.inl rfl) (ref_gives T.gR T.eRR) r8 (lamS_by (by rfl)) (pv 10) (fun _ _ _ _ _ => rfl) (fun A outer s H E f c hr2 => (show PE _ (lamB (lamAt sWr 7)) _ from (StX.pe_makeR (E := E) MA GA hr2 (by rfl) T.mgC (L2N.passes_call (L2N.takes_of rfl rfl rfl rfl) (fun _ _ _ _ h => h)) (pa_cons (pe_tup (pa_cons (pv 4) pa_nil)) pa_nil)))) (by rfl)) (Rl.pe_callB_ (X := (cxOf CX0 P w K mg base nWr "_law_written_right" (defScope sWr) f (.ref cc) A outer s H0 E).nox) (TT := TTref CR) (x := "_law_is_refused") (a := "_law_call") (g := gF) (k := 6) (Ng := ["_law_call"]) (params := lamP (lamAt sWr 8)) (body := lamB (lamAt sWr 8)) (scope := lamSc (lamAt sWr 8)) M (by rfl) mF kF lF cF bF scRf rfl (fun _ => rfl) (.inl rfl) (ref_gives T.gR T.eRR) r8 (lamS_by (by rfl)) (pv 10) (fun _ _ _ _ _ => rfl) (fun A outer s H E f c hr2 => (show PE _ (lamB (lamAt sWr 8)) _ from (StX.pe_makeR (E := E) MA GA hr2 (by rfl) T.mgC (L2N.passes_call (L2N.takes_of rfl rfl rfl rfl) (fun _ _ _ _ h => h)) (pa_cons (pe_lst (pa_cons (pv 4) pa_nil)) pa_nil)))) (by rfl))))))))) (fun _ _ _ _ _ => pv 10)) (pe_lst pa_nil) (nomark _)))))))))))), ?_⟩
    refine ⟨(by show 2 ≤ sizeLine; decide), fun t1 n1 => ?_⟩
    have s1 := same_new (o := HO.tup [V.str "go", V.int 0]) n1
    have h1 : upd H0 t1 (HO.tup [V.str "go", V.int 0]) t1 = some (HO.tup [V.str "go", V.int 0]) := upd_same
    have x1 := ExtN.of s1
    have b1 := b0.ext s1
    generalize upd H0 t1 (HO.tup [V.str "go", V.int 0]) = H1 at s1 h1 x1 b1 ⊢
    have y1 := KL.x x1
    refine ⟨(by show 4 ≤ sizeLine; decide), fun t2 n2 => ?_⟩
    have s2 := same_new (o := HO.tup [V.str "if", V.str "t", V.str "a", V.int 0]) n2
    have h2 : upd H1 t2 (HO.tup [V.str "if", V.str "t", V.str "a", V.int 0]) t2 = some (HO.tup [V.str "if", V.str "t", V.str "a", V.int 0]) := upd_same
    have x2 := ExtN.of s2
    have b2 := b1.ext s2
    generalize upd H1 t2 (HO.tup [V.str "if", V.str "t", V.str "a", V.int 0]) = H2 at s2 h2 x2 b2 ⊢
    have y2 := KL.x x2
    refine ⟨(by show 4 ≤ sizeLine; decide), fun t3 n3 => ?_⟩
    have s3 := same_new (o := HO.tup [V.str "if", V.str "t", V.str "b", V.int 0]) n3
    have h3 : upd H2 t3 (HO.tup [V.str "if", V.str "t", V.str "b", V.int 0]) t3 = some (HO.tup [V.str "if", V.str "t", V.str "b", V.int 0]) := upd_same
    have x3 := ExtN.of s3
    have b3 := b2.ext s3
    generalize upd H2 t3 (HO.tup [V.str "if", V.str "t", V.str "b", V.int 0]) = H3 at s3 h3 x3 b3 ⊢
    have y3 := KL.x x3
    refine ⟨(by show 4 ≤ sizeLine; decide), fun t4 n4 => ?_⟩
    have s4 := same_new (o := HO.tup [V.str "if", V.str "t", V.str "c", V.int 0]) n4
    have h4 : upd H3 t4 (HO.tup [V.str "if", V.str "t", V.str "c", V.int 0]) t4 = some (HO.tup [V.str "if", V.str "t", V.str "c", V.int 0]) := upd_same
    have x4 := ExtN.of s4
    have b4 := b3.ext s4
    generalize upd H3 t4 (HO.tup [V.str "if", V.str "t", V.str "c", V.int 0]) = H4 at s4 h4 x4 b4 ⊢
    have y4 := KL.x x4
    refine ⟨(by show 4 ≤ sizeLine; decide), fun t5 n5 => ?_⟩
    have s5 := same_new (o := HO.tup [V.ref t1, V.ref t2, V.ref t3, V.ref t4]) n5
    have h5 : upd H4 t5 (HO.tup [V.ref t1, V.ref t2, V.ref t3, V.ref t4]) t5 = some (HO.tup [V.ref t1, V.ref t2, V.ref t3, V.ref t4]) := upd_same
    have x5 := ExtN.of s5
    have b5 := b4.ext s5
    generalize upd H4 t5 (HO.tup [V.ref t1, V.ref t2, V.ref t3, V.ref t4]) = H5 at s5 h5 x5 b5 ⊢
    have y5 := KL.x x5
    refine ⟨t5, _, rfl, SqT.of h5, rfl, _, _, rfl, _, _, rfl, _, _, rfl, _, _, rfl, rfl, ?_⟩
    refine ⟨(by show 4 ≤ sizeLine; decide), fun t6 n6 => ?_⟩
    have s6 := same_new (o := HO.tup [V.str "if", V.str "u", V.str "a", V.int 0]) n6
    have h6 : upd H5 t6 (HO.tup [V.str "if", V.str "u", V.str "a", V.int 0]) t6 = some (HO.tup [V.str "if", V.str "u", V.str "a", V.int 0]) := upd_same
    have x6 := ExtN.of s6
    have b6 := b5.ext s6
    generalize upd H5 t6 (HO.tup [V.str "if", V.str "u", V.str "a", V.int 0]) = H6 at s6 h6 x6 b6 ⊢
    have y6 := KL.x x6
    refine ⟨(by show 4 ≤ sizeLine; decide), fun t7 n7 => ?_⟩
    have s7 := same_new (o := HO.tup [V.str "if", V.str "u", V.str "b", V.int 0]) n7
    have h7 : upd H6 t7 (HO.tup [V.str "if", V.str "u", V.str "b", V.int 0]) t7 = some (HO.tup [V.str "if", V.str "u", V.str "b", V.int 0]) := upd_same
    have x7 := ExtN.of s7
    have b7 := b6.ext s7
    generalize upd H6 t7 (HO.tup [V.str "if", V.str "u", V.str "b", V.int 0]) = H7 at s7 h7 x7 b7 ⊢
    have y7 := KL.x x7
    refine ⟨(by show 4 ≤ sizeLine; decide), fun t8 n8 => ?_⟩
    have s8 := same_new (o := HO.tup [V.str "if", V.str "u", V.str "c", V.int 0]) n8
    have h8 : upd H7 t8 (HO.tup [V.str "if", V.str "u", V.str "c", V.int 0]) t8 = some (HO.tup [V.str "if", V.str "u", V.str "c", V.int 0]) := upd_same
    have x8 := ExtN.of s8
    have b8 := b7.ext s8
    generalize upd H7 t8 (HO.tup [V.str "if", V.str "u", V.str "c", V.int 0]) = H8 at s8 h8 x8 b8 ⊢
    have y8 := KL.x x8
    refine ⟨(by show 4 ≤ sizeLine; decide), fun t9 n9 => ?_⟩
    have s9 := same_new (o := HO.tup [V.str "if", V.str "u", V.str "d", V.int 0]) n9
    have h9 : upd H8 t9 (HO.tup [V.str "if", V.str "u", V.str "d", V.int 0]) t9 = some (HO.tup [V.str "if", V.str "u", V.str "d", V.int 0]) := upd_same
    have x9 := ExtN.of s9
    have b9 := b8.ext s9
    generalize upd H8 t9 (HO.tup [V.str "if", V.str "u", V.str "d", V.int 0]) = H9 at s9 h9 x9 b9 ⊢
    have y9 := KL.x x9
    refine ⟨(by show 4 ≤ sizeLine; decide), fun t10 n10 => ?_⟩
    have s10 := same_new (o := HO.tup [V.ref t6, V.ref t7, V.ref t8, V.ref t9]) n10
    have h10 : upd H9 t10 (HO.tup [V.ref t6, V.ref t7, V.ref t8, V.ref t9]) t10 = some (HO.tup [V.ref t6, V.ref t7, V.ref t8, V.ref t9]) := upd_same
    have x10 := ExtN.of s10
    have b10 := b9.ext s10
    generalize upd H9 t10 (HO.tup [V.ref t6, V.ref t7, V.ref t8, V.ref t9]) = H10 at s10 h10 x10 b10 ⊢
    have y10 := KL.x x10
    refine ⟨t10, _, rfl, SqT.of h10, rfl, _, _, rfl, _, _, rfl, _, _, rfl, _, _, rfl, rfl, ?_⟩
    have hrs : ∀ r ∈ ([(t1, Ln.go 0), (t1, Ln.go 0), (t1, Ln.go 0), (t1, Ln.go 0), (t1, Ln.go 0), (t1, Ln.go 0), (t1, Ln.go 0), (t1, Ln.go 0), (t1, Ln.go 0), (t2, Ln.ift "t" "a" 0), (t3, Ln.ift "t" "b" 0), (t4, Ln.ift "t" "c" 0), (t6, Ln.ift "u" "a" 0), (t7, Ln.ift "u" "b" 0), (t8, Ln.ift "u" "c" 0), (t8, Ln.ift "u" "c" 0)] : RowsL), SqT K H10 r.1 r.2.vs := (List.forall_mem_cons.mpr ⟨(SqT.of (xs := (Ln.go 0).vs) ((ExtN.trans x2 (ExtN.trans x3 (ExtN.trans x4 (ExtN.trans x5 (ExtN.trans x6 (ExtN.trans x7 (ExtN.trans x8 (ExtN.trans x9 x10)))))))) _ _ h1 (fun _ z => by cases z))), (List.forall_mem_cons.mpr ⟨(SqT.of (xs := (Ln.go 0).vs) ((ExtN.trans x2 (ExtN.trans x3 (ExtN.trans x4 (ExtN.trans x5 (ExtN.trans x6 (ExtN.trans x7 (ExtN.trans x8 (ExtN.trans x9 x10)))))))) _ _ h1 (fun _ z => by cases z))), (List.forall_mem_cons.mpr ⟨(SqT.of (xs := (Ln.go 0).vs) ((ExtN.trans x2 (ExtN.trans x3 (ExtN.trans x4 (ExtN.trans x5 (ExtN.trans x6 (ExtN.trans x7 (ExtN.trans x8 (ExtN.trans x9 x10)))))))) _ _ h1 (fun _ z => by cases z))), (List.forall_mem_cons.mpr ⟨(SqT.of (xs := (Ln.go 0).vs) ((ExtN.trans x2 (ExtN.trans x3 (ExtN.trans x4 (ExtN.trans x5 (ExtN.trans x6 (ExtN.trans x7 (ExtN.trans x8 (ExtN.trans x9 x10)))))))) _ _ h1 (fun _ z => by cases z))), (List.forall_mem_cons.mpr ⟨(SqT.of (xs := (Ln.go 0).vs) ((ExtN.trans x2 (ExtN.trans x3 (ExtN.trans x4 (ExtN.trans x5 (ExtN.trans x6 (ExtN.trans x7 (ExtN.trans x8 (ExtN.trans x9 x10)))))))) _ _ h1 (fun _ z => by cases z))), (List.forall_mem_cons.mpr ⟨(SqT.of (xs := (Ln.go 0).vs) ((ExtN.trans x2 (ExtN.trans x3 (ExtN.trans x4 (ExtN.trans x5 (ExtN.trans x6 (ExtN.trans x7 (ExtN.trans x8 (ExtN.trans x9 x10)))))))) _ _ h1 (fun _ z => by cases z))), (List.forall_mem_cons.mpr ⟨(SqT.of (xs := (Ln.go 0).vs) ((ExtN.trans x2 (ExtN.trans x3 (ExtN.trans x4 (ExtN.trans x5 (ExtN.trans x6 (ExtN.trans x7 (ExtN.trans x8 (ExtN.trans x9 x10)))))))) _ _ h1 (fun _ z => by cases z))), (List.forall_mem_cons.mpr ⟨(SqT.of (xs := (Ln.go 0).vs) ((ExtN.trans x2 (ExtN.trans x3 (ExtN.trans x4 (ExtN.trans x5 (ExtN.trans x6 (ExtN.trans x7 (ExtN.trans x8 (ExtN.trans x9 x10)))))))) _ _ h1 (fun _ z => by cases z))), (List.forall_mem_cons.mpr ⟨(SqT.of (xs := (Ln.go 0).vs) ((ExtN.trans x2 (ExtN.trans x3 (ExtN.trans x4 (ExtN.trans x5 (ExtN.trans x6 (ExtN.trans x7 (ExtN.trans x8 (ExtN.trans x9 x10)))))))) _ _ h1 (fun _ z => by cases z))), (List.forall_mem_cons.mpr ⟨(SqT.of (xs := (Ln.ift "t" "a" 0).vs) ((ExtN.trans x3 (ExtN.trans x4 (ExtN.trans x5 (ExtN.trans x6 (ExtN.trans x7 (ExtN.trans x8 (ExtN.trans x9 x10))))))) _ _ h2 (fun _ z => by cases z))), (List.forall_mem_cons.mpr ⟨(SqT.of (xs := (Ln.ift "t" "b" 0).vs) ((ExtN.trans x4 (ExtN.trans x5 (ExtN.trans x6 (ExtN.trans x7 (ExtN.trans x8 (ExtN.trans x9 x10)))))) _ _ h3 (fun _ z => by cases z))), (List.forall_mem_cons.mpr ⟨(SqT.of (xs := (Ln.ift "t" "c" 0).vs) ((ExtN.trans x5 (ExtN.trans x6 (ExtN.trans x7 (ExtN.trans x8 (ExtN.trans x9 x10))))) _ _ h4 (fun _ z => by cases z))), (List.forall_mem_cons.mpr ⟨(SqT.of (xs := (Ln.ift "u" "a" 0).vs) ((ExtN.trans x7 (ExtN.trans x8 (ExtN.trans x9 x10))) _ _ h6 (fun _ z => by cases z))), (List.forall_mem_cons.mpr ⟨(SqT.of (xs := (Ln.ift "u" "b" 0).vs) ((ExtN.trans x8 (ExtN.trans x9 x10)) _ _ h7 (fun _ z => by cases z))), (List.forall_mem_cons.mpr ⟨(SqT.of (xs := (Ln.ift "u" "c" 0).vs) ((ExtN.trans x9 x10) _ _ h8 (fun _ z => by cases z))), (List.forall_mem_cons.mpr ⟨(SqT.of (xs := (Ln.ift "u" "c" 0).vs) ((ExtN.trans x9 x10) _ _ h8 (fun _ z => by cases z))), (fun _ h => nomatch h)⟩)⟩)⟩)⟩)⟩)⟩)⟩)⟩)⟩)⟩)⟩)⟩)⟩)⟩)⟩)⟩)
    have ok : ∀ rs : RowsL, rs.map Prod.snd = [Ln.go 0, Ln.go 0, Ln.go 0, Ln.go 0, Ln.go 0, Ln.go 0, Ln.go 0, Ln.go 0, Ln.go 0, Ln.ift "t" "a" 0, Ln.ift "t" "b" 0, Ln.ift "t" "c" 0, Ln.ift "u" "a" 0, Ln.ift "u" "b" 0, Ln.ift "u" "c" 0, Ln.ift "u" "c" 0] → RdOk rs := fun rs e => lines_ok (by decide +kernel) (by decide +kernel) (ks := [["t", "a"], ["t", "b"], ["t", "c"], ["u", "a"], ["u", "b"], ["u", "c"]]) (by decide +kernel) (by decide) e
    refine ⟨_, rfl, _, rfl, _, rfl, _, rfl, _, rfl, _, rfl, _, rfl, _, rfl, _, rfl, _, rfl, _, rfl, _, rfl, _, rfl, _, rfl, _, rfl, _, rfl, fun r dr nr nd ne => made_at (rs := [(t1, Ln.go 0), (t1, Ln.go 0), (t1, Ln.go 0), (t1, Ln.go 0), (t1, Ln.go 0), (t1, Ln.go 0), (t1, Ln.go 0), (t1, Ln.go 0), (t1, Ln.go 0), (t2, Ln.ift "t" "a" 0), (t3, Ln.ift "t" "b" 0), (t4, Ln.ift "t" "c" 0), (t6, Ln.ift "u" "a" 0), (t7, Ln.ift "u" "b" 0), (t8, Ln.ift "u" "c" 0), (t8, Ln.ift "u" "c" 0)]) hrs (ok _ rfl) nr nd ne fun H11 s11 hR0 => ⟨rfl, ?_⟩⟩
    have x11 := ExtN.of s11
    have y11 := KL.x x11
    have b11 := b10.ext s11
    obtain ⟨rs, ers, hR⟩ : ∃ rs : RowsL, lnsOf rs = [Ln.go 0, Ln.go 0, Ln.go 0, Ln.go 0, Ln.go 0, Ln.go 0, Ln.go 0, Ln.go 0, Ln.go 0, Ln.ift "t" "a" 0, Ln.ift "t" "b" 0, Ln.ift "t" "c" 0, Ln.ift "u" "a" 0, Ln.ift "u" "b" 0, Ln.ift "u" "c" 0, Ln.ift "u" "c" 0] ∧ RdAt K C H11 r rs := ⟨_, rfl, hR0⟩
    clear hR0 hrs
    have len16 : rs.length = 16 := by have := congrArg List.length ers; rw [List.length_map] at this; exact this
    obtain ⟨dx, Lr, Tr, pr, eR, hLr, hA, hP⟩ := id hR
    obtain ⟨qs, eqs, hq, _⟩ := id hP
    have lq : (qs.map fun r => V.ref r.1).length = 6 := by
      have a := (ok rs ers).six pr hA
      have b := sub_len (show ([["t", "a"], ["t", "b"], ["t", "c"], ["u", "a"], ["u", "b"], ["u", "c"]] : List (List Str)).Nodup by decide +kernel) (ys := pr) fun k hk => (hA.mem k).mpr (by
        rw [show rs.map Prod.snd = [Ln.go 0, Ln.go 0, Ln.go 0, Ln.go 0, Ln.go 0, Ln.go 0, Ln.go 0, Ln.go 0, Ln.go 0, Ln.ift "t" "a" 0, Ln.ift "t" "b" 0, Ln.ift "t" "c" 0, Ln.ift "u" "a" 0, Ln.ift "u" "b" 0, Ln.ift "u" "c" 0, Ln.ift "u" "c" 0] from ers]
        exact (by decide +kernel : ∀ k ∈ ([["t", "a"], ["t", "b"], ["t", "c"], ["u", "a"], ["u", "b"], ["u", "c"]] : List (List Str)), k ∈ keysOf ["if"] [Ln.go 0, Ln.go 0, Ln.go 0, Ln.go 0, Ln.go 0, Ln.go 0, Ln.go 0, Ln.go 0, Ln.go 0, Ln.ift "t" "a" 0, Ln.ift "t" "b" 0, Ln.ift "t" "c" 0, Ln.ift "u" "a" 0, Ln.ift "u" "b" 0, Ln.ift "u" "c" 0, Ln.ift "u" "c" 0]) k hk)
      have c : ([["t", "a"], ["t", "b"], ["t", "c"], ["u", "a"], ["u", "b"], ["u", "c"]] : List (List Str)).length = 6 := rfl
      rw [List.length_map, ← List.length_map (as := qs) (f := Prod.snd), eqs]; omega
    refine ⟨_, rfl, r, dx, _, rfl, eR, r, rs, rfl, hR, _, rfl, by omega, by omega, _, rfl, r, dx, _, rfl, eR, r, dx, _, _, rfl, eR, rd_tested Lr Tr, Tr, _, rfl, .inr hq, (by show 2 ≤ sizeLine; decide), fun t12 n12 => ?_⟩
    have s12 := same_new (o := HO.lst [V.int (rs.length : Int), V.int ((qs.map fun r => V.ref r.1).length : Int)]) n12
    have h12 : upd H11 t12 (HO.lst [V.int (rs.length : Int), V.int ((qs.map fun r => V.ref r.1).length : Int)]) t12 = some (HO.lst [V.int (rs.length : Int), V.int ((qs.map fun r => V.ref r.1).length : Int)]) := upd_same
    have x12 := ExtN.of s12
    have b12 := b11.ext s12
    generalize upd H11 t12 (HO.lst [V.int (rs.length : Int), V.int ((qs.map fun r => V.ref r.1).length : Int)]) = H12 at s12 h12 x12 b12 ⊢
    have y12 := KL.x x12
    refine ⟨(by show 2 ≤ sizeLine; decide), fun t13 n13 => ?_⟩
    have s13 := same_new (o := HO.lst [V.int 16, V.int 6]) n13
    have h13 : upd H12 t13 (HO.lst [V.int 16, V.int 6]) t13 = some (HO.lst [V.int 16, V.int 6]) := upd_same
    have x13 := ExtN.of s13
    have b13 := b12.ext s13
    generalize upd H12 t13 (HO.lst [V.int 16, V.int 6]) = H13 at s13 h13 x13 b13 ⊢
    have y13 := KL.x x13
    refine ⟨.list [.int (rs.length : Int), .int ((qs.map fun r => V.ref r.1).length : Int)], .list [.int 16, .int 6], .lst (SqL.of (x13 _ _ h12 (fun _ z => by cases z))) (.cons (.int _) (.cons (.int _) .nil)), .lst (SqL.of h13) (.cons (.int _) (.cons (.int _) .nil)), ints_shaped, ints_shaped, _, rfl, ?_⟩
    rw [len16, lq, show PyData.eqv (.list [.int ((16 : Nat) : Int), .int ((6 : Nat) : Int)]) (.list [.int 16, .int 6]) = true from SeqAt.eqv_refl _ (SeqAt.canLay_of_shaped ints_shaped)]
    refine iteF ?_
    refine ⟨b13, fun lf0 H14 x14 b14 nl0 hl0 => ?_⟩
    have y14 := KL.x x14
    refine ⟨(by show 1 ≤ sizeLine; decide), fun t15 n15 => ?_⟩
    have s15 := same_new (o := HO.lst [V.ref lf0]) n15
    have h15 : upd H14 t15 (HO.lst [V.ref lf0]) t15 = some (HO.lst [V.ref lf0]) := upd_same
    have x15 := ExtN.of s15
    have b15 := b14.ext s15
    generalize upd H14 t15 (HO.lst [V.ref lf0]) = H15 at s15 h15 x15 b15 ⊢
    have y15 := KL.x x15
    refine ⟨_, rfl, Or.inl ⟨rfl, _, SqL.of h15⟩, ?_⟩
    refine ⟨b15, fun lf1 H16 x16 b16 nl1 hl1 => ?_⟩
    have y16 := KL.x x16
    have eD16 := x16 _ _ h15 (fun _ z => by cases z)
    refine ⟨t15, _, _, rfl, rfl, eD16, (by show 1 < sizeLine; decide), ?_⟩
    have x17 := ext_to (o := HO.lst ([V.ref lf0] ++ [V.ref lf1])) n15 (ExtN.trans x15 x16)
    have y17 := KL.app (o := HO.lst ([V.ref lf0] ++ [V.ref lf1])) eD16
    have b17 := tabs_list (ys := [V.ref lf0] ++ [V.ref lf1]) b16 eD16
    have h17 : upd H16 t15 (HO.lst ([V.ref lf0] ++ [V.ref lf1])) t15 = some (HO.lst ([V.ref lf0] ++ [V.ref lf1])) := upd_same
    generalize upd H16 t15 (HO.lst ([V.ref lf0] ++ [V.ref lf1])) = H17 at x17 y17 b17 h17 ⊢
    have h17 : H17 t15 = some (.lst [V.ref lf0, V.ref lf1]) := h17
    refine ⟨_, rfl, Or.inl ⟨rfl, _, SqL.of h17⟩, ?_⟩
    refine ⟨b17, fun lf2 H18 x18 b18 nl2 hl2 => ?_⟩
    have y18 := KL.x x18
    have eD18 := x18 _ _ h17 (fun _ z => by cases z)
    refine ⟨t15, _, _, rfl, rfl, eD18, (by show 2 < sizeLine; decide), ?_⟩
    have x19 := ext_to (o := HO.lst ([V.ref lf0, V.ref lf1] ++ [V.ref lf2])) n15 (ExtN.trans x17 x18)
    have y19 := KL.app (o := HO.lst ([V.ref lf0, V.ref lf1] ++ [V.ref lf2])) eD18
    have b19 := tabs_list (ys := [V.ref lf0, V.ref lf1] ++ [V.ref lf2]) b18 eD18
    have h19 : upd H18 t15 (HO.lst ([V.ref lf0, V.ref lf1] ++ [V.ref lf2])) t15 = some (HO.lst ([V.ref lf0, V.ref lf1] ++ [V.ref lf2])) := upd_same
    generalize upd H18 t15 (HO.lst ([V.ref lf0, V.ref lf1] ++ [V.ref lf2])) = H19 at x19 y19 b19 h19 ⊢
    have h19 : H19 t15 = some (.lst [V.ref lf0, V.ref lf1, V.ref lf2]) := h19
    refine ⟨_, rfl, Or.inl ⟨rfl, _, SqL.of h19⟩, ?_⟩
    refine ⟨b19, fun lf3 H20 x20 b20 nl3 hl3 => ?_⟩
    have y20 := KL.x x20
    have eD20 := x20 _ _ h19 (fun _ z => by cases z)
    refine ⟨t15, _, _, rfl, rfl, eD20, (by show 3 < sizeLine; decide), ?_⟩
    have x21 := ext_to (o := HO.lst ([V.ref lf0, V.ref lf1, V.ref lf2] ++ [V.ref lf3])) n15 (ExtN.trans x19 x20)
    have y21 := KL.app (o := HO.lst ([V.ref lf0, V.ref lf1, V.ref lf2] ++ [V.ref lf3])) eD20
    have b21 := tabs_list (ys := [V.ref lf0, V.ref lf1, V.ref lf2] ++ [V.ref lf3]) b20 eD20
    have h21 : upd H20 t15 (HO.lst ([V.ref lf0, V.ref lf1, V.ref lf2] ++ [V.ref lf3])) t15 = some (HO.lst ([V.ref lf0, V.ref lf1, V.ref lf2] ++ [V.ref lf3])) := upd_same
    generalize upd H20 t15 (HO.lst ([V.ref lf0, V.ref lf1, V.ref lf2] ++ [V.ref lf3])) = H21 at x21 y21 b21 h21 ⊢
    have h21 : H21 t15 = some (.lst [V.ref lf0, V.ref lf1, V.ref lf2, V.ref lf3]) := h21
    refine ⟨_, rfl, Or.inl ⟨rfl, _, SqL.of h21⟩, ?_⟩
    refine ⟨b21, fun lf4 H22 x22 b22 nl4 hl4 => ?_⟩
    have y22 := KL.x x22
    have eD22 := x22 _ _ h21 (fun _ z => by cases z)
    refine ⟨t15, _, _, rfl, rfl, eD22, (by show 4 < sizeLine; decide), ?_⟩
    have x23 := ext_to (o := HO.lst ([V.ref lf0, V.ref lf1, V.ref lf2, V.ref lf3] ++ [V.ref lf4])) n15 (ExtN.trans x21 x22)
    have y23 := KL.app (o := HO.lst ([V.ref lf0, V.ref lf1, V.ref lf2, V.ref lf3] ++ [V.ref lf4])) eD22
    have b23 := tabs_list (ys := [V.ref lf0, V.ref lf1, V.ref lf2, V.ref lf3] ++ [V.ref lf4]) b22 eD22
    have h23 : upd H22 t15 (HO.lst ([V.ref lf0, V.ref lf1, V.ref lf2, V.ref lf3] ++ [V.ref lf4])) t15 = some (HO.lst ([V.ref lf0, V.ref lf1, V.ref lf2, V.ref lf3] ++ [V.ref lf4])) := upd_same
    generalize upd H22 t15 (HO.lst ([V.ref lf0, V.ref lf1, V.ref lf2, V.ref lf3] ++ [V.ref lf4])) = H23 at x23 y23 b23 h23 ⊢
    have h23 : H23 t15 = some (.lst [V.ref lf0, V.ref lf1, V.ref lf2, V.ref lf3, V.ref lf4]) := h23
    have il0 := hl0.keep (KL.trans y15 (KL.trans y16 (KL.trans y17 (KL.trans y18 (KL.trans y19 (KL.trans y20 (KL.trans y21 (KL.trans y22 y23))))))))
    have il1 := hl1.keep (KL.trans y17 (KL.trans y18 (KL.trans y19 (KL.trans y20 (KL.trans y21 (KL.trans y22 y23))))))
    have il2 := hl2.keep (KL.trans y19 (KL.trans y20 (KL.trans y21 (KL.trans y22 y23))))
    have il3 := hl3.keep (KL.trans y21 (KL.trans y22 y23))
    have il4 := hl4.keep y23
    have f_go := ((ExtN.trans x2 (ExtN.trans x3 (ExtN.trans x4 (ExtN.trans x5 (ExtN.trans x6 (ExtN.trans x7 (ExtN.trans x8 (ExtN.trans x9 (ExtN.trans x10 (ExtN.trans x11 (ExtN.trans x12 (ExtN.trans x13 (ExtN.trans x14 x23))))))))))))) _ _ h1 (fun _ z => by cases z))
    have f_one := ((ExtN.trans x3 (ExtN.trans x4 (ExtN.trans x5 (ExtN.trans x6 (ExtN.trans x7 (ExtN.trans x8 (ExtN.trans x9 (ExtN.trans x10 (ExtN.trans x11 (ExtN.trans x12 (ExtN.trans x13 (ExtN.trans x14 x23)))))))))))) _ _ h2 (fun _ z => by cases z))
    have f_two := ((ExtN.trans x4 (ExtN.trans x5 (ExtN.trans x6 (ExtN.trans x7 (ExtN.trans x8 (ExtN.trans x9 (ExtN.trans x10 (ExtN.trans x11 (ExtN.trans x12 (ExtN.trans x13 (ExtN.trans x14 x23))))))))))) _ _ h3 (fun _ z => by cases z))
    have f_three := ((ExtN.trans x5 (ExtN.trans x6 (ExtN.trans x7 (ExtN.trans x8 (ExtN.trans x9 (ExtN.trans x10 (ExtN.trans x11 (ExtN.trans x12 (ExtN.trans x13 (ExtN.trans x14 x23)))))))))) _ _ h4 (fun _ z => by cases z))
    have f_four := ((ExtN.trans x7 (ExtN.trans x8 (ExtN.trans x9 (ExtN.trans x10 (ExtN.trans x11 (ExtN.trans x12 (ExtN.trans x13 (ExtN.trans x14 x23)))))))) _ _ h6 (fun _ z => by cases z))
    have f_five := ((ExtN.trans x8 (ExtN.trans x9 (ExtN.trans x10 (ExtN.trans x11 (ExtN.trans x12 (ExtN.trans x13 (ExtN.trans x14 x23))))))) _ _ h7 (fun _ z => by cases z))
    have f_six := ((ExtN.trans x9 (ExtN.trans x10 (ExtN.trans x11 (ExtN.trans x12 (ExtN.trans x13 (ExtN.trans x14 x23)))))) _ _ h8 (fun _ z => by cases z))
    have f_seven := ((ExtN.trans x10 (ExtN.trans x11 (ExtN.trans x12 (ExtN.trans x13 (ExtN.trans x14 x23))))) _ _ h9 (fun _ z => by cases z))
    refine ⟨_, rfl, t15, rfl, ⟨_, SqL.of h23⟩, fun Dn nDn => ?_⟩
    refine lc_fil (walk_list (xs := [V.ref lf0, V.ref lf1, V.ref lf2, V.ref lf3, V.ref lf4])) nDn (fun i acc _ => acc = []) rfl (fun H' s' => sqL_up (SqL.of h23) s') ?_ ?_
    · rintro i v acc Ha Hb hi s2 e2 rfl ⟨rfl, hv⟩
      refine ⟨rfl, ?_⟩
      have hi5 : i = 0 ∨ i = 1 ∨ i = 2 ∨ i = 3 ∨ i = 4 := by have : i < 5 := hi; omega
      have g_go : SqT K Hb t1 (Ln.go 0).vs := SqT.of (s2 _ _ f_go)
      have g_one : SqT K Hb t2 (Ln.ift "t" "a" 0).vs := SqT.of (s2 _ _ f_one)
      have g_two : SqT K Hb t3 (Ln.ift "t" "b" 0).vs := SqT.of (s2 _ _ f_two)
      have g_three : SqT K Hb t4 (Ln.ift "t" "c" 0).vs := SqT.of (s2 _ _ f_three)
      have g_four : SqT K Hb t6 (Ln.ift "u" "a" 0).vs := SqT.of (s2 _ _ f_four)
      have g_five : SqT K Hb t7 (Ln.ift "u" "b" 0).vs := SqT.of (s2 _ _ f_five)
      have g_six : SqT K Hb t8 (Ln.ift "u" "c" 0).vs := SqT.of (s2 _ _ f_six)
      have g_seven : SqT K Hb t9 (Ln.ift "u" "d" 0).vs := SqT.of (s2 _ _ f_seven)
      rcases hi5 with rfl | rfl | rfl | rfl | rfl
      · obtain rfl : V.ref lf0 = v := Option.some.inj hv
        refine Or.inl ⟨_, rfl, lf0, rfl, il0.keep (fun b o e _ _ => s2 b o e), ?_⟩
        refine ⟨_, rfl, _, rfl, _, rfl, _, rfl, _, rfl, _, rfl, _, rfl, _, rfl, _, rfl, _, rfl, _, rfl, _, rfl, _, rfl, _, rfl, _, rfl, _, rfl, _, rfl, fun r dr nr nd ne => .inr (made_many (.inl (by show 16 < 17; decide)) (by show 17 ≤ 1000; decide) nr nd ne fun H' s' => ⟨rfl, _, rfl, iteF (fil_of s2 e2 s' rfl)⟩)⟩
      · obtain rfl : V.ref lf1 = v := Option.some.inj hv
        refine Or.inr (Or.inl ⟨_, rfl, lf1, rfl, il1.keep (fun b o e _ _ => s2 b o e), ?_⟩)
        have many : TooMany K Hb [V.ref t2, V.ref t3, V.ref t4, V.ref t6, V.ref t7, V.ref t8, V.ref t9] := by
          refine .inr ⟨[(t2, Ln.ift "t" "a" 0), (t3, Ln.ift "t" "b" 0), (t4, Ln.ift "t" "c" 0), (t6, Ln.ift "u" "a" 0), (t7, Ln.ift "u" "b" 0), (t8, Ln.ift "u" "c" 0), (t9, Ln.ift "u" "d" 0)], rfl, (List.forall_mem_cons.mpr ⟨g_one, (List.forall_mem_cons.mpr ⟨g_two, (List.forall_mem_cons.mpr ⟨g_three, (List.forall_mem_cons.mpr ⟨g_four, (List.forall_mem_cons.mpr ⟨g_five, (List.forall_mem_cons.mpr ⟨g_six, (List.forall_mem_cons.mpr ⟨g_seven, (fun _ h => nomatch h)⟩)⟩)⟩)⟩)⟩)⟩)⟩), (by show 7 ≤ 16; decide), fun r hr => ?_, fun ps hA => ?_⟩
          · have hm : r.2 ∈ [Ln.ift "t" "a" 0, Ln.ift "t" "b" 0, Ln.ift "t" "c" 0, Ln.ift "u" "a" 0, Ln.ift "u" "b" 0, Ln.ift "u" "c" 0, Ln.ift "u" "d" 0] := List.mem_map_of_mem (f := Prod.snd) hr
            exact (by decide +kernel : ∀ l ∈ ([Ln.ift "t" "a" 0, Ln.ift "t" "b" 0, Ln.ift "t" "c" 0, Ln.ift "u" "a" 0, Ln.ift "u" "b" 0, Ln.ift "u" "c" 0, Ln.ift "u" "d" 0] : List Ln), l.fine 7 = true) _ hm
          · have b := sub_len (show ([["t", "a"], ["t", "b"], ["t", "c"], ["u", "a"], ["u", "b"], ["u", "c"], ["u", "d"]] : List (List Str)).Nodup by decide +kernel) (ys := ps) fun k hk => (hA.mem k).mpr ((by decide +kernel : ∀ k ∈ ([["t", "a"], ["t", "b"], ["t", "c"], ["u", "a"], ["u", "b"], ["u", "c"], ["u", "d"]] : List (List Str)), k ∈ keysOf ["if"] [Ln.ift "t" "a" 0, Ln.ift "t" "b" 0, Ln.ift "t" "c" 0, Ln.ift "u" "a" 0, Ln.ift "u" "b" 0, Ln.ift "u" "c" 0, Ln.ift "u" "d" 0]) k hk)
            have c : ([["t", "a"], ["t", "b"], ["t", "c"], ["u", "a"], ["u", "b"], ["u", "c"], ["u", "d"]] : List (List Str)).length = 7 := rfl
            omega
        refine ⟨_, rfl, _, rfl, _, rfl, _, rfl, _, rfl, _, rfl, _, rfl, fun r dr nr nd ne => .inr (made_many many (by show 7 ≤ 1000; decide) nr nd ne fun H' s' => ⟨rfl, _, rfl, iteF (fil_of s2 e2 s' rfl)⟩)⟩
      · obtain rfl : V.ref lf2 = v := Option.some.inj hv
        refine Or.inr (Or.inr (Or.inl ⟨_, rfl, lf2, rfl, il2.keep (fun b o e _ _ => s2 b o e), ?_⟩))
        refine ⟨(by show 2 ≤ sizeLine; decide), fun q nq => fun r dr nr nd ne => .inl (made_bad (xs := [V.ref q]) ⟨(by show 1 ≤ 16; decide), [lineD (.tuple [.str "go", .int 2]) (1 : Nat)], .cons (.inl ⟨_, .tup (SqT.of upd_same) (.cons (.str _) (.cons (.int _) .nil)), by decide +kernel, mod_tup2 (by decide +kernel) (by simp), rfl⟩) .nil, (by decide +kernel)⟩ nr nd ne fun H' s' => ⟨rfl, _, rfl, iteF (fil_of s2 e2 ((same_new (o := HO.tup [V.str "go", V.int 2]) nq).trans s') rfl)⟩)⟩
      · obtain rfl : V.ref lf3 = v := Option.some.inj hv
        refine Or.inr (Or.inr (Or.inr (Or.inl ⟨_, rfl, lf3, rfl, il3.keep (fun b o e _ _ => s2 b o e), ?_⟩)))
        refine ⟨_, rfl, (by show 1 ≤ sizeLine; decide), fun q nq => fun r dr nr nd ne => .inl (made_bad (xs := [V.ref q]) ⟨(by show 1 ≤ 16; decide), [lineD (.tuple [.tuple [.str "go", .int 0]]) (1 : Nat)], .cons (.inl ⟨_, .tup (SqT.of upd_same) (.cons (.tup (sqT_up g_go (same_new nq)) (.cons (.str _) (.cons (.int _) .nil))) .nil), by decide +kernel, mod_tup2 (by decide +kernel) (by simp), rfl⟩) .nil, (by decide +kernel)⟩ nr nd ne fun H' s' => ⟨rfl, _, rfl, iteF (fil_of s2 e2 ((same_new (o := HO.tup [V.ref t1]) nq).trans s') rfl)⟩)⟩
      · obtain rfl : V.ref lf4 = v := Option.some.inj hv
        refine Or.inr (Or.inr (Or.inr (Or.inr ⟨_, rfl, lf4, rfl, il4.keep (fun b o e _ _ => s2 b o e), ?_⟩)))
        refine ⟨_, rfl, (by show 1 ≤ sizeLine; decide), fun q nq => fun r dr nr nd ne => .inl (made_bad (xs := [V.ref q]) ⟨(by show 1 ≤ 16; decide), [lineD (.list [.tuple [.str "go", .int 0]]) (1 : Nat)], .cons (.inl ⟨_, .lst (SqL.of upd_same) (.cons (.tup (sqT_up g_go (same_new nq)) (.cons (.str _) (.cons (.int _) .nil))) .nil), by decide +kernel, mod_no2 (fun _ z => by cases z), rfl⟩) .nil, (by decide +kernel)⟩ nr nd ne fun H' s' => ⟨rfl, _, rfl, iteF (fil_of s2 e2 ((same_new (o := HO.lst [V.ref t1]) nq).trans s') rfl)⟩)⟩
    rintro acc Hf sf ef rfl
    refine ⟨(by show 0 ≤ sizeLine; decide), fun tz nz => ?_⟩
    have sz := same_new (o := HO.lst []) nz
    refine ⟨.list [], .list [], .lst (SqL.of (sz _ _ ef)) .nil, .lst (SqL.of upd_same) .nil, nil_shaped, nil_shaped, ?_⟩
    rw [SeqAt.eqv_refl _ (SeqAt.canLay_of_shaped nil_shaped)]
    exact k _ (((ExtN.trans x1 (ExtN.trans x2 (ExtN.trans x3 (ExtN.trans x4 (ExtN.trans x5 (ExtN.trans x6 (ExtN.trans x7 (ExtN.trans x8 (ExtN.trans x9 (ExtN.trans x10 (ExtN.trans x11 (ExtN.trans x12 (ExtN.trans x13 (ExtN.trans x14 x23)))))))))))))).trans (ExtN.of sf)).trans (ExtN.of sz)) ((b23.ext sf).ext sz)
end
end Rd

/-! zip of two texts of plain signs -/
namespace Zs
open PySem PySem.Spec PyProof.Rows L2
/-- the five objects of such a zip are five -/
structure Five (z TI TO p q : Addr) : Prop where
  a1 : TI ≠ z
  a2 : TO ≠ z
  a3 : p ≠ z
  a4 : q ≠ z
  b1 : TI ≠ TO
  b2 : TI ≠ p
  b3 : TI ≠ q
  c1 : TO ≠ p
  c2 : TO ≠ q
  d1 : p ≠ q
theorem five_new (n : Addr) : Five (n + 4) (n + 2) (n + 3) n (n + 1) := by constructor <;> (show (_ : Nat) ≠ _; omega)
abbrev Sg (h : Heap) (p : Addr) (x : Str) (t : Tok) (i : Nat) : Prop := h.IsStrIter p "str_ascii_iterator" x t i
/-- what stands before a turn -/
structure St (h : Heap) (z TI TO p q : Addr) (x y : Str) (t u : Tok) (i j : Nat) : Prop where
  zip : IsZip h z TI TO .none
  both : IsPair h TI (.ref p) (.ref q)
  out : ∃ a b, IsPair h TO a b
  one : Sg h p x t i
  two : Sg h q y u j
/-- what no turn touches -/
def Rest (z TO p q : Addr) (h h' : Heap) : Prop := ∀ c o, c ≠ z → c ≠ TO → c ≠ p → c ≠ q → h.get? c = some o → h'.get? c = some o
section
variable {prog : Program} {w : World} {A : Around} {E : Value → Shared → Prop} {s : Shared} {z TI TO p q : Addr} {x y : Str} {t u : Tok} {i j : Nat}
theorem next_go {c d : Nat} {Q : Value → Shared → Prop} (D : Five z TI TO p q) (S : St s.heap z TI TO p q x y t u i j) (hx : x.cps[i]? = some c) (hy : y.cps[j]? = some d)
    (hQ : ∀ h' tk a b, IsZip h' z TI TO (rawInt s.heap.objs.size) → IsPair h' TO (.str ⟨#[c]⟩ a) (.str ⟨#[d]⟩ b) → Sg h' p x t (i + 1) → Sg h' q y u (j + 1) → IsPair h' s.heap.objs.size (.str ⟨#[c]⟩ a) (.str ⟨#[d]⟩ b) →
      h'.objs.size = s.heap.objs.size + 1 → Rest z TO p q s.heap h' → Q (.ref s.heap.objs.size) { s with heap := h', toks := tk }) :
    wpAny (model prog w) A (Builtin.«zip.__next__» ⟨[.ref z], []⟩) (fun fin s' => ∃ v, fin = .done (.ret v) ∧ Q v s') E s := by
  obtain ⟨hz, hTI, ⟨a0, b0, hTO⟩, h1, h2⟩ := S
  obtain ⟨hp, gs, dr, tk0, os⟩ := s
  show wpAny _ _ (field (.ref z) 2 >>= _) _ _ _
  refine wpAny_bind (wpAny_field hz rfl (x := .bool false) rfl ?_)
  show wpAny _ _ (field (.ref z) 3 >>= _) _ _ _
  refine wpAny_bind (wpAny_field hz rfl (x := .ref TI) rfl (wpAny_bind (wpAny_seqItems hTI rfl ?_)))
  show wpAny _ _ (Builtin.SmallTypes.ownedTupleIsFree (.ref z) >>= _) _ _ _
  unfold Builtin.SmallTypes.ownedTupleIsFree
  refine wpAny_bind (wpAny_bind (wpAny_field hz rfl (x := .none) rfl (wpAny_pure ?_)))
  simp only [if_true]
  refine wpAny_bind (wpAny_rule (wpAny_bind (wpAny_field hz rfl (x := .ref TO) rfl (wpAny_bind (wpAny_setField_rec hz (by simp) fun g1 z1 k1 => ?_)))))
  replace z1 : IsZip g1 z TI TO .ellipsis := z1
  replace k1 : Heap.SameBut z hp g1 := k1
  refine wpAny_bind ?_
  simp only [List.zipIdx_cons, List.zipIdx_nil, List.forIn_cons, List.forIn_nil]
  -- the first text
  refine wpAny_bind (wpAny_bind (wpAny_onRaise ?_))
  show wpAny _ _ (Builtin.SmallTypes.nextOf (.ref p) >>= _) _ _ _
  refine wpAny_bind (wpAny_nextOf_ascii_item (Heap.IsStrIter.extBut h1 k1.extBut D.a3) hx fun g2 i2 k2 => wpAny_pure ?_)
  replace k2 : Heap.SameBut p g1 g2 := k2
  have o2 : IsPair g2 TO a0 b0 := k2.extBut _ _ D.c1 (k1.extBut _ _ D.a2 hTO)
  refine wpAny_bind (wpAny_seqItems o2 rfl (wpAny_bind (wpAny_updateSeq_pair o2 fun g3 o3 k3 => wpAny_bind (wpAny_letGo (wpAny_pure ?_)))))
  replace o3 : IsPair g3 TO (.str ⟨#[c]⟩ tk0) b0 := o3
  replace k3 : Heap.SameBut TO g2 g3 := k3
  -- the second
  refine wpAny_bind (wpAny_bind (wpAny_onRaise ?_))
  show wpAny _ _ (Builtin.SmallTypes.nextOf (.ref q) >>= _) _ _ _
  refine wpAny_bind (wpAny_nextOf_ascii_item (((Heap.IsStrIter.extBut h2 k1.extBut D.a4).extBut k2.extBut D.d1.symm).extBut k3.extBut D.c2.symm) hy fun g4 i4 k4 => wpAny_pure ?_)
  replace k4 : Heap.SameBut q g3 g4 := k4
  have o4 : IsPair g4 TO (.str ⟨#[c]⟩ tk0) b0 := k4.extBut _ _ D.c2 o3
  refine wpAny_bind (wpAny_seqItems o4 rfl (wpAny_bind (wpAny_updateSeq_pair o4 fun g5 o5 k5 => wpAny_bind (wpAny_letGo (wpAny_pure (wpAny_pure ?_))))))
  replace o5 : IsPair g5 TO (.str ⟨#[c]⟩ tk0) (.str ⟨#[d]⟩ (tk0 + 1)) := o5
  replace k5 : Heap.SameBut TO g4 g5 := k5
  refine wpAny_bind (wpAny_seqItems o5 rfl (wpAny_bind (wpAny_newTuple ?_)))
  -- the pair is handed out
  have sz : g5.objs.size = hp.objs.size := by rw [k5.1, k4.1, k3.1, k2.1, k1.1]
  have z5 : IsZip g5 z TI TO .ellipsis := k5.extBut _ _ D.a2.symm (k4.extBut _ _ D.a4.symm (k3.extBut _ _ D.a2.symm (k2.extBut _ _ D.a3.symm z1)))
  have r5 : Rest z TO p q hp g5 := fun b o b1 b2 b3 b4 e => k5.extBut _ _ b2 (k4.extBut _ _ b4 (k3.extBut _ _ b2 (k2.extBut _ _ b3 (k1.extBut _ _ b1 e))))
  have p5 : Sg g5 p x t (i + 1) := ((Heap.IsStrIter.extBut i2 k3.extBut D.c1.symm).extBut k4.extBut D.d1).extBut k5.extBut D.c1.symm
  have q5 : Sg g5 q y u (j + 1) := Heap.IsStrIter.extBut i4 k5.extBut D.c2.symm
  have lz : z < g5.objs.size := Heap.lt_size z5
  show wpAny _ _ (Builtin.SmallTypes.ownedTupleHandOut (.ref z) (.ref g5.objs.size) >>= _) _ _ _
  unfold Builtin.SmallTypes.ownedTupleHandOut
  have z6 : IsZip (g5.push { cls := .type "tuple", data := .seq #[.str ⟨#[c]⟩ tk0, .str ⟨#[d]⟩ (tk0 + 1)] }) z TI TO .ellipsis := Heap.get?_push_of_some _ z5
  refine wpAny_bind (wpAny_bind (wpAny_setField_rec z6 (by simp) fun g7 z7 k7 => ?_))
  replace z7 : IsZip g7 z TI TO (rawInt g5.objs.size) := z7
  refine wpAny_setField_rec z7 (by simp) fun g8 z8 k8 => wpAny_pure ⟨_, rfl, ?_⟩
  replace z8 : IsZip g8 z TI TO (rawInt g5.objs.size) := z8
  have up : ∀ b o, b ≠ z → g5.get? b = some o → g8.get? b = some o := fun b o b1 e => k8.extBut _ _ b1 (k7.extBut _ _ b1 (Heap.get?_push_of_some _ e))
  have new : IsPair g8 g5.objs.size (.str ⟨#[c]⟩ tk0) (.str ⟨#[d]⟩ (tk0 + 1)) := k8.extBut _ _ (Nat.ne_of_gt lz) (k7.extBut _ _ (Nat.ne_of_gt lz) (Heap.get?_push_size _ rfl))
  have s8 : g8.objs.size = g5.objs.size + 1 := by rw [k8.1, k7.1, Heap.size_push]
  rw [sz] at z8 new s8
  show Q (.ref g5.objs.size) _
  rw [sz]
  have sg : ∀ {b : Addr} {m : Str} {v : Tok} {n : Nat}, b ≠ z → Sg g5 b m v n → Sg g8 b m v n := fun nb ⟨o, e, r⟩ => ⟨o, up _ o nb e, r⟩
  exact hQ g8 _ _ _ z8 (up _ _ D.a2 o5) (sg D.a3 p5) (sg D.a4 q5) new s8 fun b o b1 b2 b3 b4 e => up b o b1 (r5 b o b1 b2 b3 b4 e)

theorem next_end {Q : Fin → Shared → Prop} (hh : A.handled = none) (D : Five z TI TO p q) (S : St s.heap z TI TO p q x y t u i j) (hend : x.cps[i]? = none ∨ y.cps[j]? = none)
    (hE : ∀ h' tk e, Rest z TO p q s.heap h' → (∃ o, h'.get? e = some o ∧ o.cls = .type "StopIteration") → E (.ref e) { s with heap := h', toks := tk }) :
    wpAny (model prog w) A (Builtin.«zip.__next__» ⟨[.ref z], []⟩) Q E s := by
  obtain ⟨hz, hTI, ⟨a0, b0, hTO⟩, h1, h2⟩ := S
  obtain ⟨hp, gs, dr, tk0, os⟩ := s
  show wpAny _ _ (field (.ref z) 2 >>= _) _ _ _
  refine wpAny_bind (wpAny_field hz rfl (x := .bool false) rfl ?_)
  show wpAny _ _ (field (.ref z) 3 >>= _) _ _ _
  refine wpAny_bind (wpAny_field hz rfl (x := .ref TI) rfl (wpAny_bind (wpAny_seqItems hTI rfl ?_)))
  show wpAny _ _ (Builtin.SmallTypes.ownedTupleIsFree (.ref z) >>= _) _ _ _
  unfold Builtin.SmallTypes.ownedTupleIsFree
  refine wpAny_bind (wpAny_bind (wpAny_field hz rfl (x := .none) rfl (wpAny_pure ?_)))
  simp only [if_true]
  refine wpAny_bind (wpAny_rule (wpAny_bind (wpAny_field hz rfl (x := .ref TO) rfl (wpAny_bind (wpAny_setField_rec hz (by simp) fun g1 z1 k1 => ?_)))))
  replace z1 : IsZip g1 z TI TO .ellipsis := z1
  replace k1 : Heap.SameBut z hp g1 := k1
  refine wpAny_bind ?_
  simp only [List.zipIdx_cons, List.zipIdx_nil, List.forIn_cons, List.forIn_nil]
  -- the exception is no zip
  have fin : ∀ {g : Heap} {e : Addr}, IsZip g z TI TO .ellipsis → (∃ o, g.get? e = some o ∧ o.cls = .type "StopIteration") → e ≠ z := fun hg ⟨o, eo, co⟩ r => by
    subst r; rw [hg] at eo; cases eo; simp at co
  refine wpAny_bind (wpAny_bind (wpAny_onRaise ?_))
  show wpAny _ _ (Builtin.SmallTypes.nextOf (.ref p) >>= _) _ _ _
  have h1' := Heap.IsStrIter.extBut h1 k1.extBut D.a3
  cases hx : x.cps[i]? with
  | none =>
    refine wpAny_bind (wpAny_nextOf_ascii_end hh h1' hx fun g2 e k2 he => ?_)
    have z2 : IsZip g2 z TI TO .ellipsis := k2 _ _ D.a3.symm z1
    have ez := fin z2 he
    obtain ⟨o, eo, co⟩ := he
    exact wpAny_setField_rec z2 (by simp) fun g3 _ k3 => hE g3 _ e (fun b o b1 _ b3 _ r => k3.extBut _ _ b1 (k2 _ _ b3 (k1.extBut _ _ b1 r))) ⟨o, k3.extBut _ _ ez eo, co⟩
  | some c =>
    have hy : y.cps[j]? = none := by
      rcases hend with r | r
      · rw [hx] at r; cases r
      · exact r
    refine wpAny_bind (wpAny_nextOf_ascii_item h1' hx fun g2 i2 k2 => wpAny_pure ?_)
    replace k2 : Heap.SameBut p g1 g2 := k2
    have o2 : IsPair g2 TO a0 b0 := k2.extBut _ _ D.c1 (k1.extBut _ _ D.a2 hTO)
    refine wpAny_bind (wpAny_seqItems o2 rfl (wpAny_bind (wpAny_updateSeq_pair o2 fun g3 o3 k3 => wpAny_bind (wpAny_letGo (wpAny_pure ?_)))))
    replace k3 : Heap.SameBut TO g2 g3 := k3
    refine wpAny_bind (wpAny_bind (wpAny_onRaise ?_))
    show wpAny _ _ (Builtin.SmallTypes.nextOf (.ref q) >>= _) _ _ _
    refine wpAny_bind (wpAny_nextOf_ascii_end hh (((Heap.IsStrIter.extBut h2 k1.extBut D.a4).extBut k2.extBut D.d1.symm).extBut k3.extBut D.c2.symm) hy fun g4 e k4 he => ?_)
    have z4 : IsZip g4 z TI TO .ellipsis := k4 _ _ D.a4.symm (k3.extBut _ _ D.a2.symm (k2.extBut _ _ D.a3.symm z1))
    have ez := fin z4 he
    obtain ⟨o, eo, co⟩ := he
    exact wpAny_setField_rec z4 (by simp) fun g5 _ k5 => hE g5 _ e (fun b o b1 b2 b3 b4 r => k5.extBut _ _ b1 (k4 _ _ b4 (k3.extBut _ _ b2 (k2.extBut _ _ b3 (k1.extBut _ _ b1 r))))) ⟨o, k5.extBut _ _ ez eo, co⟩

theorem draw_go {c d : Nat} {Q : Option Value → Shared → Prop} (D : Five z TI TO p q) (S : St s.heap z TI TO p q x y t u i j) (hx : x.cps[i]? = some c) (hy : y.cps[j]? = some d)
    (hQ : ∀ h' tk a b, IsZip h' z TI TO (rawInt s.heap.objs.size) → IsPair h' TO (.str ⟨#[c]⟩ a) (.str ⟨#[d]⟩ b) → Sg h' p x t (i + 1) → Sg h' q y u (j + 1) → IsPair h' s.heap.objs.size (.str ⟨#[c]⟩ a) (.str ⟨#[d]⟩ b) →
      h'.objs.size = s.heap.objs.size + 1 → Rest z TO p q s.heap h' → Q (some (.ref s.heap.objs.size)) { s with heap := h', toks := tk }) : wpAny (model prog w) A (pyNext (.ref z)) Q E s := by
  have hT : s.TypeIs (.ref z) "zip" := ⟨_, S.zip, rfl⟩
  unfold pyNext
  exact wpAny_bind (wpAny_attempt (wpAny_callSpecial?_slot (name := Str.ofString "__next__") hT F.slot_zip_next
    (wpAny_call_entry F.slot_zip_next hT F.entry_zip_next (next_go D S hx hy fun h' tk a b r1 r2 r3 r4 r5 r6 r7 => wpAny_pure (hQ h' tk a b r1 r2 r3 r4 r5 r6 r7)) (F.args_zip_next_1 _))))
theorem draw_end {Q : Option Value → Shared → Prop} (hh : A.handled = none) (D : Five z TI TO p q) (S : St s.heap z TI TO p q x y t u i j) (hend : x.cps[i]? = none ∨ y.cps[j]? = none)
    (hQ : ∀ h' tk, Rest z TO p q s.heap h' → Q none { s with heap := h', toks := tk }) : wpAny (model prog w) A (pyNext (.ref z)) Q E s := by
  have hT : s.TypeIs (.ref z) "zip" := ⟨_, S.zip, rfl⟩
  unfold pyNext
  refine wpAny_bind (wpAny_attempt (wpAny_callSpecial?_slot (name := Str.ofString "__next__") hT F.slot_zip_next
    (wpAny_call_entry F.slot_zip_next hT F.entry_zip_next (next_end hh D S hend fun h' tk e k he => ?_) (F.args_zip_next_1 _))))
  obtain ⟨o, ho, hc⟩ := he
  exact wpAny_bind (wpAny_isInstance (T := "StopIteration") (b := true) ⟨o, ho, hc⟩ isSubtype_stop (wpAny_pure (hQ h' tk k)))
end
/-! ### made -/
abbrev mk1 (h : Heap) (x : Str) (t : Tok) : Heap := h.push { cls := .type "str_ascii_iterator", data := .fields #[.str x t, .int 0 0] }
abbrev mk2 (h : Heap) (x : Str) (t : Tok) (y : Str) (u : Tok) : Heap := mk1 (mk1 h x t) y u
abbrev mk3 (h : Heap) (x : Str) (t : Tok) (y : Str) (u : Tok) : Heap := (mk2 h x t y u).push { cls := .type "tuple", data := .seq #[.ref h.objs.size, .ref (mk1 h x t).objs.size] }
abbrev mk4 (h : Heap) (x : Str) (t : Tok) (y : Str) (u : Tok) : Heap := (mk3 h x t y u).push { cls := .type "tuple", data := .seq #[.none, .none] }
abbrev mk5 (h : Heap) (x : Str) (t : Tok) (y : Str) (u : Tok) : Heap :=
  (mk4 h x t y u).push { cls := .type "zip", data := .fields #[.none, .bool false, .bool false, .ref (mk2 h x t y u).objs.size, .ref (mk3 h x t y u).objs.size] }
theorem meets_new {x y : Str} {t u : Tok} (hx : x.cps.all (· < 128) = true) (hy : y.cps.all (· < 128) = true) :
    Meets (Builtin.«zip.__new__» ⟨[.type "zip", .str x t, .str y u], []⟩) (fun _ R s => R (.ok (.ret (.ref (mk4 s.heap x t y u).objs.size))) { s with heap := mk5 s.heap x t y u }) :=
  .of_wp fun prog w A R s h => by
    obtain ⟨hp, g, d, tk, os⟩ := s
    have hsub := sub_zip
    wp_walk using wpAny_pyIter_ascii hx, wpAny_pyIter_ascii hy
    exact ⟨_, rfl, h⟩
section
variable {prog : Program} {w : World} {A : Around} {E : Value → Shared → Prop} {s : Shared} {x y : Str} {t u : Tok}
theorem call_new {Q : Value → Shared → Prop} (hx : x.cps.all (· < 128) = true) (hy : y.cps.all (· < 128) = true)
    (h : ∀ h', St h' (s.heap.objs.size + 4) (s.heap.objs.size + 2) (s.heap.objs.size + 3) s.heap.objs.size (s.heap.objs.size + 1) x y t u 0 0 → (∀ c o, s.heap.get? c = some o → h'.get? c = some o) → Q (.ref (s.heap.objs.size + 4)) { s with heap := h' }) :
    wpAny (model prog w) A (call (.type "zip") [.str x t, .str y u]) Q E s := by
  refine callType_new F.called_zip (by decide) (F.typeCall_zip_2 _ _) (F.newCall_zip_2 _ _) (fun obj => F.args_object_init_3 obj _ _) F.entry_zip_new (meets_new hx hy) ?_
  have e1 : (mk1 s.heap x t).objs.size = s.heap.objs.size + 1 := Heap.size_push ..
  have e2 : (mk2 s.heap x t y u).objs.size = s.heap.objs.size + 2 := by rw [Heap.size_push, e1]
  have e3 : (mk3 s.heap x t y u).objs.size = s.heap.objs.size + 3 := by rw [Heap.size_push, e2]
  have e4 : (mk4 s.heap x t y u).objs.size = s.heap.objs.size + 4 := by rw [Heap.size_push, e3]
  have k45 : ∀ {c o}, (mk4 s.heap x t y u).get? c = some o → (mk5 s.heap x t y u).get? c = some o := fun e => Heap.get?_push_of_some _ e
  have k35 : ∀ {c o}, (mk3 s.heap x t y u).get? c = some o → (mk5 s.heap x t y u).get? c = some o := fun e => k45 (Heap.get?_push_of_some _ e)
  have k25 : ∀ {c o}, (mk2 s.heap x t y u).get? c = some o → (mk5 s.heap x t y u).get? c = some o := fun e => k35 (Heap.get?_push_of_some _ e)
  have k15 : ∀ {c o}, (mk1 s.heap x t).get? c = some o → (mk5 s.heap x t y u).get? c = some o := fun e => k25 (Heap.get?_push_of_some _ e)
  have g5 : (mk5 s.heap x t y u).get? (mk4 s.heap x t y u).objs.size = some _ := Heap.get?_push_size _ rfl
  have g4 : (mk5 s.heap x t y u).get? (mk3 s.heap x t y u).objs.size = some _ := k45 (Heap.get?_push_size _ rfl)
  have g3 : (mk5 s.heap x t y u).get? (mk2 s.heap x t y u).objs.size = some _ := k35 (Heap.get?_push_size _ rfl)
  have g2 : (mk5 s.heap x t y u).get? (mk1 s.heap x t).objs.size = some _ := k25 (Heap.get?_push_size _ rfl)
  have g1 : (mk5 s.heap x t y u).get? s.heap.objs.size = some _ := k15 (Heap.get?_push_size _ rfl)
  rw [e1] at g2 g3
  rw [e2] at g3
  rw [e3] at g4
  rw [e2, e3, e4] at g5
  show _ ∧ _
  rw [e4]
  exact ⟨⟨_, g5, rfl⟩, h _ ⟨g5, g3, ⟨_, _, g4⟩, ⟨_, g1, rfl, rfl⟩, ⟨_, g2, rfl, rfl⟩⟩ fun c o r => k15 (Heap.get?_push_of_some _ r)⟩
end
/-! ### in a loop -/
/-- new pairs of the signs -/
def It2 (x y : Str) : It := ⟨fun i _ => i < x.cps.size ∧ i < y.cps.size, fun i H v H' => ∃ T c d, v = .ref T ∧ H T = none ∧ H' = upd H T (.tup [.str ⟨#[c]⟩, .str ⟨#[d]⟩]) ∧ x.cps[i]? = some c ∧ y.cps[i]? = some d, fun i _ => x.cps.size ≤ i ∨ y.cps.size ≤ i⟩
theorem turn2 {P : Program} {w : World} {K : PySem.W.Frag} {elts : List Expr} {kk : Nat} {tpos : Pos} {z TI TO p q : Addr} {x y : Str} {t u : Tok} (D : Five z TI TO p q) :
    Turn P w K (.Tuple elts kk tpos) (It2 x y) [z, TI, TO, p, q] z (fun i h => St h z TI TO p q x y t u i i) where
  mem := List.mem_cons_self
  obj := fun i h st c hc => by
    obtain ⟨hz, hTI, ⟨a, b, hTO⟩, ⟨o1, e1, _, d1⟩, ⟨o2, e2, _, d2⟩⟩ := st
    simp only [List.mem_cons, List.not_mem_nil, or_false] at hc
    rcases hc with rfl | rfl | rfl | rfl | rfl
    · exact ⟨_, hz, fun v r => nomatch r⟩
    · exact ⟨_, hTI, fun v r => nomatch r⟩
    · exact ⟨_, hTO, fun v r => nomatch r⟩
    · exact ⟨o1, e1, fun v r => by rw [d1] at r; cases r⟩
    · exact ⟨o2, e2, fun v r => by rw [d2] at r; cases r⟩
  keep := fun i h h' st k => by
    obtain ⟨hz, hTI, ⟨a, b, hTO⟩, ⟨o1, e1, r1⟩, ⟨o2, e2, r2⟩⟩ := st
    exact ⟨k z (by simp) _ hz, k TI (by simp) _ hTI, ⟨a, b, k TO (by simp) _ hTO⟩, ⟨o1, k p (by simp) _ e1, r1⟩, ⟨o2, k q (by simp) _ e2, r2⟩⟩
  item := by
    intro X hP hw hK hc i pins s σ H E I hf st hg
    subst hP hw hK
    obtain ⟨c, hx⟩ : ∃ c, x.cps[i]? = some c := ⟨_, Array.getElem?_eq_getElem (show i < x.cps.size from hg.1)⟩
    obtain ⟨d, hy⟩ : ∃ c, y.cps[i]? = some c := ⟨_, Array.getElem?_eq_getElem (show i < y.cps.size from hg.2)⟩
    have lz : z < s.heap.objs.size := Heap.lt_size st.zip
    refine draw_go D st hx hy fun h' tk a b r1 r2 r3 r4 r5 r6 r7 => ⟨_, rfl, wpAny_letOwnedTupleGo_zip (s := { s with heap := h', toks := tk }) r1 fun g zg sb => ?_⟩
    have nz : s.heap.objs.size ≠ z := Nat.ne_of_gt lz
    have new : ObjOk X.prog X.w (upd H s.heap.objs.size (.tup [.str ⟨#[c]⟩, .str ⟨#[d]⟩])) g s.heap.objs.size (.tup [.str ⟨#[c]⟩, .str ⟨#[d]⟩]) :=
      ⟨(by show 2 ≤ sizeLine; decide), _, .cons ⟨a, rfl⟩ (.cons ⟨b, rfl⟩ .nil), ⟨_, (sb.2 _ nz).trans r5, rfl, _, rfl⟩⟩
    have I1 : Inv X pins σ (upd H s.heap.objs.size (.tup [.str ⟨#[c]⟩, .str ⟨#[d]⟩])) { s with heap := g, toks := tk } :=
      I.turnedNew (ch := [z, TI, TO, p, q]) (fun b o hb e => (sb.2 b fun r => hb (by simp [r])).trans (r7 b o (fun r => hb (by simp [r])) (fun r => hb (by simp [r])) (fun r => hb (by simp [r])) (fun r => hb (by simp [r])) e)) hf (Nat.le_refl _) new
    have sg : ∀ {c : Addr} {m : Str} {v : Tok} {n : Nat}, c ≠ z → Sg h' c m v n → Sg g c m v n := fun nc ⟨o, e, r⟩ => ⟨o, (sb.2 _ nc).trans e, r⟩
    refine ⟨.ref s.heap.objs.size, _, I1, rfl, ⟨_, _, _, rfl, I.hok.fresh (Nat.le_refl _), rfl, hx, hy⟩, ⟨zg, (sb.2 _ D.a1).trans (r7 _ _ D.a1 D.b1 D.b2 D.b3 st.both), ⟨_, _, (sb.2 _ D.a2).trans r2⟩, sg D.a3 r3, sg D.a4 r4⟩, fun b hm => ?_⟩
    have lc : b < s.heap.objs.size := by
      obtain ⟨hz, hTI, ⟨_, _, hTO⟩, ⟨o1, e1, _⟩, ⟨o2, e2, _⟩⟩ := st
      have hm' := hm
      simp only [List.mem_cons, List.not_mem_nil, or_false] at hm'
      rcases hm' with rfl | rfl | rfl | rfl | rfl
      · exact lz
      · exact Heap.lt_size hTI
      · exact Heap.lt_size hTO
      · exact Heap.lt_size e1
      · exact Heap.lt_size e2
    rw [upd_ne (Nat.ne_of_lt lc)]
    exact (hf b hm).1
  done := by
    intro X hP hw hK hc i pins s σ H E I hf st hg
    subst hP hw hK
    exact draw_end (I.ok.hd hc) D st (hg.imp Array.getElem?_eq_none Array.getElem?_eq_none) fun h' tk r => ⟨rfl, I.turnedL (ch := [z, TI, TO, p, q]) (fun c o hb e =>
      r c o (fun v => hb (by simp [v])) (fun v => hb (by simp [v])) (fun v => hb (by simp [v])) (fun v => hb (by simp [v])) e) hf⟩
  self := fun A i s Q E st h => wpAny_pyIter_zip st.zip h
def plainS (x : Str) : Prop := x.cps.all (· < 128) = true
def i2 (ta : TA) : TI := fun σ H R => ta σ H fun vs H1 => ∃ x y, vs = [.str x, .str y] ∧ plainS x ∧ plainS y ∧ R (It2 x y) H1
theorem pi_zip2 {X : Cx} {e e2 : Expr} {ta : TA} {p pos tpos : Pos} {elts : List Expr} {kk : Nat} (hg : Gl X "zip") (hm : X.mg "zip" = none) (ha : PA X [e, e2] ta)
    (hs : starEach [e, e2] X.env = (false, eval e X.env) :: starEach [e2] X.env := by rfl) (hpl : (backTo pos (starEach [e2] X.env)).any (·.1) = false := by rfl) :
    PI X (.Tuple elts kk tpos) (.Call (.Name "zip" p) [e, e2] [] pos) (i2 ta) := by
  refine ⟨fun pins s σ H R I h => Call_ (ld_blt I hg hm PyProof.Rows.boot_zip (PyProof.Rows.callWith_type1 (thn (ha.run pos pins s σ H _ I h) fun us s1 ⟨vs, H1, I1, r1, x, y, ex, hx, hy, k⟩ => ?_) hs hpl))⟩
  subst ex
  cases r1 with
  | cons a r2 =>
  cases r2 with
  | cons b r3 =>
  cases r3
  obtain ⟨t, rfl⟩ := a
  obtain ⟨u, rfl⟩ := b
  refine call_new hx hy fun h' st kp => wpAny_pyIter_zip st.zip ?_
  refine ⟨s1.heap.objs.size + 4, [s1.heap.objs.size + 4, s1.heap.objs.size + 2, s1.heap.objs.size + 3, s1.heap.objs.size, s1.heap.objs.size + 1], _, _, H1, rfl, I1.kept (t' := s1.toks) kp, turn2 (five_new _), st, fun c hc => ?_, k⟩
  have le : s1.heap.objs.size ≤ c := by
    simp only [List.mem_cons, List.not_mem_nil, or_false] at hc
    rcases hc with rfl | rfl | rfl | rfl | rfl
    · exact Nat.le_add_right _ _
    · exact Nat.le_add_right _ _
    · exact Nat.le_add_right _ _
    · exact Nat.le_refl _
    · exact Nat.le_add_right _ _
  exact I1.fpOk le (I1.hok.fresh le)
theorem walk2 {x y : Str} {n : Nat} (hn : n = min x.cps.size y.cps.size) : Walk (It2 x y) n (fun _ => True) (YPair (fun i => x.cps[i]?.map fun c => .str ⟨#[c]⟩) (fun i => y.cps[i]?.map fun c => .str ⟨#[c]⟩)) := by
  subst hn
  refine ⟨fun i _ hi _ => ⟨by omega, by omega⟩, fun _ _ => by show _ ∨ _; omega, fun i H v H' _ _ r => ?_⟩
  obtain ⟨T, c, d, h1, h2, h3, h4, h5⟩ := r
  exact ⟨T, _, _, h1, h2, h3, (congrArg (Option.map fun c => V.str ⟨#[c]⟩) h4), (congrArg (Option.map fun c => V.str ⟨#[c]⟩) h5)⟩
end Zs

/-! The law: errors of readers -/
namespace Rd
open PySem PySem.Spec PyProof.Rows L2 Tq Dn Dc Ox LamX Rl
abbrev sLw : Stmt := top 61
abbrev nLw : List Str := ["_law_script", "_law_at", "_law_dice_here", "_law_turn", "_law_rows", "_law_part", "_law_table", "_law_row"]
theorem scLw : FnScope nLw ["_law_script"] (defScope sLw) := ⟨rfl, rfl, rfl, by decide +kernel, rfl, by decide +kernel, by decide +kernel⟩
section
variable {X : Cx} {k : Nat} {f : Addr} {fd : FuncData} {sp : Sp} {x : Str} {q pos : Pos}
theorem pe_callG0 (F : FnG X.prog X.w X.K X.mg X.base k f fd [] sp) (hgd : X.A.guards = some []) (hr : Room k X.A) (hg : Gl X x) (hm : X.mg x = some (.ref f)) (hk : PySem.W.keepIn X.K (.ref f) = true) (hb : Binds X.K fd [] [])
    (hdb : (x == ("__debug__" : Str)) = false := by decide) : PE X (.Call (.Name x q) [] [] pos) (tCall sp [] E0 tNil) := by
  refine ⟨fun pins s σ H Q I h => ?_⟩; refine wpAny_Call_Name_kw (ld_glob I hg hm ?_ hdb)
  refine PySem.W.callWith_K0 I.kIn hk ?_
  have h1 : sp [] H Q E0 := h
  have b := hb s [] I.kIn rfl; rw [List.append_nil] at b
  refine wpAny_call (codeAny_mono (F.run X.A X.stack s H ⟨[], []⟩ [] [] Q E0 hgd hr I.env0 b .nil h1) fun r s' hq => ?_)
  cases r with
  | error e => exact False.elim hq
  | ok fl =>
    cases fl with
    | ret u => exact I.after hq
    | next => exact False.elim hq
    | brk => exact False.elim hq
    | cont => exact False.elim hq
end
structure TxLw (K : PySem.W.Frag) (mg : Str → Option Value) (P : Program) (w : World) (base : Heap) (TS : List (Addr × Str)) : Prop extends TxM K mg where
  mxL : ∃ t, mg "MAX_LINES" = some (.int 16 t)
  mxT : ∃ t, mg "MAX_TESTED" = some (.int 6 t)
  zip : mg "zip" = none
  dice : Has P w K mg base "_law_dice" 1 ["_law_script", "_law_at"] (spDice K)
  ir : Has P w K mg base "_law_is_reader" 8 ["_law_lines_here"] (spIsR K)
  sizes : Has P w K mg base "_law_sizes_right" 9 ["_law_dice_here"] spSz
  reads : Has P w K mg base "_law_reading_right" 9 ["_law_dice_here"] spSz
  spoilt : ∃ f fd, mg "_law_spoilt_right" = some (.ref f) ∧ PySem.W.keepIn K (.ref f) = true ∧ Binds K fd ["_law_dice_here"] [] ∧ FnG P w K mg base 9 f fd ["_law_dice_here"] (spRj TS)
  many : ∃ f fd, mg "_law_many_readings_right" = some (.ref f) ∧ PySem.W.keepIn K (.ref f) = true ∧ Binds K fd [] [] ∧ FnG P w K mg base 11 f fd [] (spMr TS)
  written : ∃ f fd, mg "_law_written_right" = some (.ref f) ∧ PySem.W.keepIn K (.ref f) = true ∧ Binds K fd [] [] ∧ FnG P w K mg base 11 f fd [] (spMr TS)
def spLw (K : PySem.W.Frag) (T : List (Addr × Str)) : Sp := fun vs H Q _ => ∃ (a : Addr) (ns : List Int), vs = [.ref a] ∧ SqL K H a (ns.map V.int) ∧ Tabs T H ∧ ∀ H', Q (.bl true) H'
def ltrs : List Str := ["a", "b", "c", "d", "e", "f", "g"]
def sevL : List Ln := ltrs.map fun s => .ift "a" s 0
theorem abc_at : ∀ i, i < 7 → (("abcdefg" : Str).cps[i]?).map (fun c => (⟨#[c]⟩ : Str)) = ltrs[i]? := by decide +kernel
theorem abc_size : ("abcdefg" : Str).cps.size = 7 := by decide +kernel
def prs6 : List (Str × Str) := [("a", "x"), ("b", "x"), ("c", "x"), ("a", "y"), ("b", "y"), ("c", "y")]
def sixL : List Ln := prs6.map fun s => .ift s.1 s.2 6
theorem zip_at1 : ∀ i, i < 6 → (("abcabc" : Str).cps[i]?).map (fun c => (⟨#[c]⟩ : Str)) = (prs6[i]?).map Prod.fst := by decide +kernel
theorem zip_at2 : ∀ i, i < 6 → (("xxxyyy" : Str).cps[i]?).map (fun c => (⟨#[c]⟩ : Str)) = (prs6[i]?).map Prod.snd := by decide +kernel
theorem zip_row {i c d : Nat} (hi : i < 6) (hc : ("abcabc" : Str).cps[i]? = some c) (hd : ("xxxyyy" : Str).cps[i]? = some d) : sixL[i]? = some (.ift ⟨#[c]⟩ ⟨#[d]⟩ 6) := by
  have a := zip_at1 i hi
  have b := zip_at2 i hi
  rw [hc] at a; rw [hd] at b
  show (prs6.map fun s => Ln.ift s.1 s.2 6)[i]? = _
  rw [List.getElem?_map]
  cases e : prs6[i]? with
  | none => rw [e] at a; cases a
  | some pr =>
    rw [e] at a b
    have a := Option.some.inj a; have b := Option.some.inj b
    show some (Ln.ift pr.1 pr.2 6) = _
    rw [← show (⟨#[c]⟩ : Str) = pr.1 from a, ← show (⟨#[d]⟩ : Str) = pr.2 from b]
theorem bls_shaped : SeqAt.shaped (.list [.bool true, .bool false, .bool true, .bool true, .bool true, .bool false, .bool false, .bool true, .bool false, .bool false, .bool true]) = true := by decide +kernel
def dueB : List Bool := [true, false, true, true, true, false, false, true, false, false, true]
section
variable {P : Program} {w : World} {K : PySem.W.Frag} {mg : Str → Option Value} {base : Heap}
theorem ok_lw {f : Addr} {fd : FuncData} {TS : List (Addr × Str)} (F : Fun K "law" "law" sLw f fd) (T : TxLw K mg P w base TS) : FnG P w K mg base 12 f fd ["_law_script"] (spLw K TS) := by
  obtain ⟨tl, mL⟩ := T.mxL
  obtain ⟨tt, mT⟩ := T.mxT
  obtain ⟨fD, fdD, mD, kD, bD, GD⟩ := T.dice
  obtain ⟨fI, fdI, mI, kI, bI, GI⟩ := T.ir
  obtain ⟨fZ, fdZ, mZ, kZ, bZ, GZ⟩ := T.sizes
  obtain ⟨fR, fdR, mR, kR, bR, GR⟩ := T.reads
  obtain ⟨fS, fdS, mS, kS, bS, GS⟩ := T.spoilt
  obtain ⟨fM, fdM, mM, kM, bM, GM⟩ := T.many
  obtain ⟨fW, fdW, mW, kW, bW, GW⟩ := T.written
  refine F.okG scLw (fun vs H Q E h => ?_) (fun cdv A outer s H vs Q E hgd hr h => ?_)
  · obtain ⟨a, ns, rfl, _⟩ := h; rfl
  · obtain ⟨a, ns, rfl, hS, tb, k⟩ := h
    have hu := hr.units
    have r1 := hr.mono (show 1 ≤ 11 by decide)
    have r8 := hr.mono (show 8 ≤ 11 by decide)
    have r9 := hr.mono (show 9 ≤ 11 by decide)
    refine ⟨_, pss_cons (ps_for PassesOwn.never rfl (pi_range1 (by rfl) T.range (pa_cons (pe_callB (call_max2 rfl) (by rfl) T.max PyProof.Rows.boot_max (pa_cons pe_int (pa_cons (pe_callB (call_min2 rfl) (by rfl) T.min PyProof.Rows.boot_min (pa_cons pe_int (pa_cons (pe_callB call_len_seq (by rfl) T.len PySem.boot_len (pa_cons (pv 0) pa_nil)) pa_nil))) pa_nil))) pa_nil)) (pg_name (i := 1) scLw.nd rfl (.inl rfl))
        (pss_cons (ps_set (i := 2) scLw.nd rfl (Or.inl rfl) (pe_call GD r1 (by rfl) mD kD bD .nil pass0 (pa_cons (pv 0) (pa_cons (pv 1) pa_nil))))
        (pss_one (ps_for PassesOwn.never rfl (pi_range1 (by rfl) T.range (pa_cons pe_int pa_nil)) (pg_name (i := 3) scLw.nd rfl (.inl rfl))
          (pss_one (ps_if (PW.pt (pw_or (pt_not (pt_val (pe_callG GS hgd r9 (by rfl) mS kS bS (pa_cons (pv 2) pa_nil)))) (pw_or (pt_not (pt_val (pe_call GZ r9 (by rfl) mZ kZ bZ .nil pass0 (pa_cons (pv 2) pa_nil)))) (pw_or1 (pt_not (pt_val (pe_call GR r9 (by rfl) mR kR bR .nil pass0 (pa_cons (pv 2) pa_nil)))))))) (pss_one (ps_ret pe_bl)) pss_nil))))))
      (pss_cons (ps_set (i := 4) scLw.nd rfl (Or.inl rfl) (pe_lst (pa_cons (pe_tup (pa_cons (pe_tup (pa_cons pe_str (pa_cons pe_int pa_nil))) pa_nil)) (pa_cons (pe_tup (pa_cons (pe_tup (pa_cons pe_str (pa_cons pe_int pa_nil))) pa_nil)) (pa_cons (pe_tup (pa_cons (pe_tup (pa_cons pe_str (pa_cons pe_str (pa_cons pe_str (pa_cons pe_int pa_nil))))) (pa_cons (pe_tup (pa_cons pe_str (pa_cons pe_str (pa_cons pe_str (pa_cons pe_int pa_nil))))) pa_nil))) (pa_cons (pe_tup (pa_cons (pe_tup (pa_cons pe_str (pa_cons pe_str (pa_cons pe_str (pa_cons pe_int pa_nil))))) pa_nil)) (pa_cons (pe_tup pa_nil) pa_nil)))))))
      (pss_cons (ps_set (i := 4) scLw.nd rfl (Or.inl rfl) (pe_op op_cat (pv 4) (pe_lst (pa_cons (pe_tup (pa_cons (pe_tup (pa_cons pe_str (pa_cons pe_str (pa_cons pe_str (pa_cons pe_int pa_nil))))) pa_nil)) (pa_cons (pe_tup (pa_cons (pe_tup (pa_cons pe_str (pa_cons pe_bl pa_nil))) pa_nil)) (pa_cons (pe_op op_repT (pe_tup (pa_cons (pe_tup (pa_cons pe_str (pa_cons pe_str (pa_cons pe_str pa_nil)))) pa_nil)) pe_int) (pa_cons (pe_op op_repT (pe_tup (pa_cons (pe_tup (pa_cons pe_str (pa_cons pe_int pa_nil))) pa_nil)) pe_int) pa_nil)))))))
      (pss_cons (ps_expr (pe_bm PySem.F.plainAttrs_list PySem.F.slot_list_append PySem.F.type_list_append mt_append (pv 4) (pa_cons (pe_callTy call_tupOf (by rfl) T.tuple PyProof.Rows.boot_tuple (pa_cons (pe_lc (own := [("_law_part", 5)]) (g := gName 5) (tt := tYes)  rfl scLw.nd (pi_str pe_str) (blkOk_by (N := nLw) (sc := defScope sLw) (by decide +kernel)) (fun _ _ _ _ _ => pg_name (i := 5) scLw.nd rfl (Or.inl rfl)) (fun _ _ _ _ _ => pts_nil) (fun _ _ _ _ _ => (pe_tup (pa_cons pe_str (pa_cons pe_str (pa_cons (pv 5) (pa_cons pe_int pa_nil))))))) pa_nil)) pa_nil)))
      (pss_cons (ps_expr (pe_bm PySem.F.plainAttrs_list PySem.F.slot_list_append PySem.F.type_list_append mt_append (pv 4) (pa_cons (pe_callTy call_tupOf (by rfl) T.tuple PyProof.Rows.boot_tuple (pa_cons (pe_op op_cat (pe_lc (own := [("_law_table", 6), ("_law_part", 5)]) (g := (gTup K 2 (gCons (gName 6) (gCons (gName 5) gNil)))) (tt := tYes)  rfl scLw.nd (Zs.pi_zip2 (by rfl) T.zip (pa_cons pe_str (pa_cons pe_str pa_nil))) (blkOk_by (N := nLw) (sc := defScope sLw) (by decide +kernel)) (fun _ _ _ _ _ => pg_tup rfl (pgs_cons (pg_name (i := 6) scLw.nd rfl (Or.inl rfl)) (pgs_cons (pg_name (i := 5) scLw.nd rfl (Or.inl rfl)) pgs_nil))) (fun _ _ _ _ _ => pts_nil) (fun _ _ _ _ _ => (pe_tup (pa_cons pe_str (pa_cons (pv 6) (pa_cons (pv 5) (pa_cons pe_int pa_nil))))))) (pe_lst (pa_cons (pe_tup (pa_cons pe_str (pa_cons pe_str (pa_cons pe_str (pa_cons pe_int pa_nil))))) pa_nil))) pa_nil)) pa_nil)))
      (pss_cons (ps_if (pt_cmpR (op_neD hu) (pe_lc (own := [("_law_row", 7)]) (g := gName 7) (tt := tYes)  rfl scLw.nd (pi_list (pv 4)) (blkOk_by (N := nLw) (sc := defScope sLw) (by decide +kernel)) (fun _ _ _ _ _ => pg_name (i := 7) scLw.nd rfl (Or.inl rfl)) (fun _ _ _ _ _ => pts_nil) (fun _ _ _ _ _ => (pe_call GI r8 (by rfl) mI kI bI .nil pass0 (pa_cons (pv 7) pa_nil)))) (pe_lst (pa_cons pe_bl (pa_cons pe_bl (pa_cons pe_bl (pa_cons pe_bl (pa_cons pe_bl (pa_cons pe_bl (pa_cons pe_bl (pa_cons pe_bl (pa_cons pe_bl (pa_cons pe_bl (pa_cons pe_bl pa_nil)))))))))))) (nomark _)) (pss_one (ps_ret pe_bl)) pss_nil)
      (pss_cons (ps_if (PW.pt (pw_or (pt_not (pt_val (pe_callG0 GM hgd hr (by rfl) mM kM bM))) (pw_or1 (pt_not (pt_val (pe_callG0 GW hgd hr (by rfl) mW kW bW)))))) (pss_one (ps_ret pe_bl)) pss_nil)
      (pss_cons (ps_if (pt_not (pt_val (pe_call GI r8 (by rfl) mI kI bI .nil pass0 (pa_cons (pe_tup (pa_cons (pe_tup (pa_cons pe_str (pa_cons pe_str (pa_cons pe_str pa_nil)))) (pa_cons (pe_tup (pa_cons pe_str (pa_cons pe_str (pa_cons pe_str pa_nil)))) pa_nil))) pa_nil)))) (pss_one (ps_ret pe_bl)) pss_nil)
      (pss_one (ps_ret (pe_and (pe_cmpR op_eq (pe_glob (v := .int 16) (by rfl) mL ⟨_, rfl⟩) pe_int (nomark _)) (pe_one (pe_cmpR op_eq (pe_glob (v := .int 6) (by rfl) mT ⟨_, rfl⟩) pe_int (nomark _))))))))))))), ?_⟩
    have hj : ∀ m : Nat, 1 ≤ (if (if ((m : Nat) : Int) < 6 then ((m : Nat) : Int) else 6) > 1 then (if ((m : Nat) : Int) < 6 then ((m : Nat) : Int) else 6) else 1) ∧ (if (if ((m : Nat) : Int) < 6 then ((m : Nat) : Int) else 6) > 1 then (if ((m : Nat) : Int) < 6 then ((m : Nat) : Int) else 6) else 1) ≤ 6 := fun m => by
      constructor <;> (repeat' split) <;> omega
    refine ⟨_, rfl, a, _, rfl, .inl hS, _, _, rfl, _, _, rfl, _, rfl, ?_, ?_, ?_⟩
    · have := (hj (ns.map V.int).length).1; exact Int.le_trans (by decide) this
    · have := (hj (ns.map V.int).length).2; exact Int.lt_of_le_of_lt this (by decide)
    have hn := (hj (ns.map V.int).length).2
    generalize (if (if (((ns.map V.int).length : Nat) : Int) < 6 then (((ns.map V.int).length : Nat) : Int) else 6) > 1 then (if (((ns.map V.int).length : Nat) : Int) < 6 then (((ns.map V.int).length : Nat) : Int) else 6) else 1) = jj at hn ⊢
    clear hj
    refine for_it walk_range (fun i σ H' => (∃ b c d, σ = [some (.ref a), b, c, d, none, none, none, none]) ∧ ExtN H H' ∧ Tabs TS H') ⟨⟨_, _, _, rfl⟩, fun _ _ h _ => h, tb⟩ (fun _ _ _ _ _ => trivial) ?_ ?_
    · rintro i x σ Ha Hb hi ⟨⟨b, c, d, rfl⟩, s0, t0⟩ ⟨rfl, rfl⟩
      refine ⟨_, rfl, _, rfl, a, ns, i, by (show [V.ref a, V.int (0 + ((i : Nat) : Int))] = _; rw [Int.zero_add]), sqL_x hS s0, by omega, fun p x y np hx => ?_⟩
      have dp : DiceAt (upd Hb p (.lst [.int x, .int y, .int 0])) p := ⟨_, _, _, upd_same, hx⟩
      have sp := same_new (o := HO.lst [V.int x, V.int y, V.int 0]) np
      have tp := t0.ext sp
      refine ⟨3, rfl, by decide, by decide, ?_⟩
      refine for_it walk_range (fun i σ H' => (∃ b d, σ = [some (.ref a), b, some (.ref p), d, none, none, none, none]) ∧ ExtN Hb H' ∧ Tabs TS H' ∧ DiceAt H' p) ⟨⟨_, _, rfl⟩, fun b o h _ => sp b o h, tp, dp⟩ (fun _ _ _ _ _ => trivial) ?_ ?_
      · rintro j y2 σ Hc Hd hj ⟨⟨b2, d2, rfl⟩, sc, tc, dc⟩ ⟨rfl, rfl⟩
        refine ⟨_, rfl, p, rfl, dc, tc, fun He ke de te => ⟨_, rfl, iteF ?_⟩⟩
        refine ⟨_, rfl, p, rfl, de, fun Hf kf df => ⟨_, rfl, iteF ?_⟩⟩
        refine ⟨_, rfl, p, rfl, df, fun Hg kg dg => ⟨_, rfl, iteF ?_⟩⟩
        have npz : ∀ z, Hb z ≠ none → z ≠ p := fun z h q => h (by rw [q]; exact np)
        exact ⟨⟨_, _, rfl⟩, fun z u e nt => kg z u (npz z (by rw [e]; exact Option.some_ne_none u)) (kf z u (npz z (by rw [e]; exact Option.some_ne_none u)) (ke z u (npz z (by rw [e]; exact Option.some_ne_none u)) (sc z u e nt) nt)), tabs_keep (tabs_keep te de kf) df kg, dg⟩
      · rintro σ Hf ⟨⟨b2, d2, rfl⟩, sf, tf, df⟩
        exact ⟨⟨_, _, _, rfl⟩, fun z u e nt => sf z u (s0 z u e nt) nt, tf⟩
    rintro σ H0 ⟨⟨z1, z2, z3, rfl⟩, s0, b0⟩
    clear s0 hS tb
    refine ⟨(by show 2 ≤ sizeLine; decide), fun t1 n1 => ?_⟩
    have s1 := same_new (o := HO.tup [V.str "go", V.int 1]) n1
    have h1 : upd H0 t1 (HO.tup [V.str "go", V.int 1]) t1 = some (HO.tup [V.str "go", V.int 1]) := upd_same
    have x1 := ExtN.of s1
    have b1 := b0.ext s1
    generalize upd H0 t1 (HO.tup [V.str "go", V.int 1]) = H1 at s1 h1 x1 b1 ⊢
    have y1 := KL.x x1
    refine ⟨(by show 1 ≤ sizeLine; decide), fun t2 n2 => ?_⟩
    have s2 := same_new (o := HO.tup [V.ref t1]) n2
    have h2 : upd H1 t2 (HO.tup [V.ref t1]) t2 = some (HO.tup [V.ref t1]) := upd_same
    have x2 := ExtN.of s2
    have b2 := b1.ext s2
    generalize upd H1 t2 (HO.tup [V.ref t1]) = H2 at s2 h2 x2 b2 ⊢
    have y2 := KL.x x2
    refine ⟨(by show 2 ≤ sizeLine; decide), fun t3 n3 => ?_⟩
    have s3 := same_new (o := HO.tup [V.str "go", V.int 2]) n3
    have h3 : upd H2 t3 (HO.tup [V.str "go", V.int 2]) t3 = some (HO.tup [V.str "go", V.int 2]) := upd_same
    have x3 := ExtN.of s3
    have b3 := b2.ext s3
    generalize upd H2 t3 (HO.tup [V.str "go", V.int 2]) = H3 at s3 h3 x3 b3 ⊢
    have y3 := KL.x x3
    refine ⟨(by show 1 ≤ sizeLine; decide), fun t4 n4 => ?_⟩
    have s4 := same_new (o := HO.tup [V.ref t3]) n4
    have h4 : upd H3 t4 (HO.tup [V.ref t3]) t4 = some (HO.tup [V.ref t3]) := upd_same
    have x4 := ExtN.of s4
    have b4 := b3.ext s4
    generalize upd H3 t4 (HO.tup [V.ref t3]) = H4 at s4 h4 x4 b4 ⊢
    have y4 := KL.x x4
    refine ⟨(by show 4 ≤ sizeLine; decide), fun t5 n5 => ?_⟩
    have s5 := same_new (o := HO.tup [V.str "if", V.str "a", V.str "b", V.int 1]) n5
    have h5 : upd H4 t5 (HO.tup [V.str "if", V.str "a", V.str "b", V.int 1]) t5 = some (HO.tup [V.str "if", V.str "a", V.str "b", V.int 1]) := upd_same
    have x5 := ExtN.of s5
    have b5 := b4.ext s5
    generalize upd H4 t5 (HO.tup [V.str "if", V.str "a", V.str "b", V.int 1]) = H5 at s5 h5 x5 b5 ⊢
    have y5 := KL.x x5
    refine ⟨(by show 4 ≤ sizeLine; decide), fun t6 n6 => ?_⟩
    have s6 := same_new (o := HO.tup [V.str "if", V.str "a", V.str "b", V.int 2]) n6
    have h6 : upd H5 t6 (HO.tup [V.str "if", V.str "a", V.str "b", V.int 2]) t6 = some (HO.tup [V.str "if", V.str "a", V.str "b", V.int 2]) := upd_same
    have x6 := ExtN.of s6
    have b6 := b5.ext s6
    generalize upd H5 t6 (HO.tup [V.str "if", V.str "a", V.str "b", V.int 2]) = H6 at s6 h6 x6 b6 ⊢
    have y6 := KL.x x6
    refine ⟨(by show 2 ≤ sizeLine; decide), fun t7 n7 => ?_⟩
    have s7 := same_new (o := HO.tup [V.ref t5, V.ref t6]) n7
    have h7 : upd H6 t7 (HO.tup [V.ref t5, V.ref t6]) t7 = some (HO.tup [V.ref t5, V.ref t6]) := upd_same
    have x7 := ExtN.of s7
    have b7 := b6.ext s7
    generalize upd H6 t7 (HO.tup [V.ref t5, V.ref t6]) = H7 at s7 h7 x7 b7 ⊢
    have y7 := KL.x x7
    refine ⟨(by show 4 ≤ sizeLine; decide), fun t8 n8 => ?_⟩
    have s8 := same_new (o := HO.tup [V.str "if", V.str "abcdefgh", V.str "b", V.int 0]) n8
    have h8 : upd H7 t8 (HO.tup [V.str "if", V.str "abcdefgh", V.str "b", V.int 0]) t8 = some (HO.tup [V.str "if", V.str "abcdefgh", V.str "b", V.int 0]) := upd_same
    have x8 := ExtN.of s8
    have b8 := b7.ext s8
    generalize upd H7 t8 (HO.tup [V.str "if", V.str "abcdefgh", V.str "b", V.int 0]) = H8 at s8 h8 x8 b8 ⊢
    have y8 := KL.x x8
    refine ⟨(by show 1 ≤ sizeLine; decide), fun t9 n9 => ?_⟩
    have s9 := same_new (o := HO.tup [V.ref t8]) n9
    have h9 : upd H8 t9 (HO.tup [V.ref t8]) t9 = some (HO.tup [V.ref t8]) := upd_same
    have x9 := ExtN.of s9
    have b9 := b8.ext s9
    generalize upd H8 t9 (HO.tup [V.ref t8]) = H9 at s9 h9 x9 b9 ⊢
    have y9 := KL.x x9
    refine ⟨(by show 0 ≤ sizeLine; decide), fun t10 n10 => ?_⟩
    have s10 := same_new (o := HO.tup []) n10
    have h10 : upd H9 t10 (HO.tup []) t10 = some (HO.tup []) := upd_same
    have x10 := ExtN.of s10
    have b10 := b9.ext s10
    generalize upd H9 t10 (HO.tup []) = H10 at s10 h10 x10 b10 ⊢
    have y10 := KL.x x10
    refine ⟨(by show 5 ≤ sizeLine; decide), fun t11 n11 => ?_⟩
    have s11 := same_new (o := HO.lst [V.ref t2, V.ref t4, V.ref t7, V.ref t9, V.ref t10]) n11
    have h11 : upd H10 t11 (HO.lst [V.ref t2, V.ref t4, V.ref t7, V.ref t9, V.ref t10]) t11 = some (HO.lst [V.ref t2, V.ref t4, V.ref t7, V.ref t9, V.ref t10]) := upd_same
    have x11 := ExtN.of s11
    have b11 := b10.ext s11
    generalize upd H10 t11 (HO.lst [V.ref t2, V.ref t4, V.ref t7, V.ref t9, V.ref t10]) = H11 at s11 h11 x11 b11 ⊢
    have y11 := KL.x x11
    refine ⟨_, rfl, (by show 4 ≤ sizeLine; decide), fun t12 n12 => ?_⟩
    have s12 := same_new (o := HO.tup [V.str "if", V.str "abcdefghi", V.str "b", V.int 0]) n12
    have h12 : upd H11 t12 (HO.tup [V.str "if", V.str "abcdefghi", V.str "b", V.int 0]) t12 = some (HO.tup [V.str "if", V.str "abcdefghi", V.str "b", V.int 0]) := upd_same
    have x12 := ExtN.of s12
    have b12 := b11.ext s12
    generalize upd H11 t12 (HO.tup [V.str "if", V.str "abcdefghi", V.str "b", V.int 0]) = H12 at s12 h12 x12 b12 ⊢
    have y12 := KL.x x12
    refine ⟨(by show 1 ≤ sizeLine; decide), fun t13 n13 => ?_⟩
    have s13 := same_new (o := HO.tup [V.ref t12]) n13
    have h13 : upd H12 t13 (HO.tup [V.ref t12]) t13 = some (HO.tup [V.ref t12]) := upd_same
    have x13 := ExtN.of s13
    have b13 := b12.ext s13
    generalize upd H12 t13 (HO.tup [V.ref t12]) = H13 at s13 h13 x13 b13 ⊢
    have y13 := KL.x x13
    refine ⟨(by show 2 ≤ sizeLine; decide), fun t14 n14 => ?_⟩
    have s14 := same_new (o := HO.tup [V.str "go", V.bl false]) n14
    have h14 : upd H13 t14 (HO.tup [V.str "go", V.bl false]) t14 = some (HO.tup [V.str "go", V.bl false]) := upd_same
    have x14 := ExtN.of s14
    have b14 := b13.ext s14
    generalize upd H13 t14 (HO.tup [V.str "go", V.bl false]) = H14 at s14 h14 x14 b14 ⊢
    have y14 := KL.x x14
    refine ⟨(by show 1 ≤ sizeLine; decide), fun t15 n15 => ?_⟩
    have s15 := same_new (o := HO.tup [V.ref t14]) n15
    have h15 : upd H14 t15 (HO.tup [V.ref t14]) t15 = some (HO.tup [V.ref t14]) := upd_same
    have x15 := ExtN.of s15
    have b15 := b14.ext s15
    generalize upd H14 t15 (HO.tup [V.ref t14]) = H15 at s15 h15 x15 b15 ⊢
    have y15 := KL.x x15
    refine ⟨(by show 3 ≤ sizeLine; decide), fun t16 n16 => ?_⟩
    have s16 := same_new (o := HO.tup [V.str "look", V.str "a", V.str "b"]) n16
    have h16 : upd H15 t16 (HO.tup [V.str "look", V.str "a", V.str "b"]) t16 = some (HO.tup [V.str "look", V.str "a", V.str "b"]) := upd_same
    have x16 := ExtN.of s16
    have b16 := b15.ext s16
    generalize upd H15 t16 (HO.tup [V.str "look", V.str "a", V.str "b"]) = H16 at s16 h16 x16 b16 ⊢
    have y16 := KL.x x16
    refine ⟨(by show 1 ≤ sizeLine; decide), fun t17 n17 => ?_⟩
    have s17 := same_new (o := HO.tup [V.ref t16]) n17
    have h17 : upd H16 t17 (HO.tup [V.ref t16]) t17 = some (HO.tup [V.ref t16]) := upd_same
    have x17 := ExtN.of s17
    have b17 := b16.ext s17
    generalize upd H16 t17 (HO.tup [V.ref t16]) = H17 at s17 h17 x17 b17 ⊢
    have y17 := KL.x x17
    refine ⟨t17, 16, [V.ref t16], rfl, rfl, SqT.of h17, (fun z => nomatch z), by decide, by decide, (by show 1 ≤ 1000; decide), fun t18 n18 => ?_⟩
    rw [show (List.replicate (Int.toNat 16) [V.ref t16]).flatten = List.replicate 16 (V.ref t16) from rfl]
    skip
    have s18 := same_new (o := HO.tup (List.replicate 16 (V.ref t16))) n18
    have h18 : upd H17 t18 (HO.tup (List.replicate 16 (V.ref t16))) t18 = some (HO.tup (List.replicate 16 (V.ref t16))) := upd_same
    have x18 := ExtN.of s18
    have b18 := b17.ext s18
    generalize upd H17 t18 (HO.tup (List.replicate 16 (V.ref t16))) = H18 at s18 h18 x18 b18 ⊢
    have y18 := KL.x x18
    refine ⟨(by show 2 ≤ sizeLine; decide), fun t19 n19 => ?_⟩
    have s19 := same_new (o := HO.tup [V.str "go", V.int 0]) n19
    have h19 : upd H18 t19 (HO.tup [V.str "go", V.int 0]) t19 = some (HO.tup [V.str "go", V.int 0]) := upd_same
    have x19 := ExtN.of s19
    have b19 := b18.ext s19
    generalize upd H18 t19 (HO.tup [V.str "go", V.int 0]) = H19 at s19 h19 x19 b19 ⊢
    have y19 := KL.x x19
    refine ⟨(by show 1 ≤ sizeLine; decide), fun t20 n20 => ?_⟩
    have s20 := same_new (o := HO.tup [V.ref t19]) n20
    have h20 : upd H19 t20 (HO.tup [V.ref t19]) t20 = some (HO.tup [V.ref t19]) := upd_same
    have x20 := ExtN.of s20
    have b20 := b19.ext s20
    generalize upd H19 t20 (HO.tup [V.ref t19]) = H20 at s20 h20 x20 b20 ⊢
    have y20 := KL.x x20
    refine ⟨t20, 17, [V.ref t19], rfl, rfl, SqT.of h20, (fun z => nomatch z), by decide, by decide, (by show 1 ≤ 1000; decide), fun t21 n21 => ?_⟩
    rw [show (List.replicate (Int.toNat 17) [V.ref t19]).flatten = List.replicate 17 (V.ref t19) from rfl]
    skip
    have s21 := same_new (o := HO.tup (List.replicate 17 (V.ref t19))) n21
    have h21 : upd H20 t21 (HO.tup (List.replicate 17 (V.ref t19))) t21 = some (HO.tup (List.replicate 17 (V.ref t19))) := upd_same
    have x21 := ExtN.of s21
    have b21 := b20.ext s21
    generalize upd H20 t21 (HO.tup (List.replicate 17 (V.ref t19))) = H21 at s21 h21 x21 b21 ⊢
    have y21 := KL.x x21
    refine ⟨(by show 4 ≤ sizeLine; decide), fun t22 n22 => ?_⟩
    have s22 := same_new (o := HO.lst [V.ref t13, V.ref t15, V.ref t18, V.ref t21]) n22
    have h22 : upd H21 t22 (HO.lst [V.ref t13, V.ref t15, V.ref t18, V.ref t21]) t22 = some (HO.lst [V.ref t13, V.ref t15, V.ref t18, V.ref t21]) := upd_same
    have x22 := ExtN.of s22
    have b22 := b21.ext s22
    generalize upd H21 t22 (HO.lst [V.ref t13, V.ref t15, V.ref t18, V.ref t21]) = H22 at s22 h22 x22 b22 ⊢
    have y22 := KL.x x22
    refine ⟨t11, t22, _, _, rfl, rfl, ((ExtN.trans x12 (ExtN.trans x13 (ExtN.trans x14 (ExtN.trans x15 (ExtN.trans x16 (ExtN.trans x17 (ExtN.trans x18 (ExtN.trans x19 (ExtN.trans x20 (ExtN.trans x21 x22)))))))))) _ _ h11 (fun _ z => by cases z)), h22, (by show 5 + 4 ≤ sizeLine; decide), fun t23 n23 => ?_⟩
    have s23 := same_new (o := HO.lst ([V.ref t2, V.ref t4, V.ref t7, V.ref t9, V.ref t10] ++ [V.ref t13, V.ref t15, V.ref t18, V.ref t21])) n23
    have h23 : upd H22 t23 (HO.lst ([V.ref t2, V.ref t4, V.ref t7, V.ref t9, V.ref t10] ++ [V.ref t13, V.ref t15, V.ref t18, V.ref t21])) t23 = some (HO.lst ([V.ref t2, V.ref t4, V.ref t7, V.ref t9, V.ref t10] ++ [V.ref t13, V.ref t15, V.ref t18, V.ref t21])) := upd_same
    have x23 := ExtN.of s23
    have b23 := b22.ext s23
    generalize upd H22 t23 (HO.lst ([V.ref t2, V.ref t4, V.ref t7, V.ref t9, V.ref t10] ++ [V.ref t13, V.ref t15, V.ref t18, V.ref t21])) = H23 at s23 h23 x23 b23 ⊢
    have y23 := KL.x x23
    have eh23 : H23 t23 = some (.lst [V.ref t2, V.ref t4, V.ref t7, V.ref t9, V.ref t10, V.ref t13, V.ref t15, V.ref t18, V.ref t21]) := h23
    refine ⟨_, rfl, Or.inl ⟨rfl, _, SqL.of eh23⟩, _, rfl, fun Ds ns => ?_⟩
    refine lc_fil walk_str ns (fun i acc H' => ∃ ks : RowsL, acc = (ks.map fun r => V.ref r.1) ∧ (∀ r ∈ ks, H' r.1 = some (.tup r.2.vs)) ∧ ks.map Prod.snd = sevL.take i) ⟨[], rfl, fun r z => (by cases z), rfl⟩ (fun _ _ => trivial) ?_ ?_
    · rintro i v acc Ha Hb hi sa ea ⟨ks, rfl, hk, ek⟩ ⟨rfl, c, hc, rfl⟩
      refine ⟨rfl, tt_yes ?_⟩
      refine ⟨_, rfl, (by show 4 ≤ sizeLine; decide), fun t nt => ?_⟩
      have hi7 : i < 7 := by rw [← abc_size]; exact hi
      have sat : sevL[i]? = some (.ift "a" ⟨#[c]⟩ 0) := by
        have z := abc_at i hi7
        rw [hc] at z
        show (ltrs.map fun s => Ln.ift "a" s 0)[i]? = _
        rw [List.getElem?_map, ← z]; rfl
      refine put_of ns (fun i acc l H2 H3 e kp ⟨ks, z1, z2, z3⟩ => ⟨ks, z1, fun r hr => kp _ _ (fun q => by have z := z2 r hr; rw [q, e] at z; cases z) (z2 r hr), z3⟩) sa ea (same_new nt) ?_ ⟨ks ++ [(t, .ift "a" ⟨#[c]⟩ 0)], by rw [List.map_append]; rfl, fun r hr => ?_, ?_⟩
      · have h1 := congrArg List.length ek
        rw [List.length_map, List.length_take] at h1
        rw [List.length_map, sizeLine_eq]; omega
      · rcases List.mem_append.mp hr with z | z
        · exact same_new nt _ _ (hk r z)
        · rw [List.mem_singleton.mp z]; exact upd_same
      · rw [List.map_append, ek, List.take_add_one, sat]; rfl
    rintro acc H24 s24 ek24 ⟨ks, rfl, hks, eks⟩
    have x24 := ExtN.of s24
    have y24 := KL.x x24
    have b24 := b23.ext s24
    rw [abc_size] at eks
    have ek7 : ks.map Prod.snd = sevL := eks
    refine ⟨Ds, _, rfl, SqL.of ek24, fun t25 n25 => ?_⟩
    have s25 := same_new (o := HO.tup (ks.map fun r => V.ref r.1)) n25
    have h25 : upd H24 t25 (HO.tup (ks.map fun r => V.ref r.1)) t25 = some (HO.tup (ks.map fun r => V.ref r.1)) := upd_same
    have x25 := ExtN.of s25
    have b25 := b24.ext s25
    generalize upd H24 t25 (HO.tup (ks.map fun r => V.ref r.1)) = H25 at s25 h25 x25 b25 ⊢
    have y25 := KL.x x25
    have eq25 := ((ExtN.trans x24 x25) _ _ eh23 (fun _ z => by cases z))
    refine ⟨t23, _, _, rfl, rfl, eq25, (by show 9 < sizeLine; decide), ?_⟩
    have x26 := ext_to (o := HO.lst ([V.ref t2, V.ref t4, V.ref t7, V.ref t9, V.ref t10, V.ref t13, V.ref t15, V.ref t18, V.ref t21] ++ [V.ref t25])) n23 (ExtN.trans x23 (ExtN.trans x24 x25))
    have y26 := KL.app (o := HO.lst ([V.ref t2, V.ref t4, V.ref t7, V.ref t9, V.ref t10, V.ref t13, V.ref t15, V.ref t18, V.ref t21] ++ [V.ref t25])) eq25
    have b26 := tabs_list (ys := [V.ref t2, V.ref t4, V.ref t7, V.ref t9, V.ref t10, V.ref t13, V.ref t15, V.ref t18, V.ref t21] ++ [V.ref t25]) b25 eq25
    have h26 : upd H25 t23 (HO.lst ([V.ref t2, V.ref t4, V.ref t7, V.ref t9, V.ref t10, V.ref t13, V.ref t15, V.ref t18, V.ref t21] ++ [V.ref t25])) t23 = some (HO.lst ([V.ref t2, V.ref t4, V.ref t7, V.ref t9, V.ref t10, V.ref t13, V.ref t15, V.ref t18, V.ref t21] ++ [V.ref t25])) := upd_same
    generalize upd H25 t23 (HO.lst ([V.ref t2, V.ref t4, V.ref t7, V.ref t9, V.ref t10, V.ref t13, V.ref t15, V.ref t18, V.ref t21] ++ [V.ref t25])) = H26 at x26 y26 b26 h26 ⊢
    have h26 : H26 t23 = some (.lst [V.ref t2, V.ref t4, V.ref t7, V.ref t9, V.ref t10, V.ref t13, V.ref t15, V.ref t18, V.ref t21, V.ref t25]) := h26
    refine ⟨_, rfl, Or.inl ⟨rfl, _, SqL.of h26⟩, _, _, rfl, (by unfold Zs.plainS; decide +kernel), (by unfold Zs.plainS; decide +kernel), fun Dz nz => ?_⟩
    refine lc_fil (Zs.walk2 (n := 6) (by decide +kernel)) nz (fun i acc H' => ∃ ks : RowsL, acc = (ks.map fun r => V.ref r.1) ∧ (∀ r ∈ ks, H' r.1 = some (.tup r.2.vs)) ∧ ks.map Prod.snd = sixL.take i) ⟨[], rfl, fun r z => (by cases z), rfl⟩ (fun _ _ => trivial) ?_ ?_
    · rintro i v acc Ha Hb hi sa ea ⟨js, rfl, hk, ek⟩ ⟨Tt, x, y, rfl, nT, rfl, hx, hy⟩
      obtain ⟨c, hc, rfl⟩ := Option.map_eq_some_iff.mp hx
      obtain ⟨d, hd, rfl⟩ := Option.map_eq_some_iff.mp hy
      refine ⟨Tt, _, rfl, SqT.of upd_same, rfl, _, _, rfl, _, _, rfl, rfl, rfl, tt_yes ?_⟩
      refine ⟨_, rfl, _, rfl, (by show 4 ≤ sizeLine; decide), fun t nt => ?_⟩
      have sT := (same_new nT).trans (same_new (o := HO.tup [V.str "if", V.str ⟨#[c]⟩, V.str ⟨#[d]⟩, V.int 6]) nt)
      refine put_of nz (fun i acc l H2 H3 e kp ⟨ks, z1, z2, z3⟩ => ⟨ks, z1, fun r hr => kp _ _ (fun q => by have z := z2 r hr; rw [q, e] at z; cases z) (z2 r hr), z3⟩) sa ea sT ?_ ⟨js ++ [(t, .ift ⟨#[c]⟩ ⟨#[d]⟩ 6)], by rw [List.map_append]; rfl, fun r hr => ?_, ?_⟩
      · have h1 := congrArg List.length ek
        rw [List.length_map, List.length_take] at h1
        rw [List.length_map, sizeLine_eq]; omega
      · rcases List.mem_append.mp hr with z | z
        · exact sT _ _ (hk r z)
        · rw [List.mem_singleton.mp z]; exact upd_same
      · rw [List.map_append, ek, List.take_add_one, zip_row hi hc hd]; rfl
    rintro acc H27 s27 ek27 ⟨js, rfl, hjs, ejs⟩
    have x27 := ExtN.of s27
    have y27 := KL.x x27
    have b27 := b26.ext s27
    have ej6 : js.map Prod.snd = sixL := ejs
    have lj : js.length = 6 := by have := congrArg List.length ej6; rw [List.length_map] at this; exact this
    refine ⟨(by show 4 ≤ sizeLine; decide), fun t28 n28 => ?_⟩
    have s28 := same_new (o := HO.tup [V.str "if", V.str "a", V.str "x", V.int 0]) n28
    have h28 : upd H27 t28 (HO.tup [V.str "if", V.str "a", V.str "x", V.int 0]) t28 = some (HO.tup [V.str "if", V.str "a", V.str "x", V.int 0]) := upd_same
    have x28 := ExtN.of s28
    have b28 := b27.ext s28
    generalize upd H27 t28 (HO.tup [V.str "if", V.str "a", V.str "x", V.int 0]) = H28 at s28 h28 x28 b28 ⊢
    have y28 := KL.x x28
    refine ⟨(by show 1 ≤ sizeLine; decide), fun t29 n29 => ?_⟩
    have s29 := same_new (o := HO.lst [V.ref t28]) n29
    have h29 : upd H28 t29 (HO.lst [V.ref t28]) t29 = some (HO.lst [V.ref t28]) := upd_same
    have x29 := ExtN.of s29
    have b29 := b28.ext s29
    generalize upd H28 t29 (HO.lst [V.ref t28]) = H29 at s29 h29 x29 b29 ⊢
    have y29 := KL.x x29
    refine ⟨Dz, t29, _, _, rfl, rfl, ((ExtN.trans x28 x29) _ _ ek27 (fun _ z => by cases z)), h29, (by rw [List.length_map, lj]; show 6 + 1 ≤ sizeLine; decide), fun t30 n30 => ?_⟩
    have s30 := same_new (o := HO.lst ((js.map fun r => V.ref r.1) ++ [V.ref t28])) n30
    have h30 : upd H29 t30 (HO.lst ((js.map fun r => V.ref r.1) ++ [V.ref t28])) t30 = some (HO.lst ((js.map fun r => V.ref r.1) ++ [V.ref t28])) := upd_same
    have x30 := ExtN.of s30
    have b30 := b29.ext s30
    generalize upd H29 t30 (HO.lst ((js.map fun r => V.ref r.1) ++ [V.ref t28])) = H30 at s30 h30 x30 b30 ⊢
    have y30 := KL.x x30
    refine ⟨t30, _, rfl, SqL.of h30, fun t31 n31 => ?_⟩
    have s31 := same_new (o := HO.tup ((js.map fun r => V.ref r.1) ++ [V.ref t28])) n31
    have h31 : upd H30 t31 (HO.tup ((js.map fun r => V.ref r.1) ++ [V.ref t28])) t31 = some (HO.tup ((js.map fun r => V.ref r.1) ++ [V.ref t28])) := upd_same
    have x31 := ExtN.of s31
    have b31 := b30.ext s31
    generalize upd H30 t31 (HO.tup ((js.map fun r => V.ref r.1) ++ [V.ref t28])) = H31 at s31 h31 x31 b31 ⊢
    have y31 := KL.x x31
    have eq31 := ((ExtN.trans x27 (ExtN.trans x28 (ExtN.trans x29 (ExtN.trans x30 x31)))) _ _ h26 (fun _ z => by cases z))
    refine ⟨t23, _, _, rfl, rfl, eq31, (by show 10 < sizeLine; decide), ?_⟩
    have x32 := ext_to (o := HO.lst ([V.ref t2, V.ref t4, V.ref t7, V.ref t9, V.ref t10, V.ref t13, V.ref t15, V.ref t18, V.ref t21, V.ref t25] ++ [V.ref t31])) n23 (ExtN.trans x26 (ExtN.trans x27 (ExtN.trans x28 (ExtN.trans x29 (ExtN.trans x30 x31)))))
    have y32 := KL.app (o := HO.lst ([V.ref t2, V.ref t4, V.ref t7, V.ref t9, V.ref t10, V.ref t13, V.ref t15, V.ref t18, V.ref t21, V.ref t25] ++ [V.ref t31])) eq31
    have b32 := tabs_list (ys := [V.ref t2, V.ref t4, V.ref t7, V.ref t9, V.ref t10, V.ref t13, V.ref t15, V.ref t18, V.ref t21, V.ref t25] ++ [V.ref t31]) b31 eq31
    have h32 : upd H31 t23 (HO.lst ([V.ref t2, V.ref t4, V.ref t7, V.ref t9, V.ref t10, V.ref t13, V.ref t15, V.ref t18, V.ref t21, V.ref t25] ++ [V.ref t31])) t23 = some (HO.lst ([V.ref t2, V.ref t4, V.ref t7, V.ref t9, V.ref t10, V.ref t13, V.ref t15, V.ref t18, V.ref t21, V.ref t25] ++ [V.ref t31])) := upd_same
    generalize upd H31 t23 (HO.lst ([V.ref t2, V.ref t4, V.ref t7, V.ref t9, V.ref t10, V.ref t13, V.ref t15, V.ref t18, V.ref t21, V.ref t25] ++ [V.ref t31])) = H32 at x32 y32 b32 h32 ⊢
    have h32 : H32 t23 = some (.lst [V.ref t2, V.ref t4, V.ref t7, V.ref t9, V.ref t10, V.ref t13, V.ref t15, V.ref t18, V.ref t21, V.ref t25, V.ref t31]) := h32
    have g100 : ∃ (L : Addr) (rs : RowsL), V.ref t2 = .ref L ∧ LinesAt K H32 L rs ∧ RdOk rs := ⟨t2, [(t1, Ln.go 1)], rfl, ⟨SqT.of ((KL.trans y3 (KL.trans y4 (KL.trans y5 (KL.trans y6 (KL.trans y7 (KL.trans y8 (KL.trans y9 (KL.trans y10 (KL.trans y11 (KL.trans y12 (KL.trans y13 (KL.trans y14 (KL.trans y15 (KL.trans y16 (KL.trans y17 (KL.trans y18 (KL.trans y19 (KL.trans y20 (KL.trans y21 (KL.trans y22 (KL.trans y23 (KL.trans y24 (KL.trans y25 (KL.trans y26 (KL.trans y27 (KL.trans y28 (KL.trans y29 (KL.trans y30 (KL.trans y31 y32))))))))))))))))))))))))))))) _ _ h2 (fun _ z => by cases z) (fun _ z => by cases z)), (List.forall_mem_cons.mpr ⟨SqT.of (xs := (Ln.go 1).vs) ((KL.trans y2 (KL.trans y3 (KL.trans y4 (KL.trans y5 (KL.trans y6 (KL.trans y7 (KL.trans y8 (KL.trans y9 (KL.trans y10 (KL.trans y11 (KL.trans y12 (KL.trans y13 (KL.trans y14 (KL.trans y15 (KL.trans y16 (KL.trans y17 (KL.trans y18 (KL.trans y19 (KL.trans y20 (KL.trans y21 (KL.trans y22 (KL.trans y23 (KL.trans y24 (KL.trans y25 (KL.trans y26 (KL.trans y27 (KL.trans y28 (KL.trans y29 (KL.trans y30 (KL.trans y31 y32)))))))))))))))))))))))))))))) _ _ h1 (fun _ z => by cases z) (fun _ z => by cases z)), (fun _ h => nomatch h)⟩)⟩, lines_ok (ls := [Ln.go 1]) (by decide +kernel) (by decide +kernel) (ks := [["a", "b"], ["abcdefgh", "b"]]) (by decide +kernel) (by decide) rfl⟩
    have g102 : ∃ (L : Addr) (rs : RowsL), V.ref t7 = .ref L ∧ LinesAt K H32 L rs ∧ RdOk rs := ⟨t7, [(t5, Ln.ift "a" "b" 1), (t6, Ln.ift "a" "b" 2)], rfl, ⟨SqT.of ((KL.trans y8 (KL.trans y9 (KL.trans y10 (KL.trans y11 (KL.trans y12 (KL.trans y13 (KL.trans y14 (KL.trans y15 (KL.trans y16 (KL.trans y17 (KL.trans y18 (KL.trans y19 (KL.trans y20 (KL.trans y21 (KL.trans y22 (KL.trans y23 (KL.trans y24 (KL.trans y25 (KL.trans y26 (KL.trans y27 (KL.trans y28 (KL.trans y29 (KL.trans y30 (KL.trans y31 y32)))))))))))))))))))))))) _ _ h7 (fun _ z => by cases z) (fun _ z => by cases z)), (List.forall_mem_cons.mpr ⟨SqT.of (xs := (Ln.ift "a" "b" 1).vs) ((KL.trans y6 (KL.trans y7 (KL.trans y8 (KL.trans y9 (KL.trans y10 (KL.trans y11 (KL.trans y12 (KL.trans y13 (KL.trans y14 (KL.trans y15 (KL.trans y16 (KL.trans y17 (KL.trans y18 (KL.trans y19 (KL.trans y20 (KL.trans y21 (KL.trans y22 (KL.trans y23 (KL.trans y24 (KL.trans y25 (KL.trans y26 (KL.trans y27 (KL.trans y28 (KL.trans y29 (KL.trans y30 (KL.trans y31 y32)))))))))))))))))))))))))) _ _ h5 (fun _ z => by cases z) (fun _ z => by cases z)), (List.forall_mem_cons.mpr ⟨SqT.of (xs := (Ln.ift "a" "b" 2).vs) ((KL.trans y7 (KL.trans y8 (KL.trans y9 (KL.trans y10 (KL.trans y11 (KL.trans y12 (KL.trans y13 (KL.trans y14 (KL.trans y15 (KL.trans y16 (KL.trans y17 (KL.trans y18 (KL.trans y19 (KL.trans y20 (KL.trans y21 (KL.trans y22 (KL.trans y23 (KL.trans y24 (KL.trans y25 (KL.trans y26 (KL.trans y27 (KL.trans y28 (KL.trans y29 (KL.trans y30 (KL.trans y31 y32))))))))))))))))))))))))) _ _ h6 (fun _ z => by cases z) (fun _ z => by cases z)), (fun _ h => nomatch h)⟩)⟩)⟩, lines_ok (ls := [Ln.ift "a" "b" 1, Ln.ift "a" "b" 2]) (by decide +kernel) (by decide +kernel) (ks := [["a", "b"], ["abcdefgh", "b"]]) (by decide +kernel) (by decide) rfl⟩
    have g103 : ∃ (L : Addr) (rs : RowsL), V.ref t9 = .ref L ∧ LinesAt K H32 L rs ∧ RdOk rs := ⟨t9, [(t8, Ln.ift "abcdefgh" "b" 0)], rfl, ⟨SqT.of ((KL.trans y10 (KL.trans y11 (KL.trans y12 (KL.trans y13 (KL.trans y14 (KL.trans y15 (KL.trans y16 (KL.trans y17 (KL.trans y18 (KL.trans y19 (KL.trans y20 (KL.trans y21 (KL.trans y22 (KL.trans y23 (KL.trans y24 (KL.trans y25 (KL.trans y26 (KL.trans y27 (KL.trans y28 (KL.trans y29 (KL.trans y30 (KL.trans y31 y32)))))))))))))))))))))) _ _ h9 (fun _ z => by cases z) (fun _ z => by cases z)), (List.forall_mem_cons.mpr ⟨SqT.of (xs := (Ln.ift "abcdefgh" "b" 0).vs) ((KL.trans y9 (KL.trans y10 (KL.trans y11 (KL.trans y12 (KL.trans y13 (KL.trans y14 (KL.trans y15 (KL.trans y16 (KL.trans y17 (KL.trans y18 (KL.trans y19 (KL.trans y20 (KL.trans y21 (KL.trans y22 (KL.trans y23 (KL.trans y24 (KL.trans y25 (KL.trans y26 (KL.trans y27 (KL.trans y28 (KL.trans y29 (KL.trans y30 (KL.trans y31 y32))))))))))))))))))))))) _ _ h8 (fun _ z => by cases z) (fun _ z => by cases z)), (fun _ h => nomatch h)⟩)⟩, lines_ok (ls := [Ln.ift "abcdefgh" "b" 0]) (by decide +kernel) (by decide +kernel) (ks := [["a", "b"], ["abcdefgh", "b"]]) (by decide +kernel) (by decide) rfl⟩
    have g104 : ∃ (L : Addr) (rs : RowsL), V.ref t10 = .ref L ∧ LinesAt K H32 L rs ∧ RdOk rs := ⟨t10, [], rfl, ⟨SqT.of ((KL.trans y11 (KL.trans y12 (KL.trans y13 (KL.trans y14 (KL.trans y15 (KL.trans y16 (KL.trans y17 (KL.trans y18 (KL.trans y19 (KL.trans y20 (KL.trans y21 (KL.trans y22 (KL.trans y23 (KL.trans y24 (KL.trans y25 (KL.trans y26 (KL.trans y27 (KL.trans y28 (KL.trans y29 (KL.trans y30 (KL.trans y31 y32))))))))))))))))))))) _ _ h10 (fun _ z => by cases z) (fun _ z => by cases z)), (fun _ h => nomatch h)⟩, lines_ok (ls := []) (by decide +kernel) (by decide +kernel) (ks := [["a", "b"], ["abcdefgh", "b"]]) (by decide +kernel) (by decide) rfl⟩
    have g107 : ∃ (L : Addr) (rs : RowsL), V.ref t18 = .ref L ∧ LinesAt K H32 L rs ∧ RdOk rs := by
      refine ⟨t18, List.replicate 16 (t16, Ln.look "a" "b"), rfl, ⟨?_, fun r hr => ?_⟩, lines_ok (ls := List.replicate 16 (Ln.look "a" "b")) (by decide +kernel) (by decide +kernel) (ks := [["a", "b"], ["abcdefgh", "b"]]) (by decide +kernel) (by decide) (by rw [List.map_replicate])⟩
      · rw [List.map_replicate]; exact SqT.of ((KL.trans y19 (KL.trans y20 (KL.trans y21 (KL.trans y22 (KL.trans y23 (KL.trans y24 (KL.trans y25 (KL.trans y26 (KL.trans y27 (KL.trans y28 (KL.trans y29 (KL.trans y30 (KL.trans y31 y32))))))))))))) _ _ h18 (fun _ z => by cases z) (fun _ z => by cases z))
      · rw [List.eq_of_mem_replicate hr]; exact SqT.of (xs := (Ln.look "a" "b").vs) ((KL.trans y17 (KL.trans y18 (KL.trans y19 (KL.trans y20 (KL.trans y21 (KL.trans y22 (KL.trans y23 (KL.trans y24 (KL.trans y25 (KL.trans y26 (KL.trans y27 (KL.trans y28 (KL.trans y29 (KL.trans y30 (KL.trans y31 y32))))))))))))))) _ _ h16 (fun _ z => by cases z) (fun _ z => by cases z))
    have g110 : ∃ (L : Addr) (rs : RowsL), V.ref t31 = .ref L ∧ LinesAt K H32 L rs ∧ RdOk rs := by
      refine ⟨t31, js ++ [(t28, .ift "a" "x" 0)], rfl, ⟨by rw [List.map_append]; exact SqT.of (y32 _ _ h31 (fun _ z => by cases z) (fun _ z => by cases z)), fun r hr => ?_⟩, lines_ok (ls := sixL ++ [.ift "a" "x" 0]) (by decide +kernel) (by decide +kernel) (ks := [["a", "x"], ["b", "x"], ["c", "x"], ["a", "y"], ["b", "y"], ["c", "y"]]) (by decide +kernel) (by decide) (by rw [List.map_append, ej6]; rfl)⟩
      rcases List.mem_append.mp hr with z | z
      · exact SqT.of ((KL.trans y28 (KL.trans y29 (KL.trans y30 (KL.trans y31 y32)))) _ _ (hjs r z) (fun _ z => by cases z) (fun _ z => by cases z))
      · rw [List.mem_singleton.mp z]; exact SqT.of (xs := (Ln.ift "a" "x" 0).vs) ((KL.trans y29 (KL.trans y30 (KL.trans y31 y32))) _ _ h28 (fun _ z => by cases z) (fun _ z => by cases z))
    have g101 : ∃ (L : Addr) (xs : List V), V.ref t4 = .ref L ∧ SqT K H32 L xs ∧ (Spoilt K H32 xs ∨ (xs.length ≤ 1000 ∧ TooMany K H32 xs)) := ⟨t4, _, rfl, SqT.of ((KL.trans y5 (KL.trans y6 (KL.trans y7 (KL.trans y8 (KL.trans y9 (KL.trans y10 (KL.trans y11 (KL.trans y12 (KL.trans y13 (KL.trans y14 (KL.trans y15 (KL.trans y16 (KL.trans y17 (KL.trans y18 (KL.trans y19 (KL.trans y20 (KL.trans y21 (KL.trans y22 (KL.trans y23 (KL.trans y24 (KL.trans y25 (KL.trans y26 (KL.trans y27 (KL.trans y28 (KL.trans y29 (KL.trans y30 (KL.trans y31 y32))))))))))))))))))))))))))) _ _ h4 (fun _ z => by cases z) (fun _ z => by cases z)), .inl ⟨(by show 1 ≤ 16; decide), [lineD (.tuple [.str "go", .int 2]) (1 : Nat)], .cons (.inl ⟨_, .tup (SqT.of ((KL.trans y4 (KL.trans y5 (KL.trans y6 (KL.trans y7 (KL.trans y8 (KL.trans y9 (KL.trans y10 (KL.trans y11 (KL.trans y12 (KL.trans y13 (KL.trans y14 (KL.trans y15 (KL.trans y16 (KL.trans y17 (KL.trans y18 (KL.trans y19 (KL.trans y20 (KL.trans y21 (KL.trans y22 (KL.trans y23 (KL.trans y24 (KL.trans y25 (KL.trans y26 (KL.trans y27 (KL.trans y28 (KL.trans y29 (KL.trans y30 (KL.trans y31 y32)))))))))))))))))))))))))))) _ _ h3 (fun _ z => by cases z) (fun _ z => by cases z))) (.cons (.str _) (.cons (.int _) .nil)), by decide +kernel, mod_tup2 (by decide +kernel) (by simp), rfl⟩) .nil, (by decide +kernel)⟩⟩
    have g105 : ∃ (L : Addr) (xs : List V), V.ref t13 = .ref L ∧ SqT K H32 L xs ∧ (Spoilt K H32 xs ∨ (xs.length ≤ 1000 ∧ TooMany K H32 xs)) := ⟨t13, _, rfl, SqT.of ((KL.trans y14 (KL.trans y15 (KL.trans y16 (KL.trans y17 (KL.trans y18 (KL.trans y19 (KL.trans y20 (KL.trans y21 (KL.trans y22 (KL.trans y23 (KL.trans y24 (KL.trans y25 (KL.trans y26 (KL.trans y27 (KL.trans y28 (KL.trans y29 (KL.trans y30 (KL.trans y31 y32)))))))))))))))))) _ _ h13 (fun _ z => by cases z) (fun _ z => by cases z)), .inl ⟨(by show 1 ≤ 16; decide), [lineD (.tuple [.str "if", .str "abcdefghi", .str "b", .int 0]) (1 : Nat)], .cons (.inl ⟨_, .tup (SqT.of ((KL.trans y13 (KL.trans y14 (KL.trans y15 (KL.trans y16 (KL.trans y17 (KL.trans y18 (KL.trans y19 (KL.trans y20 (KL.trans y21 (KL.trans y22 (KL.trans y23 (KL.trans y24 (KL.trans y25 (KL.trans y26 (KL.trans y27 (KL.trans y28 (KL.trans y29 (KL.trans y30 (KL.trans y31 y32))))))))))))))))))) _ _ h12 (fun _ z => by cases z) (fun _ z => by cases z))) (.cons (.str _) (.cons (.str _) (.cons (.str _) (.cons (.int _) .nil)))), by decide +kernel, mod_tup2 (by decide +kernel) (by simp), rfl⟩) .nil, (by decide +kernel)⟩⟩
    have g106 : ∃ (L : Addr) (xs : List V), V.ref t15 = .ref L ∧ SqT K H32 L xs ∧ (Spoilt K H32 xs ∨ (xs.length ≤ 1000 ∧ TooMany K H32 xs)) := ⟨t15, _, rfl, SqT.of ((KL.trans y16 (KL.trans y17 (KL.trans y18 (KL.trans y19 (KL.trans y20 (KL.trans y21 (KL.trans y22 (KL.trans y23 (KL.trans y24 (KL.trans y25 (KL.trans y26 (KL.trans y27 (KL.trans y28 (KL.trans y29 (KL.trans y30 (KL.trans y31 y32)))))))))))))))) _ _ h15 (fun _ z => by cases z) (fun _ z => by cases z)), .inl ⟨(by show 1 ≤ 16; decide), [lineD (.tuple [.str "go", .bool false]) (1 : Nat)], .cons (.inl ⟨_, .tup (SqT.of ((KL.trans y15 (KL.trans y16 (KL.trans y17 (KL.trans y18 (KL.trans y19 (KL.trans y20 (KL.trans y21 (KL.trans y22 (KL.trans y23 (KL.trans y24 (KL.trans y25 (KL.trans y26 (KL.trans y27 (KL.trans y28 (KL.trans y29 (KL.trans y30 (KL.trans y31 y32))))))))))))))))) _ _ h14 (fun _ z => by cases z) (fun _ z => by cases z))) (.cons (.str _) (.cons (.bl _) .nil)), by decide +kernel, mod_tup2 (by decide +kernel) (by simp), rfl⟩) .nil, (by decide +kernel)⟩⟩
    have g108 : ∃ (L : Addr) (xs : List V), V.ref t21 = .ref L ∧ SqT K H32 L xs ∧ (Spoilt K H32 xs ∨ (xs.length ≤ 1000 ∧ TooMany K H32 xs)) := ⟨t21, _, rfl, SqT.of ((KL.trans y22 (KL.trans y23 (KL.trans y24 (KL.trans y25 (KL.trans y26 (KL.trans y27 (KL.trans y28 (KL.trans y29 (KL.trans y30 (KL.trans y31 y32)))))))))) _ _ h21 (fun _ z => by cases z) (fun _ z => by cases z)), .inr ⟨by rw [List.length_replicate]; decide, .inl (by rw [List.length_replicate]; decide)⟩⟩
    have len7 : ks.length = 7 := by have := congrArg List.length ek7; rw [List.length_map] at this; exact this
    have g109 : ∃ (L : Addr) (xs : List V), V.ref t25 = .ref L ∧ SqT K H32 L xs ∧ (Spoilt K H32 xs ∨ (xs.length ≤ 1000 ∧ TooMany K H32 xs)) := by
      refine ⟨t25, _, rfl, SqT.of ((KL.trans y26 (KL.trans y27 (KL.trans y28 (KL.trans y29 (KL.trans y30 (KL.trans y31 y32)))))) _ _ h25 (fun _ z => by cases z) (fun _ z => by cases z)), .inr ⟨by rw [List.length_map, len7]; decide, .inr ⟨ks, rfl, fun r z => SqT.of ((KL.trans y25 (KL.trans y26 (KL.trans y27 (KL.trans y28 (KL.trans y29 (KL.trans y30 (KL.trans y31 y32))))))) _ _ (hks r z) (fun _ z => by cases z) (fun _ z => by cases z)), by rw [len7]; decide, fun r hr => ?_, fun ps hA => ?_⟩⟩⟩
      · have hm : r.2 ∈ sevL := by rw [← ek7]; exact List.mem_map_of_mem (f := Prod.snd) hr
        rw [len7]; exact (by decide +kernel : ∀ l ∈ sevL, l.fine 7 = true) _ hm
      · rw [ek7] at hA
        have b := sub_len (show ([["a", "a"], ["a", "b"], ["a", "c"], ["a", "d"], ["a", "e"], ["a", "f"], ["a", "g"]] : List (List Str)).Nodup by decide +kernel) (ys := ps) fun k hk => (hA.mem k).mpr ((by decide +kernel : ∀ k ∈ ([["a", "a"], ["a", "b"], ["a", "c"], ["a", "d"], ["a", "e"], ["a", "f"], ["a", "g"]] : List (List Str)), k ∈ keysOf ["if"] sevL) k hk)
        have c : ([["a", "a"], ["a", "b"], ["a", "c"], ["a", "d"], ["a", "e"], ["a", "f"], ["a", "g"]] : List (List Str)).length = 7 := rfl
        omega
    have hall : ∀ (i : Nat) (v : V), ([V.ref t2, V.ref t4, V.ref t7, V.ref t9, V.ref t10, V.ref t13, V.ref t15, V.ref t18, V.ref t21, V.ref t25, V.ref t31] : List V)[i]? = some v → ∃ b, dueB[i]? = some b ∧ ((b = true ∧ ∃ (L : Addr) (rs : RowsL), v = .ref L ∧ LinesAt K H32 L rs ∧ RdOk rs) ∨ (b = false ∧ ∃ (L : Addr) (xs : List V), v = .ref L ∧ SqT K H32 L xs ∧ (Spoilt K H32 xs ∨ (xs.length ≤ 1000 ∧ TooMany K H32 xs)))) := by
      intro i v hv
      match i, hv with
      | 0, hv => obtain rfl : V.ref t2 = v := Option.some.inj hv; exact ⟨true, rfl, .inl ⟨rfl, g100⟩⟩
      | 1, hv => obtain rfl : V.ref t4 = v := Option.some.inj hv; exact ⟨false, rfl, .inr ⟨rfl, g101⟩⟩
      | 2, hv => obtain rfl : V.ref t7 = v := Option.some.inj hv; exact ⟨true, rfl, .inl ⟨rfl, g102⟩⟩
      | 3, hv => obtain rfl : V.ref t9 = v := Option.some.inj hv; exact ⟨true, rfl, .inl ⟨rfl, g103⟩⟩
      | 4, hv => obtain rfl : V.ref t10 = v := Option.some.inj hv; exact ⟨true, rfl, .inl ⟨rfl, g104⟩⟩
      | 5, hv => obtain rfl : V.ref t13 = v := Option.some.inj hv; exact ⟨false, rfl, .inr ⟨rfl, g105⟩⟩
      | 6, hv => obtain rfl : V.ref t15 = v := Option.some.inj hv; exact ⟨false, rfl, .inr ⟨rfl, g106⟩⟩
      | 7, hv => obtain rfl : V.ref t18 = v := Option.some.inj hv; exact ⟨true, rfl, .inl ⟨rfl, g107⟩⟩
      | 8, hv => obtain rfl : V.ref t21 = v := Option.some.inj hv; exact ⟨false, rfl, .inr ⟨rfl, g108⟩⟩
      | 9, hv => obtain rfl : V.ref t25 = v := Option.some.inj hv; exact ⟨false, rfl, .inr ⟨rfl, g109⟩⟩
      | 10, hv => obtain rfl : V.ref t31 = v := Option.some.inj hv; exact ⟨true, rfl, .inl ⟨rfl, g110⟩⟩
      | i + 11, hv => simp at hv
    clear g100 g101 g102 g103 g104 g105 g106 g107 g108 g109 g110
    refine ⟨_, rfl, t23, rfl, ⟨_, SqL.of h32⟩, fun Dn nDn => ?_⟩
    refine lc_fil (walk_list (xs := [V.ref t2, V.ref t4, V.ref t7, V.ref t9, V.ref t10, V.ref t13, V.ref t15, V.ref t18, V.ref t21, V.ref t25, V.ref t31])) nDn (fun i acc _ => acc = (dueB.take i).map V.bl) rfl (fun H' s' => sqL_up (SqL.of h32) s') ?_ ?_
    · rintro i v acc Ha Hb hi s2 e2 rfl ⟨rfl, hv⟩
      refine ⟨rfl, tt_yes ?_⟩
      obtain ⟨b, hb, hvb⟩ := hall i v hv
      refine ⟨_, rfl, isrC (b := b) (hvb.imp (fun ⟨z, L, rs, e, h1, h2⟩ => ⟨z, L, rs, e, h1.up s2, h2⟩) (fun ⟨z, L, xs, e, h1, h2⟩ => ⟨z, .inr ⟨L, xs, e, sqT_up h1 s2, h2.imp (fun z => z.up s2) (fun z => ⟨z.1, z.2.up s2⟩)⟩⟩)) fun H' s' => ?_⟩
      exact put_of nDn (fun _ _ _ _ _ _ _ z => z) s2 e2 s' (by rw [List.length_map, List.length_take, sizeLine_eq]; have : dueB.length = 11 := rfl; omega) (by rw [List.take_add_one, hb, List.map_append]; rfl)
    rintro acc H33 s33 ek33 rfl
    have x33 := ExtN.of s33
    have y33 := KL.x x33
    have b33 := b32.ext s33
    have ef33 : H33 Dn = some (.lst [V.bl true, V.bl false, V.bl true, V.bl true, V.bl true, V.bl false, V.bl false, V.bl true, V.bl false, V.bl false, V.bl true]) := ek33
    refine ⟨(by show 11 ≤ sizeLine; decide), fun t34 n34 => ?_⟩
    have s34 := same_new (o := HO.lst [V.bl true, V.bl false, V.bl true, V.bl true, V.bl true, V.bl false, V.bl false, V.bl true, V.bl false, V.bl false, V.bl true]) n34
    have h34 : upd H33 t34 (HO.lst [V.bl true, V.bl false, V.bl true, V.bl true, V.bl true, V.bl false, V.bl false, V.bl true, V.bl false, V.bl false, V.bl true]) t34 = some (HO.lst [V.bl true, V.bl false, V.bl true, V.bl true, V.bl true, V.bl false, V.bl false, V.bl true, V.bl false, V.bl false, V.bl true]) := upd_same
    have x34 := ExtN.of s34
    have b34 := b33.ext s34
    generalize upd H33 t34 (HO.lst [V.bl true, V.bl false, V.bl true, V.bl true, V.bl true, V.bl false, V.bl false, V.bl true, V.bl false, V.bl false, V.bl true]) = H34 at s34 h34 x34 b34 ⊢
    have y34 := KL.x x34
    refine ⟨.list [.bool true, .bool false, .bool true, .bool true, .bool true, .bool false, .bool false, .bool true, .bool false, .bool false, .bool true], .list [.bool true, .bool false, .bool true, .bool true, .bool true, .bool false, .bool false, .bool true, .bool false, .bool false, .bool true], .lst (SqL.of (x34 _ _ ef33 (fun _ z => by cases z))) (.cons (.bl _) (.cons (.bl _) (.cons (.bl _) (.cons (.bl _) (.cons (.bl _) (.cons (.bl _) (.cons (.bl _) (.cons (.bl _) (.cons (.bl _) (.cons (.bl _) (.cons (.bl _) .nil))))))))))), .lst (SqL.of h34) (.cons (.bl _) (.cons (.bl _) (.cons (.bl _) (.cons (.bl _) (.cons (.bl _) (.cons (.bl _) (.cons (.bl _) (.cons (.bl _) (.cons (.bl _) (.cons (.bl _) (.cons (.bl _) .nil))))))))))), bls_shaped, bls_shaped, _, rfl, ?_⟩
    rw [SeqAt.eqv_refl _ (SeqAt.canLay_of_shaped bls_shaped)]
    refine iteF ?_
    refine ⟨rfl, b34, fun H35 x35 b35 => ⟨_, rfl, iteF ?_⟩⟩
    have y35 := KL.x x35
    refine ⟨rfl, b35, fun H36 x36 b36 => ⟨_, rfl, iteF ?_⟩⟩
    have y36 := KL.x x36
    refine ⟨(by show 3 ≤ sizeLine; decide), fun t37 n37 => ?_⟩
    have s37 := same_new (o := HO.tup [V.str "read", V.str "read", V.str "look"]) n37
    have h37 : upd H36 t37 (HO.tup [V.str "read", V.str "read", V.str "look"]) t37 = some (HO.tup [V.str "read", V.str "read", V.str "look"]) := upd_same
    have x37 := ExtN.of s37
    have b37 := b36.ext s37
    generalize upd H36 t37 (HO.tup [V.str "read", V.str "read", V.str "look"]) = H37 at s37 h37 x37 b37 ⊢
    have y37 := KL.x x37
    refine ⟨(by show 3 ≤ sizeLine; decide), fun t38 n38 => ?_⟩
    have s38 := same_new (o := HO.tup [V.str "look", V.str "go", V.str "if"]) n38
    have h38 : upd H37 t38 (HO.tup [V.str "look", V.str "go", V.str "if"]) t38 = some (HO.tup [V.str "look", V.str "go", V.str "if"]) := upd_same
    have x38 := ExtN.of s38
    have b38 := b37.ext s38
    generalize upd H37 t38 (HO.tup [V.str "look", V.str "go", V.str "if"]) = H38 at s38 h38 x38 b38 ⊢
    have y38 := KL.x x38
    refine ⟨(by show 2 ≤ sizeLine; decide), fun t39 n39 => ?_⟩
    have s39 := same_new (o := HO.tup [V.ref t37, V.ref t38]) n39
    have h39 : upd H38 t39 (HO.tup [V.ref t37, V.ref t38]) t39 = some (HO.tup [V.ref t37, V.ref t38]) := upd_same
    have x39 := ExtN.of s39
    have b39 := b38.ext s39
    generalize upd H38 t39 (HO.tup [V.ref t37, V.ref t38]) = H39 at s39 h39 x39 b39 ⊢
    have y39 := KL.x x39
    have gl : ∃ (L : Addr) (rs : RowsL), V.ref t39 = .ref L ∧ LinesAt K H39 L rs ∧ RdOk rs := ⟨t39, [(t37, Ln.read "read" "look"), (t38, Ln.look "go" "if")], rfl, ⟨SqT.of h39, List.forall_mem_cons.mpr ⟨SqT.of (xs := (Ln.read "read" "look").vs) ((KL.trans y38 y39) _ _ h37 (fun _ z => by cases z) (fun _ z => by cases z)), List.forall_mem_cons.mpr ⟨SqT.of (xs := (Ln.look "go" "if").vs) (y39 _ _ h38 (fun _ z => by cases z) (fun _ z => by cases z)), fun _ h => nomatch h⟩⟩⟩, lines_ok (ls := [Ln.read "read" "look", Ln.look "go" "if"]) (by decide +kernel) (by decide +kernel) (ks := [["a", "b"], ["abcdefgh", "b"]]) (by decide +kernel) (by decide) rfl⟩
    refine isrC (b := true) (.inl ⟨rfl, gl⟩) fun H40 s40 => ⟨_, rfl, iteF ?_⟩
    have x40 := ExtN.of s40
    have y40 := KL.x x40
    have b40 := b39.ext s40
    refine ⟨rfl, _, rfl, ?_⟩
    rw [show decide ((V.int 16 : V) = V.int 16) = true from decide_eq_true rfl]
    refine iteT ⟨rfl, ?_⟩
    rw [show decide ((V.int 6 : V) = V.int 6) = true from decide_eq_true rfl]
    exact k _
end
end Rd

/-! The end of a law whose defs make lambdas: its tables are empty when it is called -/
namespace Ox
open PySem PySem.Spec PyProof.Rows L2 LamX
open Classical in
theorem law_callTG {P : Program} {w : World} {K : PySem.W.Frag} {mg mb : Str → Option Value} {k : Nat} {fa a : Addr} {cs : List (Addr × Addr)} {fd : FuncData} {x : Str} {sp : Sp} {s₁ : Shared} {vs : List Value} {ns : List Int}
    (KX : K.In s₁.heap) (hns : s₁.heap.Ns mainGlobals mg) (hb : s₁.heap.Ns builtinsNs mb) (hbb : ∀ x : Str, x ≠ "__name__" → mb x = bootBuiltins x) (hlim : s₁.heap.NoLimit) (hsys : ∃ mm, s₁.heap.Ns sysModules mm) (hg : s₁.gens = #[])
    (tabs : ∀ p ∈ cs, s₁.heap.get? p.2 = some (PySem.W.tabObj #[]) ∧ K.lookup p.2 = none ∧ PySem.W.CodeHd s₁.heap p.1 p.2)
    (hbm : ∃ (bm : Addr) (ob : Obj), mg "__builtins__" = some (.ref bm) ∧ bm ≠ builtinsNs ∧ s₁.heap.get? bm = some ob ∧ ob.cls = .type "module" ∧ ob.dict = some builtinsNs ∧ ob.data = .plain)
    (ha : s₁.heap.get? a = some { cls := .type "list", data := .seq vs.toArray }) (hi : IntsAre vs ns) (hl : ns.length ≤ sizeLine) (hr : Room k callerA)
    (F : ∀ base : Heap, K.In base → base.Ns mainGlobals mg → (∃ o, base.get? sysModules = some o) → (∀ p ∈ cs, TabB base mg p.1 p.2) → FnG P w K mg base k fa fd [x] sp) (hbind : ∀ (s : Shared) (u : Value), BindsTo s fd ⟨[u], []⟩ [(x, u)])
    (hsp : ∀ H : Hp, (∀ p ∈ cs, H p.2 = some (.tbl #[])) → SqL K H a (ns.map V.int) → sp [.ref a] H (fun v _ => v = .bl true) fun _ _ _ => False) :
    codeAny (model P w) callerA (.call (.ref fa) ⟨[.ref a], []⟩) (fun r s' => r = .ok (.ret (.bool true)) ∧ OldK s₁.heap s'.heap ∧ s'.os = s₁.os ∧ AllBare s'.gens) s₁ := by
  have rv := vals_ints hi
  have lenV := hi.length
  have nota : ∀ p ∈ cs, p.2 ≠ a := fun p hp z => by
    have q := (tabs p hp).1
    rw [z, ha] at q
    exact nomatch (congrArg Obj.data (Option.some.inj q) : Data.seq vs.toArray _ = Data.fields #[])
  -- what is known of the heap: the tables are empty; the script, where it is no constant
  let script : HO := .frz { cls := .type "list", data := .seq vs.toArray } (.lst (ns.map V.int))
  let H : Hp := fun b => if ∃ p ∈ cs, p.2 = b then some (.tbl #[]) else if b = a ∧ K.lookup a = none then some script else none
  have tab_ : ∀ p ∈ cs, H p.2 = some (.tbl #[]) := fun p hp => if_pos ⟨p, hp, rfl⟩
  have scr_ : K.lookup a = none → H a = some script := fun hk => (if_neg (fun ⟨p, hp, e⟩ => nota p hp e)).trans (if_pos ⟨rfl, hk⟩)
  have says : ∀ {b u}, H b = some u → (∃ p ∈ cs, p.2 = b ∧ u = .tbl #[]) ∨ (b = a ∧ K.lookup a = none ∧ u = script) := fun {b u} e => by
    by_cases h1 : ∃ p ∈ cs, p.2 = b
    · obtain ⟨p, hp, rfl⟩ := h1
      rw [tab_ p hp] at e; cases e
      exact .inl ⟨p, hp, rfl, rfl⟩
    · have e1 := (if_neg h1).symm.trans e
      by_cases h2 : b = a ∧ K.lookup a = none
      · exact .inr ⟨h2.1, h2.2, (Option.some.inj ((if_pos h2).symm.trans e1)).symm⟩
      · exact nomatch (if_neg h2).symm.trans e1
  have hS : SqL K H a (ns.map V.int) := by
    cases hk : K.lookup a with
    | none => exact .inl (.inr ⟨_, scr_ hk⟩)
    | some o =>
      have e := KX a o hk
      rw [ha] at e; cases e
      exact .inr ⟨_, vs.toArray, _, hk, rfl, rfl, rfl, by rw [List.size_toArray, lenV]; exact hl, by simpa using rv⟩
  have hok : HOk P w H s₁.heap := fun b u e => by
    rcases says e with ⟨p, hp, rfl, rfl⟩ | ⟨rfl, _, rfl⟩
    · exact (tabs p hp).1
    · exact ⟨ha, by rw [List.length_map]; exact hl, vs, _, rv, ha⟩
  -- an object that is neither is not spoken of
  have clear_ : ∀ {b : Addr} {o : Obj}, s₁.heap.get? b = some o → (∀ us n, o.data ≠ .seq us n) → o.data ≠ .fields #[] → H b = none := fun {b o} e h1 h2 => by
    cases q : H b with
    | none => rfl
    | some u =>
      rcases says q with ⟨p, hp, rfl, _⟩ | ⟨rfl, _⟩
      · rw [(tabs p hp).1] at e; cases e; exact absurd rfl h2
      · rw [ha] at e; cases e; exact absurd rfl (h1 _ _)
  have base_ : ∀ {b : Addr} {o : Obj}, s₁.heap.get? b = some o → H b = none → (hidT s₁.heap H).get? b = some o := fun e n => hidT_get e n
  have nsB : ∀ {b : Addr} {m : Str → Option Value}, s₁.heap.Ns b m → (hidT s₁.heap H).Ns b m := fun {b m} ⟨o, es, ep, e, d, r⟩ =>
    ⟨o, es, ep, base_ e (clear_ e (fun us n z => by rw [d] at z; cases z) fun z => by rw [d] at z; cases z), d, r⟩
  have hKb : K.In (hidT s₁.heap H) := fun b o e => base_ (KX b o e) (by
    cases q : H b with
    | none => rfl
    | some u =>
      rcases says q with ⟨p, hp, rfl, _⟩ | ⟨rfl, hk, _⟩
      · rw [(tabs p hp).2.1] at e; cases e
      · rw [hk] at e; cases e)
  have hM : L2.Mod K mg (hidT s₁.heap H) := ⟨hKb, nsB hns, ⟨mb, nsB hb, hbb⟩, let ⟨mc, h1, h2⟩ := hlim; ⟨mc, nsB h1, h2⟩⟩
  have hS1 : ∃ o, (hidT s₁.heap H).get? sysModules = some o := by
    obtain ⟨mm, hm⟩ := hsys
    obtain ⟨o, es, ep, e, _⟩ := nsB hm
    exact ⟨o, e⟩
  obtain ⟨om, esm, epm, em, dm, _⟩ := id hns
  have TB : ∀ p ∈ cs, TabB (hidT s₁.heap H) mg p.1 p.2 := fun p hp => by
    obtain ⟨hT, _, hC⟩ := tabs p hp
    refine ⟨?_, ?_, fun z => ?_⟩
    · obtain ⟨o, us, file, tf, flags, tg, inF, text, tt, e1, r1, r2, r3, rest⟩ := hC
      refine ⟨o, us, file, tf, flags, tg, inF, text, tt, base_ e1 (clear_ e1 (fun _ n z => ?_) fun z => ?_), r1, r2, r3, rest⟩
      · rw [r2] at z; cases z
      · rw [r2] at z; cases z; simp at r3
    · obtain ⟨bm, ob, b1, b2, b3, b4, b5, b6⟩ := hbm
      refine ⟨bm, ob, b1, b2, fun q => ?_, fun q => ?_, base_ b3 (clear_ b3 (fun _ n z => ?_) fun z => ?_), b4, b5, b6⟩
      · rw [q, em] at b3; cases b3; rw [dm] at b6; cases b6
      · rw [q, hT] at b3; cases b3; cases b6
      · rw [b6] at z; cases z
      · rw [b6] at z; cases z
    · rw [z, hT] at em; cases em; cases dm
  have e0 : Env0 P w K mg (hidT s₁.heap H) callerA [] s₁ H := ⟨rfl, hM, fun b o e => of_hidT e, Nat.le_of_eq (hidT_size _ _), trivial, fun b hb => absurd (show b ∈ ([] : List Addr) from hb) (by simp), hok, .of_eq hg⟩
  refine codeAny_mono ((F _ hKb (nsB hns) hS1 TB).run callerA [] s₁ H ⟨[.ref a], []⟩ [.ref a] [.ref a] _ _ rfl hr e0 (hbind s₁ (.ref a)) (.cons rfl .nil) (hsp H tab_ hS)) fun r s' h => ?_
  match r, h with
  | .error e, h => exact False.elim h
  | .ok .next, h => exact False.elim h
  | .ok .brk, h => exact False.elim h
  | .ok .cont, h => exact False.elim h
  | .ok (.ret u), h =>
    obtain ⟨v, H', os, bare, un, hok', r', q⟩ := h
    have q' : v = .bl true := q
    subst q'
    obtain rfl : u = Value.bool true := r'
    have more : ∀ p ∈ cs, ∃ us : Array Value, s'.heap.get? p.2 = some (PySem.W.tabObj us) := fun p hp =>
      let ⟨us, z⟩ := un.tbls p.2 #[] (tab_ p hp)
      ⟨_, hok' p.2 _ z⟩
    have stay : ∀ b o, (¬ ∃ p ∈ cs, p.2 = b) → s₁.heap.get? b = some o → s'.heap.get? b = some o := fun b o nb e => by
      cases q : H b with
      | none => exact un.keep b o e q (by intro z; exact absurd (show b ∈ ([] : List Addr) from z) (by simp)) (by simp)
      | some u =>
        rcases says q with ⟨p, hp, z, _⟩ | ⟨rfl, _, rfl⟩
        · exact absurd ⟨p, hp, z⟩ nb
        · obtain ⟨e1, _⟩ := hok b _ q
          obtain ⟨e2, _⟩ := hok' b _ (un.frzs b _ _ q)
          rw [e] at e1; cases e1
          exact e2
    refine ⟨rfl, ⟨fun b o e => ?_, fun b o e => ?_⟩, os, bare⟩
    · by_cases hb : ∃ p ∈ cs, p.2 = b
      · obtain ⟨p, hp, rfl⟩ := hb
        obtain ⟨us, hm⟩ := more p hp
        obtain ⟨hT, _, hC⟩ := tabs p hp
        rw [hT] at e; cases e
        exact .inr (.inl ⟨(hC.tab hT).isCodeTable, rfl, #[], us, rfl, by rw [Array.empty_append]; exact hm⟩)
      · exact .inl (stay b o hb e)
    · by_cases hb : ∃ p ∈ cs, p.2 = b
      · obtain ⟨p, hp, rfl⟩ := hb
        obtain ⟨us, hm⟩ := more p hp
        exact ⟨_, hm⟩
      · exact ⟨o, stay b o hb e⟩
theorem walkTG {l : PySem.W.OpenLaw} {n k : Nat} {q : Program} {loose : List Str} {XP : (Str → Option Value) → Heap → Prop} {YP : World → Heap → Prop} {d : DefRec} {K : Params → PySem.W.Frag} {x : Str} (hn : l.most = some n) (hn2 : n ≤ sizeLine) (hdf : d.params.defaults = []) (hr : Room k callerA)
    (hq : importsNone q = true) (hY : ∀ (w : World) (h : Heap), YP w h → (K w.params).In h)
    (F : ∀ (w : World) (mg : Str → Option Value) (fa : Addr) (h : Heap), YP w h → (K w.params).In h → h.Ns mainGlobals mg → mg d.name = some (.ref fa) →
      ∃ (fd : FuncData) (cs : List (Addr × Addr)) (sp : Sp), (∀ p ∈ cs, h.get? p.2 = some (PySem.W.tabObj #[]) ∧ (K w.params).lookup p.2 = none ∧ PySem.W.CodeHd h p.1 p.2) ∧ (∀ (s : Shared) (u : Value), BindsTo s fd ⟨[u], []⟩ [(x, u)]) ∧
        (∀ (H : Hp) (a : Addr) (ns : List Int), ns.length ≤ n → (∀ p ∈ cs, H p.2 = some (.tbl #[])) → SqL (K w.params) H a (ns.map V.int) → sp [.ref a] H (fun v _ => v = .bl true) fun _ _ _ => False) ∧
        ∀ base : Heap, (K w.params).In base → base.Ns mainGlobals mg → (∃ o, base.get? sysModules = some o) → (∀ p ∈ cs, TabB base mg p.1 p.2) → FnG l.prog w (K w.params) mg base k fa fd [x] sp) : PySem.W.WalkO q loose XP YP l.row.toRowW d [] (fun f vs => PySem.call f vs) := by
  refine Att.attach_call hn hdf fun w s₀ s₁ mg mb fa o pm cd doc a vs ns G Y ho hd hcd hmg hobj hints hlen hg => ?_
  have KX := hY w _ Y
  obtain ⟨fd, cs, sp, tabs, hb, hsp, hF⟩ := F w mg fa _ Y KX G.T.g hmg
  obtain ⟨mm, hm, _⟩ := (G.T.seer hq).mods
  exact law_callTG KX G.T.g G.T.b G.T.builtins G.T.nolimit ⟨mm, hm⟩ hg tabs G.T.bmain hobj hints (Nat.le_trans hlen hn2) hr hF hb fun H hH hS => hsp H a ns hlen hH hS
end Ox

namespace Rd
open PySem PySem.Spec PyProof.Rows L2 Tq Dn Dc Ox LamX
def noB (K : PySem.W.Frag) (C : Addr) : Bool := tys.all fun t => PySem.W.kitOne K (.type t) (.ref C) == some false
/-- a promise under which nothing is raised holds where something may be -/
theorem fnr_lift {P : Program} {w : World} {K : PySem.W.Frag} {mg : Str → Option Value} {base : Heap} {k : Nat} {f : Addr} {sp : Sp} {CX : CXT} (F : FnR P w K mg base CX0 k f sp) : FnR P w K mg base CX k f sp :=
  fun A outer s H us vs Q E hr e0 r h => codeAny_mono (F A outer s H us vs Q E hr e0 r h) fun r s' h => match r, h with
    | .ok (.ret _), h => h
    | .ok .next, h => h
    | .ok .brk, h => h
    | .ok .cont, h => h
    | .error _, h => False.elim h
theorem plainRC {CX : CXT} {P : Program} {w : World} {K : PySem.W.Frag} {mg : Str → Option Value} {base : Heap} {k : Nat} {f : Addr} {fd : FuncData} {ps : List Str} {sp : Sp} (F : FnOk P w K mg base CX k f fd ps sp) (hb : Binds K fd ps []) : FnR P w K mg base CX k f sp :=
  (F.raw hb .nil).imp fun vs H Q E h => by rw [List.append_nil]; exact h
theorem fnr_or {P : Program} {w : World} {K : PySem.W.Frag} {mg : Str → Option Value} {base : Heap} {k : Nat} {f : Addr} {sa sb : Sp} {CX : CXT} (A_ : FnR P w K mg base CX k f sa) (B_ : FnR P w K mg base CX k f sb) : FnR P w K mg base CX k f (fun vs H Q E => sa vs H Q E ∨ sb vs H Q E) :=
  fun A outer s H us vs Q E hr e0 r h => h.elim (A_ A outer s H us vs Q E hr e0 r) (B_ A outer s H us vs Q E hr e0 r)
theorem tabS_nil {H : Hp} {P : Addr} {q : Str} (h : H P = some (.tbl #[])) : TabS H P q := ⟨#[], h, trivial, fun pos cv z => by cases z⟩
theorem all_mk {P : Program} {w : World} {K : PySem.W.Frag} {h : Heap} {mg : Str → Option Value} {fa C CR cc1 cc2 cc3 P1 P2 P3 : Addr} {f0 f1 f2 f3 f4 f5 f6 f7 f8 f9 f10 f11 f12 f13 f14 f15 f16 f17 f18 f19 f20 f21 f22 : Addr} {g0 g1 g2 g3 g4 g5 : Addr} {p1 p2 p3 p4 : Addr} {rest1 rest2 rest3 rest4 : List Value} {tL tT : Tok} (X : K.In h) (G : h.Ns mainGlobals mg) (hfa : mg "law" = some (.ref fa)) (hT1 : h.get? P1 = some (PySem.W.tabObj #[])) (hT2 : h.get? P2 = some (PySem.W.tabObj #[])) (hT3 : h.get? P3 = some (PySem.W.tabObj #[])) (hPP12 : P1 ≠ P2) (hPP13 : P1 ≠ P3) (hPP23 : P2 ≠ P3)
    {od0 an0 : Option Addr} {sl0 : Array (Option Value)} {oc0 kV0 dc0 pm0 cd0 ct0 : Value}
    {od1 an1 : Option Addr} {sl1 : Array (Option Value)} {oc1 kV1 dc1 pm1 cd1 ct1 : Value}
    {od2 an2 : Option Addr} {sl2 : Array (Option Value)} {oc2 kV2 dc2 pm2 cd2 ct2 : Value}
    {od3 an3 : Option Addr} {sl3 : Array (Option Value)} {oc3 kV3 dc3 pm3 cd3 ct3 : Value}
    {od4 an4 : Option Addr} {sl4 : Array (Option Value)} {oc4 kV4 dc4 pm4 cd4 ct4 : Value}
    {od5 an5 : Option Addr} {sl5 : Array (Option Value)} {oc5 kV5 dc5 pm5 cd5 ct5 : Value}
    {od6 an6 : Option Addr} {sl6 : Array (Option Value)} {oc6 kV6 dc6 pm6 cd6 ct6 : Value}
    {od7 an7 : Option Addr} {sl7 : Array (Option Value)} {oc7 kV7 dc7 pm7 cd7 ct7 : Value}
    {od8 an8 : Option Addr} {sl8 : Array (Option Value)} {oc8 kV8 dc8 pm8 cd8 ct8 : Value}
    {od9 an9 : Option Addr} {sl9 : Array (Option Value)} {oc9 kV9 dc9 pm9 cd9 ct9 : Value}
    {od10 an10 : Option Addr} {sl10 : Array (Option Value)} {oc10 kV10 dc10 pm10 cd10 ct10 : Value}
    {od11 an11 : Option Addr} {sl11 : Array (Option Value)} {oc11 kV11 dc11 pm11 cd11 ct11 : Value}
    {od12 an12 : Option Addr} {sl12 : Array (Option Value)} {oc12 kV12 dc12 pm12 cd12 ct12 : Value}
    {od13 an13 : Option Addr} {sl13 : Array (Option Value)} {oc13 kV13 dc13 pm13 cd13 ct13 : Value}
    {od14 an14 : Option Addr} {sl14 : Array (Option Value)} {oc14 kV14 dc14 pm14 cd14 ct14 : Value}
    {od15 an15 : Option Addr} {sl15 : Array (Option Value)} {oc15 kV15 dc15 pm15 cd15 ct15 : Value}
    {od16 an16 : Option Addr} {sl16 : Array (Option Value)} {oc16 kV16 dc16 pm16 ct16 : Value}
    {od17 an17 : Option Addr} {sl17 : Array (Option Value)} {oc17 kV17 dc17 pm17 cd17 ct17 : Value}
    {od18 an18 : Option Addr} {sl18 : Array (Option Value)} {oc18 kV18 dc18 pm18 cd18 ct18 : Value}
    {od19 an19 : Option Addr} {sl19 : Array (Option Value)} {oc19 kV19 dc19 pm19 cd19 ct19 : Value}
    {od20 an20 : Option Addr} {sl20 : Array (Option Value)} {oc20 kV20 dc20 pm20 ct20 : Value}
    {od21 an21 : Option Addr} {sl21 : Array (Option Value)} {oc21 kV21 dc21 pm21 ct21 : Value}
    {od22 an22 : Option Addr} {sl22 : Array (Option Value)} {oc22 kV22 dc22 pm22 cd22 ct22 : Value}
    {mod0 man0 : Option Addr} {msl0 : Array (Option Value)} {moc0 mkV0 mdc0 mpm0 mcd0 mct0 : Value}
    {mod1 man1 : Option Addr} {msl1 : Array (Option Value)} {moc1 mkV1 mdc1 mpm1 mcd1 mct1 : Value}
    {mod2 man2 : Option Addr} {msl2 : Array (Option Value)} {moc2 mkV2 mdc2 mpm2 mcd2 mct2 : Value}
    {mod3 man3 : Option Addr} {msl3 : Array (Option Value)} {moc3 mkV3 mdc3 mpm3 mcd3 mct3 : Value}
    {mod4 man4 : Option Addr} {msl4 : Array (Option Value)} {moc4 mkV4 mdc4 mpm4 mcd4 mct4 : Value}
    {mod5 man5 : Option Addr} {msl5 : Array (Option Value)} {moc5 mkV5 mdc5 mpm5 mcd5 mct5 : Value}
    (gC : PySem.W.nsIn K mainGlobals "Reader" = some (some (.ref C)))
    (gR : PySem.W.nsIn K mainGlobals "InvalidReader" = some (some (.ref CR)))
    (gL : PySem.W.nsIn K mainGlobals "MAX_LINES" = some (some (.int 16 tL)))
    (gT : PySem.W.nsIn K mainGlobals "MAX_TESTED" = some (some (.int 6 tT)))
    (d0 : PySem.W.nsIn K mainGlobals "is_name" = some (some (.ref f0)))
    (l0 : K.lookup f0 = some ⟨oc0, od0, .func (PySem.W.fnOf "is_name" "is_name" (defArgs sName) (defBody sName) (defScope sName) .none kV0 dc0 pm0 an0 cd0 ct0), sl0⟩)
    (c0 : PySem.W.codeIn K cd0 "is_name" = true)
    (k0 : PySem.W.keepIn K (.ref f0) = true)
    (d1 : PySem.W.nsIn K mainGlobals "ascending" = some (some (.ref f1)))
    (l1 : K.lookup f1 = some ⟨oc1, od1, .func (PySem.W.fnOf "ascending" "ascending" (defArgs sAsc) (defBody sAsc) (defScope sAsc) .none kV1 dc1 pm1 an1 cd1 ct1), sl1⟩)
    (c1 : PySem.W.codeIn K cd1 "ascending" = true)
    (k1 : PySem.W.keepIn K (.ref f1) = true)
    (d2 : PySem.W.nsIn K mainGlobals "is_whole_number" = some (some (.ref f2)))
    (l2 : K.lookup f2 = some ⟨oc2, od2, .func (PySem.W.fnOf "is_whole_number" "is_whole_number" (defArgs sWhole) (defBody sWhole) (defScope sWhole) .none kV2 dc2 pm2 an2 cd2 ct2), sl2⟩)
    (c2 : PySem.W.codeIn K cd2 "is_whole_number" = true)
    (k2 : PySem.W.keepIn K (.ref f2) = true)
    (d3 : PySem.W.nsIn K mainGlobals "is_number" = some (some (.ref f3)))
    (l3 : K.lookup f3 = some ⟨oc3, od3, .func (PySem.W.fnOf "is_number" "is_number" (defArgs sNumb) (defBody sNumb) (defScope sNumb) .none kV3 dc3 pm3 an3 cd3 ct3), sl3⟩)
    (c3 : PySem.W.codeIn K cd3 "is_number" = true)
    (k3 : PySem.W.keepIn K (.ref f3) = true)
    (d4 : PySem.W.nsIn K mainGlobals "is_number_within" = some (some (.ref f4)))
    (l4 : K.lookup f4 = some ⟨oc4, od4, .func (PySem.W.fnOf "is_number_within" "is_number_within" (defArgs sWithin) (defBody sWithin) (defScope sWithin) .none kV4 dc4 pm4 an4 cd4 ct4), sl4⟩)
    (c4 : PySem.W.codeIn K cd4 "is_number_within" = true)
    (k4 : PySem.W.keepIn K (.ref f4) = true)
    (d5 : PySem.W.nsIn K mainGlobals "are_names" = some (some (.ref f5)))
    (l5 : K.lookup f5 = some ⟨oc5, od5, .func (PySem.W.fnOf "are_names" "are_names" (defArgs sNames) (defBody sNames) (defScope sNames) .none kV5 dc5 pm5 an5 cd5 ct5), sl5⟩)
    (c5 : PySem.W.codeIn K cd5 "are_names" = true)
    (k5 : PySem.W.keepIn K (.ref f5) = true)
    (d6 : PySem.W.nsIn K mainGlobals "is_line" = some (some (.ref f6)))
    (l6 : K.lookup f6 = some ⟨oc6, od6, .func (PySem.W.fnOf "is_line" "is_line" (defArgs sLine) (defBody sLine) (defScope sLine) .none kV6 dc6 pm6 an6 cd6 ct6), sl6⟩)
    (c6 : PySem.W.codeIn K cd6 "is_line" = true)
    (k6 : PySem.W.keepIn K (.ref f6) = true)
    (d7 : PySem.W.nsIn K mainGlobals "pairs_of" = some (some (.ref f7)))
    (l7 : K.lookup f7 = some ⟨oc7, od7, .func (PySem.W.fnOf "pairs_of" "pairs_of" (defArgs sPairs) (defBody sPairs) (defScope sPairs) .none kV7 dc7 pm7 an7 cd7 ct7), sl7⟩)
    (c7 : PySem.W.codeIn K cd7 "pairs_of" = true)
    (k7 : PySem.W.keepIn K (.ref f7) = true)
    (d8 : PySem.W.nsIn K mainGlobals "_law_dice" = some (some (.ref f8)))
    (l8 : K.lookup f8 = some ⟨oc8, od8, .func (PySem.W.fnOf "_law_dice" "_law_dice" (defArgs sDice) (defBody sDice) (defScope sDice) .none kV8 dc8 pm8 an8 cd8 ct8), sl8⟩)
    (c8 : PySem.W.codeIn K cd8 "_law_dice" = true)
    (k8 : PySem.W.keepIn K (.ref f8) = true)
    (d9 : PySem.W.nsIn K mainGlobals "_law_roll" = some (some (.ref f9)))
    (l9 : K.lookup f9 = some ⟨oc9, od9, .func (PySem.W.fnOf "_law_roll" "_law_roll" (defArgs sRoll) (defBody sRoll) (defScope sRoll) .none kV9 dc9 pm9 an9 cd9 ct9), sl9⟩)
    (c9 : PySem.W.codeIn K cd9 "_law_roll" = true)
    (k9 : PySem.W.keepIn K (.ref f9) = true)
    (d10 : PySem.W.nsIn K mainGlobals "_law_one_of" = some (some (.ref f10)))
    (l10 : K.lookup f10 = some ⟨oc10, od10, .func (PySem.W.fnOf "_law_one_of" "_law_one_of" (defArgs sOne) (defBody sOne) (defScope sOne) .none kV10 dc10 pm10 an10 cd10 ct10), sl10⟩)
    (c10 : PySem.W.codeIn K cd10 "_law_one_of" = true)
    (k10 : PySem.W.keepIn K (.ref f10) = true)
    (d11 : PySem.W.nsIn K mainGlobals "_law_line" = some (some (.ref f11)))
    (l11 : K.lookup f11 = some ⟨oc11, od11, .func (PySem.W.fnOf "_law_line" "_law_line" (defArgs sLn) (defBody sLn) (defScope sLn) .none kV11 dc11 pm11 an11 cd11 ct11), sl11⟩)
    (c11 : PySem.W.codeIn K cd11 "_law_line" = true)
    (k11 : PySem.W.keepIn K (.ref f11) = true)
    (d12 : PySem.W.nsIn K mainGlobals "_law_lines" = some (some (.ref f12)))
    (l12 : K.lookup f12 = some ⟨oc12, od12, .func (PySem.W.fnOf "_law_lines" "_law_lines" (defArgs sLns) (defBody sLns) (defScope sLns) .none kV12 dc12 pm12 an12 cd12 ct12), sl12⟩)
    (c12 : PySem.W.codeIn K cd12 "_law_lines" = true)
    (k12 : PySem.W.keepIn K (.ref f12) = true)
    (d13 : PySem.W.nsIn K mainGlobals "_law_is_reader" = some (some (.ref f13)))
    (l13 : K.lookup f13 = some ⟨oc13, od13, .func (PySem.W.fnOf "_law_is_reader" "_law_is_reader" (defArgs sIr) (defBody sIr) (defScope sIr) .none kV13 dc13 pm13 an13 cd13 ct13), sl13⟩)
    (c13 : PySem.W.codeIn K cd13 "_law_is_reader" = true)
    (k13 : PySem.W.keepIn K (.ref f13) = true)
    (d14 : PySem.W.nsIn K mainGlobals "_law_odd" = some (some (.ref f14)))
    (l14 : K.lookup f14 = some ⟨oc14, od14, .func (PySem.W.fnOf "_law_odd" "_law_odd" (defArgs sOd) (defBody sOd) (defScope sOd) .none kV14 dc14 pm14 an14 cd14 ct14), sl14⟩)
    (c14 : PySem.W.codeIn K cd14 "_law_odd" = true)
    (k14 : PySem.W.keepIn K (.ref f14) = true)
    (d15 : PySem.W.nsIn K mainGlobals "_law_is_refused" = some (some (.ref f15)))
    (l15 : K.lookup f15 = some ⟨oc15, od15, .func (PySem.W.fnOf "_law_is_refused" "_law_is_refused" (defArgs sRf) (defBody sRf) (defScope sRf) .none kV15 dc15 pm15 an15 cd15 ct15), sl15⟩)
    (c15 : PySem.W.codeIn K cd15 "_law_is_refused" = true)
    (k15 : PySem.W.keepIn K (.ref f15) = true)
    (d16 : PySem.W.nsIn K mainGlobals "_law_spoilt_right" = some (some (.ref f16)))
    (l16 : K.lookup f16 = some ⟨oc16, od16, .func (PySem.W.fnOf "_law_spoilt_right" "_law_spoilt_right" (defArgs sSp) (defBody sSp) (defScope sSp) .none kV16 dc16 pm16 an16 (.ref cc1) ct16), sl16⟩)
    (c16 : PySem.W.codeIn K (.ref cc1) "_law_spoilt_right" = true)
    (k16 : PySem.W.keepIn K (.ref f16) = true)
    (d17 : PySem.W.nsIn K mainGlobals "_law_words" = some (some (.ref f17)))
    (l17 : K.lookup f17 = some ⟨oc17, od17, .func (PySem.W.fnOf "_law_words" "_law_words" (defArgs sWo) (defBody sWo) (defScope sWo) .none kV17 dc17 pm17 an17 cd17 ct17), sl17⟩)
    (c17 : PySem.W.codeIn K cd17 "_law_words" = true)
    (k17 : PySem.W.keepIn K (.ref f17) = true)
    (d18 : PySem.W.nsIn K mainGlobals "_law_sizes_right" = some (some (.ref f18)))
    (l18 : K.lookup f18 = some ⟨oc18, od18, .func (PySem.W.fnOf "_law_sizes_right" "_law_sizes_right" (defArgs sSz) (defBody sSz) (defScope sSz) .none kV18 dc18 pm18 an18 cd18 ct18), sl18⟩)
    (c18 : PySem.W.codeIn K cd18 "_law_sizes_right" = true)
    (k18 : PySem.W.keepIn K (.ref f18) = true)
    (d19 : PySem.W.nsIn K mainGlobals "_law_reading_right" = some (some (.ref f19)))
    (l19 : K.lookup f19 = some ⟨oc19, od19, .func (PySem.W.fnOf "_law_reading_right" "_law_reading_right" (defArgs sRr) (defBody sRr) (defScope sRr) .none kV19 dc19 pm19 an19 cd19 ct19), sl19⟩)
    (c19 : PySem.W.codeIn K cd19 "_law_reading_right" = true)
    (k19 : PySem.W.keepIn K (.ref f19) = true)
    (d20 : PySem.W.nsIn K mainGlobals "_law_many_readings_right" = some (some (.ref f20)))
    (l20 : K.lookup f20 = some ⟨oc20, od20, .func (PySem.W.fnOf "_law_many_readings_right" "_law_many_readings_right" (defArgs sMr) (defBody sMr) (defScope sMr) .none kV20 dc20 pm20 an20 (.ref cc2) ct20), sl20⟩)
    (c20 : PySem.W.codeIn K (.ref cc2) "_law_many_readings_right" = true)
    (k20 : PySem.W.keepIn K (.ref f20) = true)
    (d21 : PySem.W.nsIn K mainGlobals "_law_written_right" = some (some (.ref f21)))
    (l21 : K.lookup f21 = some ⟨oc21, od21, .func (PySem.W.fnOf "_law_written_right" "_law_written_right" (defArgs sWr) (defBody sWr) (defScope sWr) .none kV21 dc21 pm21 an21 (.ref cc3) ct21), sl21⟩)
    (c21 : PySem.W.codeIn K (.ref cc3) "_law_written_right" = true)
    (k21 : PySem.W.keepIn K (.ref f21) = true)
    (d22 : PySem.W.nsIn K mainGlobals "law" = some (some (.ref f22)))
    (l22 : K.lookup f22 = some ⟨oc22, od22, .func (PySem.W.fnOf "law" "law" (defArgs sLw) (defBody sLw) (defScope sLw) .none kV22 dc22 pm22 an22 cd22 ct22), sl22⟩)
    (c22 : PySem.W.codeIn K cd22 "law" = true)
    (k22 : PySem.W.keepIn K (.ref f22) = true)
    (z0 : PySem.W.nsIn K mainGlobals "len" = some none)
    (z1 : PySem.W.nsIn K mainGlobals "int" = some none)
    (z2 : PySem.W.nsIn K mainGlobals "abs" = some none)
    (z3 : PySem.W.nsIn K mainGlobals "max" = some none)
    (z4 : PySem.W.nsIn K mainGlobals "list" = some none)
    (z5 : PySem.W.nsIn K mainGlobals "range" = some none)
    (z6 : PySem.W.nsIn K mainGlobals "all" = some none)
    (z7 : PySem.W.nsIn K mainGlobals "isinstance" = some none)
    (z8 : PySem.W.nsIn K mainGlobals "str" = some none)
    (z9 : PySem.W.nsIn K mainGlobals "bool" = some none)
    (z10 : PySem.W.nsIn K mainGlobals "tuple" = some none)
    (z11 : PySem.W.nsIn K mainGlobals "sorted" = some none)
    (z12 : PySem.W.nsIn K mainGlobals "set" = some none)
    (z13 : PySem.W.nsIn K mainGlobals "min" = some none)
    (z14 : PySem.W.nsIn K mainGlobals "enumerate" = some none)
    (z15 : PySem.W.nsIn K mainGlobals "dict" = some none)
    (z16 : PySem.W.nsIn K mainGlobals "repr" = some none)
    (z17 : PySem.W.nsIn K mainGlobals "zip" = some none)
    (ma0 : PySem.W.findIn K (.ref C) "__init__" = some (some (.ref g0)))
    (mf0 : PySem.W.isFn K (.ref g0) = true)
    (ml0 : K.lookup g0 = some ⟨moc0, mod0, .func (PySem.W.fnOf "__init__" "Reader.__init__" (defArgs sInit) (defBody sInit) (defScope sInit) .none mkV0 mdc0 mpm0 man0 mcd0 mct0), msl0⟩)
    (mc0 : PySem.W.codeIn K mcd0 "Reader.__init__" = true)
    (mk0 : PySem.W.keepIn K (.ref g0) = true)
    (ma1 : PySem.W.findCls K (.ref C) (.type "type") "of" = some (.get (.builtin "classmethod.__get__") (.ref p1) .none (.ref C)))
    (mr1 : PySem.W.recIn K p1 "classmethod" = some (.ref g1 :: rest1))
    (mi1 : PySem.W.fnIn K g1 = true)
    (ml1 : K.lookup g1 = some ⟨moc1, mod1, .func (PySem.W.fnOf "of" "Reader.of" (defArgs sOf) (defBody sOf) (defScope sOf) .none mkV1 mdc1 mpm1 man1 mcd1 mct1), msl1⟩)
    (mc1 : PySem.W.codeIn K mcd1 "Reader.of" = true)
    (mk1 : PySem.W.keepIn K (.ref g1) = true)
    (ma2 : PySem.W.findCls K (.ref C) (.type "type") "reading" = some (.get (.builtin "classmethod.__get__") (.ref p2) .none (.ref C)))
    (mr2 : PySem.W.recIn K p2 "classmethod" = some (.ref g2 :: rest2))
    (mi2 : PySem.W.fnIn K g2 = true)
    (ml2 : K.lookup g2 = some ⟨moc2, mod2, .func (PySem.W.fnOf "reading" "Reader.reading" (defArgs sReading) (defBody sReading) (defScope sReading) .none mkV2 mdc2 mpm2 man2 mcd2 mct2), msl2⟩)
    (mc2 : PySem.W.codeIn K mcd2 "Reader.reading" = true)
    (mk2 : PySem.W.keepIn K (.ref g2) = true)
    (ma3 : PySem.W.findIn K (.ref C) "lines" = some (some (.ref p3)))
    (mg3 : PySem.W.specialIn K (.ref p3) "__get__" = some (some (.builtin "property.__get__")))
    (mt3 : PySem.W.takesIn K (.ref p3) = some true)
    (mr3 : PySem.W.recIn K p3 "property" = some (.ref g3 :: rest3))
    (ml3 : K.lookup g3 = some ⟨moc3, mod3, .func (PySem.W.fnOf "lines" "Reader.lines" (defArgs sLines) (defBody sLines) (defScope sLines) .none mkV3 mdc3 mpm3 man3 mcd3 mct3), msl3⟩)
    (mc3 : PySem.W.codeIn K mcd3 "Reader.lines" = true)
    (mk3 : PySem.W.keepIn K (.ref g3) = true)
    (ma4 : PySem.W.findIn K (.ref C) "tested" = some (some (.ref p4)))
    (mg4 : PySem.W.specialIn K (.ref p4) "__get__" = some (some (.builtin "property.__get__")))
    (mt4 : PySem.W.takesIn K (.ref p4) = some true)
    (mr4 : PySem.W.recIn K p4 "property" = some (.ref g4 :: rest4))
    (ml4 : K.lookup g4 = some ⟨moc4, mod4, .func (PySem.W.fnOf "tested" "Reader.tested" (defArgs sTested) (defBody sTested) (defScope sTested) .none mkV4 mdc4 mpm4 man4 mcd4 mct4), msl4⟩)
    (mc4 : PySem.W.codeIn K mcd4 "Reader.tested" = true)
    (mk4 : PySem.W.keepIn K (.ref g4) = true)
    (ma5 : PySem.W.findIn K (.ref C) "__len__" = some (some (.ref g5)))
    (mf5 : PySem.W.isFn K (.ref g5) = true)
    (ml5 : K.lookup g5 = some ⟨moc5, mod5, .func (PySem.W.fnOf "__len__" "Reader.__len__" (defArgs sLen) (defBody sLen) (defScope sLen) .none mkV5 mdc5 mpm5 man5 mcd5 mct5), msl5⟩)
    (mc5 : PySem.W.codeIn K mcd5 "Reader.__len__" = true)
    (mk5 : PySem.W.keepIn K (.ref g5) = true)
    (cpg : PySem.W.plainGet K C Str.empty = true)
    (chd : PySem.W.hasDictIn K C = true)
    (cpo : PySem.W.plainOver K C = true)
    (csa : PySem.W.findIn K (.ref C) "__setattr__" = some (some (.builtin "object.__setattr__")))
    (cnL : PySem.W.findIn K (.ref C) "_lines" = some none)
    (cnT : PySem.W.findIn K (.ref C) "_tested" = some none)
    (cmk : PySem.W.makesIn K C = true)
    (ckp : PySem.W.keepIn K (.ref C) = true)
    (crd : PySem.W.readsIn K C (.type "type") = true)
    (cga : PySem.W.specialIn K (.ref C) "__getattribute__" = some (some (.builtin "type.__getattribute__")))
    (cha : PySem.W.findIn K (.ref C) "__class__" = some (some (.builtin "object.__class__")))
    (chn : PySem.W.specialIn K (.builtin "object.__class__") "__get__" = some (some (.builtin "getset_descriptor.__get__")))
    (cht : PySem.W.takesIn K (.builtin "object.__class__") = some true)
    (chm : PySem.W.mroIn K C (.type "object") = some true)
    (cse : (PySem.W.kitOne K (.ref C) (.ref C) == some true) = true)
    (bno : noB K C = true)
    (nTu : (PySem.W.kitOne K (.ref C) (.type "tuple") == some false) = true)
    (eRR : (PySem.W.exmOne K (.ref CR) (.ref CR) == some true) = true)
    (rx : PySem.W.excIn K CR bVe "ValueError.__new__" = true)
    (rk : PySem.W.keepIn K (.ref CR) = true)
    (rb : PySem.W.subIn K (.ref CR) (.type "BaseException") = some true)
    (rt : PySem.W.typeIn K (.ref CR) = some (.type "type"))
    (nt1 : K.lookup P1 = none)
    (ch1 : PySem.W.codeHdIn K cc1 P1 = true)
    (nt2 : K.lookup P2 = none)
    (ch2 : PySem.W.codeHdIn K cc2 P2 = true)
    (nt3 : K.lookup P3 = none)
    (ch3 : PySem.W.codeHdIn K cc3 P3 = true)
    : ∃ (fd : FuncData) (cs : List (Addr × Addr)) (sp : Sp), (∀ p ∈ cs, h.get? p.2 = some (PySem.W.tabObj #[]) ∧ K.lookup p.2 = none ∧ PySem.W.CodeHd h p.1 p.2) ∧ (∀ (s : Shared) (u : Value), BindsTo s fd ⟨[u], []⟩ [("_law_script", u)]) ∧
        (∀ (H : Hp) (a : Addr) (ns : List Int), ns.length ≤ 63 → (∀ p ∈ cs, H p.2 = some (.tbl #[])) → SqL K H a (ns.map V.int) → sp [.ref a] H (fun v _ => v = .bl true) fun _ _ _ => False) ∧
        ∀ base : Heap, K.In base → base.Ns mainGlobals mg → (∃ o, base.get? sysModules = some o) → (∀ p ∈ cs, TabB base mg p.1 p.2) → FnG P w K mg base 12 fa fd ["_law_script"] sp := by
  have e := hfa.symm.trans (PySem.W.mg_of X G d22)
  cases e
  have F0 := fun_mk (st := sName) l0 c0 k0
  have b0 := F0.binds (ps := ["value"]) fun _ _ _ _ _ _ us hl => match us, hl with | [_], _ => rfl
  have M0 := PySem.W.mg_of X G d0
  have F1 := fun_mk (st := sAsc) l1 c1 k1
  have b1 := F1.binds (ps := ["values"]) fun _ _ _ _ _ _ us hl => match us, hl with | [_], _ => rfl
  have M1 := PySem.W.mg_of X G d1
  have F2 := fun_mk (st := sWhole) l2 c2 k2
  have b2 := F2.binds (ps := ["value"]) fun _ _ _ _ _ _ us hl => match us, hl with | [_], _ => rfl
  have M2 := PySem.W.mg_of X G d2
  have F3 := fun_mk (st := sNumb) l3 c3 k3
  have b3 := F3.binds (ps := ["value"]) fun _ _ _ _ _ _ us hl => match us, hl with | [_], _ => rfl
  have M3 := PySem.W.mg_of X G d3
  have F4 := fun_mk (st := sWithin) l4 c4 k4
  have b4 := F4.binds (ps := ["value", "most"]) fun _ _ _ _ _ _ us hl => match us, hl with | [_, _], _ => rfl
  have M4 := PySem.W.mg_of X G d4
  have F5 := fun_mk (st := sNames) l5 c5 k5
  have b5 := F5.binds (ps := ["values"]) fun _ _ _ _ _ _ us hl => match us, hl with | [_], _ => rfl
  have M5 := PySem.W.mg_of X G d5
  have F6 := fun_mk (st := sLine) l6 c6 k6
  have b6 := F6.binds (ps := ["value", "many"]) fun _ _ _ _ _ _ us hl => match us, hl with | [_, _], _ => rfl
  have M6 := PySem.W.mg_of X G d6
  have F7 := fun_mk (st := sPairs) l7 c7 k7
  have b7 := F7.binds (ps := ["lines", "words"]) fun _ _ _ _ _ _ us hl => match us, hl with | [_, _], _ => rfl
  have M7 := PySem.W.mg_of X G d7
  have F8 := fun_mk (st := sDice) l8 c8 k8
  have b8 := F8.binds (ps := ["_law_script", "_law_at"]) fun _ _ _ _ _ _ us hl => match us, hl with | [_, _], _ => rfl
  have M8 := PySem.W.mg_of X G d8
  have F9 := fun_mk (st := sRoll) l9 c9 k9
  have b9 := F9.binds (ps := ["_law_dice_here", "_law_total"]) fun _ _ _ _ _ _ us hl => match us, hl with | [_, _], _ => rfl
  have M9 := PySem.W.mg_of X G d9
  have F10 := fun_mk (st := sOne) l10 c10 k10
  have b10 := F10.binds (ps := ["_law_dice_here", "_law_items"]) fun _ _ _ _ _ _ us hl => match us, hl with | [_, _], _ => rfl
  have M10 := PySem.W.mg_of X G d10
  have F11 := fun_mk (st := sLn) l11 c11 k11
  have b11 := F11.binds (ps := ["_law_dice_here", "_law_size"]) fun _ _ _ _ _ _ us hl => match us, hl with | [_, _], _ => rfl
  have M11 := PySem.W.mg_of X G d11
  have F12 := fun_mk (st := sLns) l12 c12 k12
  have b12 := F12.binds (ps := ["_law_dice_here", "_law_most"]) fun _ _ _ _ _ _ us hl => match us, hl with | [_, _], _ => rfl
  have M12 := PySem.W.mg_of X G d12
  have F13 := fun_mk (st := sIr) l13 c13 k13
  have b13 := F13.binds (ps := ["_law_lines_here"]) fun _ _ _ _ _ _ us hl => match us, hl with | [_], _ => rfl
  have M13 := PySem.W.mg_of X G d13
  have F14 := fun_mk (st := sOd) l14 c14 k14
  have b14 := F14.binds (ps := ["_law_dice_here", "_law_size"]) fun _ _ _ _ _ _ us hl => match us, hl with | [_, _], _ => rfl
  have M14 := PySem.W.mg_of X G d14
  have F15 := fun_mk (st := sRf) l15 c15 k15
  have b15 := F15.binds (ps := ["_law_call"]) fun _ _ _ _ _ _ us hl => match us, hl with | [_], _ => rfl
  have M15 := PySem.W.mg_of X G d15
  have F16 := fun_mk (st := sSp) l16 c16 k16
  have b16 := F16.binds (ps := ["_law_dice_here"]) fun _ _ _ _ _ _ us hl => match us, hl with | [_], _ => rfl
  have M16 := PySem.W.mg_of X G d16
  have F17 := fun_mk (st := sWo) l17 c17 k17
  have b17 := F17.binds (ps := ["_law_dice_here", "_law_many"]) fun _ _ _ _ _ _ us hl => match us, hl with | [_, _], _ => rfl
  have M17 := PySem.W.mg_of X G d17
  have F18 := fun_mk (st := sSz) l18 c18 k18
  have b18 := F18.binds (ps := ["_law_dice_here"]) fun _ _ _ _ _ _ us hl => match us, hl with | [_], _ => rfl
  have M18 := PySem.W.mg_of X G d18
  have F19 := fun_mk (st := sRr) l19 c19 k19
  have b19 := F19.binds (ps := ["_law_dice_here"]) fun _ _ _ _ _ _ us hl => match us, hl with | [_], _ => rfl
  have M19 := PySem.W.mg_of X G d19
  have F20 := fun_mk (st := sMr) l20 c20 k20
  have b20 := F20.binds (ps := []) fun _ _ _ _ _ _ us hl => match us, hl with | [], _ => rfl
  have M20 := PySem.W.mg_of X G d20
  have F21 := fun_mk (st := sWr) l21 c21 k21
  have b21 := F21.binds (ps := []) fun _ _ _ _ _ _ us hl => match us, hl with | [], _ => rfl
  have M21 := PySem.W.mg_of X G d21
  have F22 := fun_mk (st := sLw) l22 c22 k22
  have E0 := fun_mk (st := sInit) ml0 mc0 mk0
  have E1 := fun_mk (st := sOf) ml1 mc1 mk1
  have e1 := E1.binds (ps := ["cls", "lines"]) fun _ _ _ _ _ _ us hl => match us, hl with | [_, _], _ => rfl
  have E2 := fun_mk (st := sReading) ml2 mc2 mk2
  have E3 := fun_mk (st := sLines) ml3 mc3 mk3
  have e3 := E3.binds (ps := ["self"]) fun _ _ _ _ _ _ us hl => match us, hl with | [_], _ => rfl
  have E4 := fun_mk (st := sTested) ml4 mc4 mk4
  have e4 := E4.binds (ps := ["self"]) fun _ _ _ _ _ _ us hl => match us, hl with | [_], _ => rfl
  have E5 := fun_mk (st := sLen) ml5 mc5 mk5
  have e5 := E5.binds (ps := ["self"]) fun _ _ _ _ _ _ us hl => match us, hl with | [_], _ => rfl
  refine ⟨PySem.W.fnOf "law" "law" (defArgs sLw) (defBody sLw) (defScope sLw) .none kV22 dc22 pm22 an22 cd22 ct22, [(cc1, P1), (cc2, P2), (cc3, P3)], spLw K [(P1, (envOfC "_law_spoilt_right" (defScope sSp) 0 f16 (.ref cc1)).qual ++ "<lambda>"), (P2, (envOfC "_law_many_readings_right" (defScope sMr) 0 f20 (.ref cc2)).qual ++ "<lambda>"), (P3, (envOfC "_law_written_right" (defScope sWr) 0 f21 (.ref cc3)).qual ++ "<lambda>")], fun q hq => ?_, fun s u => .of_eq rfl, fun H a ns hl ht hS => ⟨a, ns, rfl, hS, fun q hq => ?_, fun _ => rfl⟩, fun base hKb _ hsys hTB => ?_⟩
  · simp only [List.mem_cons, List.not_mem_nil, or_false] at hq
    rcases hq with rfl | rfl | rfl
    · exact ⟨hT1, nt1, PySem.W.codeHd_of_K X ch1⟩
    · exact ⟨hT2, nt2, PySem.W.codeHd_of_K X ch2⟩
    · exact ⟨hT3, nt3, PySem.W.codeHd_of_K X ch3⟩
  · simp only [List.mem_cons, List.not_mem_nil, or_false] at hq
    rcases hq with rfl | rfl | rfl
    · exact tabS_nil (ht _ (.head _))
    · exact tabS_nil (ht _ (.tail _ (.head _)))
    · exact tabS_nil (ht _ (.tail _ (.tail _ (.head _))))
  have B1 := hTB _ (.head _)
  have B2 := hTB _ (.tail _ (.head _))
  have B3 := hTB _ (.tail _ (.tail _ (.head _)))
  have TB : TxB K mg := ⟨PySem.W.mg_none_of X G z0, PySem.W.mg_none_of X G z1, PySem.W.mg_none_of X G z2, PySem.W.mg_none_of X G z3, PySem.W.mg_none_of X G z4, PySem.W.mg_none_of X G z5⟩
  have TM : TxM K mg := { TB with all := PySem.W.mg_none_of X G z6, isi := PySem.W.mg_none_of X G z7, str := PySem.W.mg_none_of X G z8, bool := PySem.W.mg_none_of X G z9, tuple := PySem.W.mg_none_of X G z10, sorted := PySem.W.mg_none_of X G z11, set := PySem.W.mg_none_of X G z12, min := PySem.W.mg_none_of X G z13, enum := PySem.W.mg_none_of X G z14, dict := PySem.W.mg_none_of X G z15, repr := PySem.W.mg_none_of X G z16 }
  have R0 := ok_name (P := P) (w := w) (base := base) F0 TM
  have R2 := ok_whole (P := P) (w := w) (base := base) F2 TM
  have RnD := ok_nameD (P := P) (w := w) (base := base) F0 TM
  have R3 := ok_numb (P := P) (w := w) (base := base) F3 ⟨_, _, M2, k2, b2, R2⟩
  have R4 := ok_within (P := P) (w := w) (base := base) F4 ⟨_, _, M3, k3, b3, R3⟩
  have TN : TxN K mg P w base := { TM with whole := ⟨_, _, M2, k2, b2, R2⟩, numb := ⟨_, _, M3, k3, b3, R3⟩, within_ := ⟨_, _, M4, k4, b4, R4⟩, name := ⟨_, _, M0, k0, b0, R0⟩, nameD := ⟨_, _, M0, k0, b0, RnD⟩ }
  have R5 := ok_names (P := P) (w := w) (base := base) F5 TN
  have Rn3 := ok_names3 (P := P) (w := w) (base := base) F5 TN
  have TL : TxL K mg P w base := { TN with names := ⟨_, _, M5, k5, b5, R5⟩, names3 := ⟨_, _, M5, k5, b5, Rn3⟩ }
  have R6 := ok_line (P := P) (w := w) (base := base) F6 TL
  have RX := ok_ascX (P := P) (w := w) (base := base) F1 TM
  have RS := ok_ascS (P := P) (w := w) (base := base) F1 TM
  have TP : TxP K mg P w base := { TL with line := ⟨_, _, M6, k6, b6, R6⟩, ascX := ⟨_, _, M1, k1, b1, RX⟩, ascS := ⟨_, _, M1, k1, b1, RS⟩ }
  have R7 := ok_pairs (P := P) (w := w) (base := base) F7 TP
  have gRm := PySem.W.mg_of X G gR
  have TR : TxR0 K mg P w base C := { TP with cl := ⟨cpg, chd, cpo, csa⟩, nL := cnL, nT := cnT, mgC := PySem.W.mg_of X G gC, mxL := ⟨_, PySem.W.mg_of X G gL⟩, mxT := ⟨_, PySem.W.mg_of X G gT⟩, pairs := ⟨_, _, M7, k7, b7, R7⟩ }
  have Q0 := ok_init E0 TR
  have MK0 : Mk K C g0 := ⟨cmk, ma0, mf0, ckp⟩
  have TR1 : TxR1 K mg P w base C := { TR with made_ := ⟨_, MK0, Q0⟩ }
  have Q1 := ok_of E1 TR1
  have CRd : ClX.CRead K C (.type "type") := ⟨crd, cga⟩
  have CM1 : ClX.CMet K C (.type "type") "of" p1 g1 := ⟨ma1, ⟨_, mr1⟩, mi1⟩
  have CM2 : ClX.CMet K C (.type "type") "reading" p2 g2 := ⟨ma2, ⟨_, mr2⟩, mi2⟩
  have I : TxI K C := ⟨cha, chn, cht, chm, beq_iff_eq.mp cse, fun t ht => beq_iff_eq.mp (List.all_eq_true.mp bno t ht)⟩
  have TR2 : TxR2 K mg P w base C := { TR1 with of_ := ⟨_, _, _, CRd, CM1, plainR Q1 e1⟩ }
  have Q2 := ok_reading E2 TR2
  have Q3 := ok_lines E3 TR
  have Q4 := ok_tested E4 TR
  have Q5 := ok_len E5 TR
  have TX : TxX K mg P w base C CR := { TR with gR := gRm, xR := rx, kR := rk, bR := rb, tR := rt }
  have QX := ok_initX E0 TX
  have QY := ok_initY E0 TX
  have TX3 : TxX3 K mg P w base C CR := { TX with madeX := ⟨_, MK0, QX⟩, madeY := ⟨_, MK0, QY⟩ }
  have OA : FnR P w K mg base (L2N.CX P w) 7 g1 (spOfA K C CR) := fnr_or (fnr_lift (plainR Q1 e1)) (plainRC (ok_ofR E1 TX3) e1)
  have TRx : TxRx K mg P w base C CR := { TX with ofA := ⟨_, _, _, CRd, CM1, OA⟩ }
  have RA : FnR P w K mg base (L2N.CX P w) 8 g2 (spRdA K C CR) := fnr_or (fnr_lift Q2) (ok_readX E2 TRx)
  have R8 := ok_dice (P := P) (w := w) (base := base) F8 TB
  have R9 := ok_roll (P := P) (w := w) (base := base) F9 TB
  have TD : TxD K mg P w base := { TB with roll := ⟨_, _, M9, k9, b9, R9⟩ }
  have R10 := ok_one  F10 TD
  have T2 : TxE2 K mg P w base := { TM with roll := ⟨_, _, M9, k9, b9, R9⟩, one := ⟨_, _, M10, k10, b10, R10⟩ }
  have R11 := ok_ln  F11 T2
  have T3 : TxE3 K mg P w base := { T2 with ln := ⟨_, _, M11, k11, b11, R11⟩ }
  have R12 := ok_lns  F12 T3
  have eRR_ := beq_iff_eq.mp eRR
  have TI1 : TxI1 K mg P w base C CR := { TX with ofA := ⟨_, _, _, CRd, CM1, OA⟩, lines_ := ⟨_, _, _, ⟨ma3, mg3, mt3, ⟨_, mr3⟩⟩, e3, Q3⟩, eRR := eRR_ }
  have R13 := ok_ir  F13 TI1
  have R14 := ok_od  F14 ⟨_, _, M10, k10, b10, R10⟩
  have TSp : TxS K mg P w base C CR := { TX with eRR := eRR_, ii := I, noT := beq_iff_eq.mp nTu, roll := ⟨_, _, M9, k9, b9, R9⟩, one := ⟨_, _, M10, k10, b10, R10⟩, lns := ⟨_, _, M12, k12, b12, R12⟩, od := ⟨_, _, M14, k14, b14, R14⟩, ir := ⟨_, _, M13, k13, b13, R13⟩, of_ := ⟨_, _, _, CRd, CM1, plainR Q1 e1⟩, madeX := ⟨_, MK0, QX⟩, rf := ⟨_, _, _, _, _, _, _, _, _, _, M15, k15, c15, l15, b15⟩ }
  have R16 := ok_sp F16 TSp rfl B1 (TS := [(P1, (envOfC "_law_spoilt_right" (defScope sSp) 0 f16 (.ref cc1)).qual ++ "<lambda>"), (P2, (envOfC "_law_many_readings_right" (defScope sMr) 0 f20 (.ref cc2)).qual ++ "<lambda>"), (P3, (envOfC "_law_written_right" (defScope sWr) 0 f21 (.ref cc3)).qual ++ "<lambda>")]) (fun n => (.head _)) (fun n q hq e => by
    simp only [List.mem_cons, List.not_mem_nil, or_false] at hq
    rcases hq with rfl | rfl | rfl
    · rfl
    · exact absurd e.symm hPP12
    · exact absurd e.symm hPP13)
  have Rwo := ok_wo (P := P) (w := w) (base := base) F17 TB ⟨_, _, M9, k9, b9, R9⟩
  have TSz : TxSz K mg P w base := { TM with roll := ⟨_, _, M9, k9, b9, R9⟩, one := ⟨_, _, M10, k10, b10, R10⟩, wo := ⟨_, _, M17, k17, b17, Rwo⟩, ir := ⟨_, _, M13, k13, b13, R13⟩ }
  have R18 := ok_sz  F18 TSz
  have TRr : TxRr K mg P w base C CR := { TM with mgC := PySem.W.mg_of X G gC, gR := gRm, eRR := eRR_, len_ := ⟨_, ⟨ma5, mf5⟩, plainR Q5 e5⟩, roll := ⟨_, _, M9, k9, b9, R9⟩, one := ⟨_, _, M10, k10, b10, R10⟩, ir := ⟨_, _, M13, k13, b13, R13⟩, readA := ⟨_, _, _, CRd, CM2, RA⟩ }
  have R19 := ok_rr  F19 TRr
  have TMr : TxMr K mg P w base C CR := { TM with mgC := PySem.W.mg_of X G gC, gR := gRm, eRR := eRR_, len_ := ⟨_, ⟨ma5, mf5⟩, plainR Q5 e5⟩, reading_ := ⟨_, _, _, CRd, CM2, Q2⟩, readA := ⟨_, _, _, CRd, CM2, RA⟩, rf := ⟨_, _, _, _, _, _, _, _, _, _, M15, k15, c15, l15, b15⟩ }
  have R20 := ok_mr F20 TMr rfl B2 (TS := [(P1, (envOfC "_law_spoilt_right" (defScope sSp) 0 f16 (.ref cc1)).qual ++ "<lambda>"), (P2, (envOfC "_law_many_readings_right" (defScope sMr) 0 f20 (.ref cc2)).qual ++ "<lambda>"), (P3, (envOfC "_law_written_right" (defScope sWr) 0 f21 (.ref cc3)).qual ++ "<lambda>")]) (fun n => (.tail _ (.head _))) (fun n q hq e => by
    simp only [List.mem_cons, List.not_mem_nil, or_false] at hq
    rcases hq with rfl | rfl | rfl
    · exact absurd e hPP12
    · rfl
    · exact absurd e.symm hPP23)
  have TWr : TxWr K mg P w base C CR := { TM with mgC := PySem.W.mg_of X G gC, gR := gRm, eRR := eRR_, len_ := ⟨_, ⟨ma5, mf5⟩, plainR Q5 e5⟩, cl := ⟨cpg, chd, cpo, csa⟩, tested_ := ⟨_, _, _, ⟨ma4, mg4, mt4, ⟨_, mr4⟩⟩, e4, Q4⟩, made_ := ⟨_, MK0, Q0⟩, madeA := ⟨_, MK0, fnr_or QX QY⟩, rf := ⟨_, _, _, _, _, _, _, _, _, _, M15, k15, c15, l15, b15⟩ }
  have R21 := ok_wr F21 TWr rfl B3 (TS := [(P1, (envOfC "_law_spoilt_right" (defScope sSp) 0 f16 (.ref cc1)).qual ++ "<lambda>"), (P2, (envOfC "_law_many_readings_right" (defScope sMr) 0 f20 (.ref cc2)).qual ++ "<lambda>"), (P3, (envOfC "_law_written_right" (defScope sWr) 0 f21 (.ref cc3)).qual ++ "<lambda>")]) (fun n => (.tail _ (.tail _ (.head _)))) (fun n q hq e => by
    simp only [List.mem_cons, List.not_mem_nil, or_false] at hq
    rcases hq with rfl | rfl | rfl
    · exact absurd e hPP13
    · exact absurd e hPP23
    · rfl)
  have TLw : TxLw K mg P w base [(P1, (envOfC "_law_spoilt_right" (defScope sSp) 0 f16 (.ref cc1)).qual ++ "<lambda>"), (P2, (envOfC "_law_many_readings_right" (defScope sMr) 0 f20 (.ref cc2)).qual ++ "<lambda>"), (P3, (envOfC "_law_written_right" (defScope sWr) 0 f21 (.ref cc3)).qual ++ "<lambda>")] := { TM with mxL := ⟨_, PySem.W.mg_of X G gL⟩, mxT := ⟨_, PySem.W.mg_of X G gT⟩, zip := PySem.W.mg_none_of X G z17, dice := ⟨_, _, M8, k8, b8, R8⟩, ir := ⟨_, _, M13, k13, b13, R13⟩, sizes := ⟨_, _, M18, k18, b18, R18⟩, reads := ⟨_, _, M19, k19, b19, R19⟩, spoilt := ⟨_, _, M16, k16, b16, R16⟩, many := ⟨_, _, M20, k20, b20, R20⟩, written := ⟨_, _, M21, k21, b21, R21⟩ }
  exact ok_lw F22 TLw
end Rd

open PySem PySem.W PyProof.Rows
set_option maxRecDepth 100000 in
set_option maxHeartbeats 0 in
theorem PySem.Challenge.cw_asunmoved_k20_errors_of_readers_holds : PySem.Challenge.rw_asunmoved_k20_errors_of_readers.Holds := by
  w_on; o_law; k_head; (case hw => w_witness2)
  k_fill
  refine Ox.walkTG (l := PySem.Challenge.rw_asunmoved_k20_errors_of_readers) (n := 63) (k := 12) (x := "_law_script") rfl (by decide) rfl ⟨rfl, by decide, by decide⟩ (by decide +kernel) (fun w h Y => PySem.W.km_in_of Y) ?F
  case F =>
    intro w mg fa h Y KX G hmg
    have hT8 := PySem.W.km_tabs_of Y
    refine' Rd.all_mk KX G hmg (hT8 713 (by decide)) (hT8 737 (by decide)) (hT8 744 (by decide)) (by decide) (by decide) (by decide) ?kz_gC ?kz_gR ?kz_gL ?kz_gT ?kz_d0 ?kz_l0 ?kz_c0 ?kz_k0 ?kz_d1 ?kz_l1 ?kz_c1 ?kz_k1 ?kz_d2 ?kz_l2 ?kz_c2 ?kz_k2 ?kz_d3 ?kz_l3 ?kz_c3 ?kz_k3 ?kz_d4 ?kz_l4 ?kz_c4 ?kz_k4 ?kz_d5 ?kz_l5 ?kz_c5 ?kz_k5 ?kz_d6 ?kz_l6 ?kz_c6 ?kz_k6 ?kz_d7 ?kz_l7 ?kz_c7 ?kz_k7 ?kz_d8 ?kz_l8 ?kz_c8 ?kz_k8 ?kz_d9 ?kz_l9 ?kz_c9 ?kz_k9 ?kz_d10 ?kz_l10 ?kz_c10 ?kz_k10 ?kz_d11 ?kz_l11 ?kz_c11 ?kz_k11 ?kz_d12 ?kz_l12 ?kz_c12 ?kz_k12 ?kz_d13 ?kz_l13 ?kz_c13 ?kz_k13 ?kz_d14 ?kz_l14 ?kz_c14 ?kz_k14 ?kz_d15 ?kz_l15 ?kz_c15 ?kz_k15 ?kz_d16 ?kz_l16 ?kz_c16 ?kz_k16 ?kz_d17 ?kz_l17 ?kz_c17 ?kz_k17 ?kz_d18 ?kz_l18 ?kz_c18 ?kz_k18 ?kz_d19 ?kz_l19 ?kz_c19 ?kz_k19 ?kz_d20 ?kz_l20 ?kz_c20 ?kz_k20 ?kz_d21 ?kz_l21 ?kz_c21 ?kz_k21 ?kz_d22 ?kz_l22 ?kz_c22 ?kz_k22 ?kz_z0 ?kz_z1 ?kz_z2 ?kz_z3 ?kz_z4 ?kz_z5 ?kz_z6 ?kz_z7 ?kz_z8 ?kz_z9 ?kz_z10 ?kz_z11 ?kz_z12 ?kz_z13 ?kz_z14 ?kz_z15 ?kz_z16 ?kz_z17 ?kz_ma0 ?kz_mf0 ?kz_ml0 ?kz_mc0 ?kz_mk0 ?kz_ma1 ?kz_mr1 ?kz_mi1 ?kz_ml1 ?kz_mc1 ?kz_mk1 ?kz_ma2 ?kz_mr2 ?kz_mi2 ?kz_ml2 ?kz_mc2 ?kz_mk2 ?kz_ma3 ?kz_mg3 ?kz_mt3 ?kz_mr3 ?kz_ml3 ?kz_mc3 ?kz_mk3 ?kz_ma4 ?kz_mg4 ?kz_mt4 ?kz_mr4 ?kz_ml4 ?kz_mc4 ?kz_mk4 ?kz_ma5 ?kz_mf5 ?kz_ml5 ?kz_mc5 ?kz_mk5 ?kz_cpg ?kz_chd ?kz_cpo ?kz_csa ?kz_cnL ?kz_cnT ?kz_cmk ?kz_ckp ?kz_crd ?kz_cga ?kz_cha ?kz_chn ?kz_cht ?kz_chm ?kz_cse ?kz_bno ?kz_nTu ?kz_eRR ?kz_rx ?kz_rk ?kz_rb ?kz_rt ?kz_nt1 ?kz_ch1 ?kz_nt2 ?kz_ch2 ?kz_nt3 ?kz_ch3
    (case kz_gC => k_is); (case kz_gR => k_is); (case kz_gL => k_is); (case kz_gT => k_is); (case kz_d0 => k_is); (case kz_l0 => k_is)
    (case kz_c0 => k_is); (case kz_k0 => k_is); (case kz_d1 => k_is); (case kz_l1 => k_is); (case kz_c1 => k_is); (case kz_k1 => k_is)
    (case kz_d2 => k_is); (case kz_l2 => k_is); (case kz_c2 => k_is); (case kz_k2 => k_is); (case kz_d3 => k_is); (case kz_l3 => k_is)
    (case kz_c3 => k_is); (case kz_k3 => k_is); (case kz_d4 => k_is); (case kz_l4 => k_is); (case kz_c4 => k_is); (case kz_k4 => k_is)
    (case kz_d5 => k_is); (case kz_l5 => k_is); (case kz_c5 => k_is); (case kz_k5 => k_is); (case kz_d6 => k_is); (case kz_l6 => k_is)
    (case kz_c6 => k_is); (case kz_k6 => k_is); (case kz_d7 => k_is); (case kz_l7 => k_is); (case kz_c7 => k_is); (case kz_k7 => k_is)
    (case kz_d8 => k_is); (case kz_l8 => k_is); (case kz_c8 => k_is); (case kz_k8 => k_is); (case kz_d9 => k_is); (case kz_l9 => k_is)
    (case kz_c9 => k_is); (case kz_k9 => k_is); (case kz_d10 => k_is); (case kz_l10 => k_is); (case kz_c10 => k_is); (case kz_k10 => k_is)
    (case kz_d11 => k_is); (case kz_l11 => k_is); (case kz_c11 => k_is); (case kz_k11 => k_is); (case kz_d12 => k_is); (case kz_l12 => k_is)
    (case kz_c12 => k_is); (case kz_k12 => k_is); (case kz_d13 => k_is); (case kz_l13 => k_is); (case kz_c13 => k_is); (case kz_k13 => k_is)
    (case kz_d14 => k_is); (case kz_l14 => k_is); (case kz_c14 => k_is); (case kz_k14 => k_is); (case kz_d15 => k_is); (case kz_l15 => k_is)
    (case kz_c15 => k_is); (case kz_k15 => k_is); (case kz_d16 => k_is); (case kz_l16 => k_is); (case kz_c16 => k_is); (case kz_k16 => k_is)
    (case kz_d17 => k_is); (case kz_l17 => k_is); (case kz_c17 => k_is); (case kz_k17 => k_is); (case kz_d18 => k_is); (case kz_l18 => k_is)
    (case kz_c18 => k_is); (case kz_k18 => k_is); (case kz_d19 => k_is); (case kz_l19 => k_is); (case kz_c19 => k_is); (case kz_k19 => k_is)
    (case kz_d20 => k_is); (case kz_l20 => k_is); (case kz_c20 => k_is); (case kz_k20 => k_is); (case kz_d21 => k_is); (case kz_l21 => k_is)
    (case kz_c21 => k_is); (case kz_k21 => k_is); (case kz_d22 => k_is); (case kz_l22 => k_is); (case kz_c22 => k_is); (case kz_k22 => k_is)
    (case kz_z0 => k_is); (case kz_z1 => k_is); (case kz_z2 => k_is); (case kz_z3 => k_is); (case kz_z4 => k_is); (case kz_z5 => k_is)
    (case kz_z6 => k_is); (case kz_z7 => k_is); (case kz_z8 => k_is); (case kz_z9 => k_is); (case kz_z10 => k_is); (case kz_z11 => k_is)
    (case kz_z12 => k_is); (case kz_z13 => k_is); (case kz_z14 => k_is); (case kz_z15 => k_is); (case kz_z16 => k_is); (case kz_z17 => k_is)
    (case kz_ma0 => k_is); (case kz_mf0 => k_is); (case kz_ml0 => k_is); (case kz_mc0 => k_is); (case kz_mk0 => k_is); (case kz_ma1 => k_is)
    (case kz_mr1 => k_is); (case kz_mi1 => k_is); (case kz_ml1 => k_is); (case kz_mc1 => k_is); (case kz_mk1 => k_is); (case kz_ma2 => k_is)
    (case kz_mr2 => k_is); (case kz_mi2 => k_is); (case kz_ml2 => k_is); (case kz_mc2 => k_is); (case kz_mk2 => k_is); (case kz_ma3 => k_is)
    (case kz_mg3 => k_is); (case kz_mt3 => k_is); (case kz_mr3 => k_is); (case kz_ml3 => k_is); (case kz_mc3 => k_is); (case kz_mk3 => k_is)
    (case kz_ma4 => k_is); (case kz_mg4 => k_is); (case kz_mt4 => k_is); (case kz_mr4 => k_is); (case kz_ml4 => k_is); (case kz_mc4 => k_is)
    (case kz_mk4 => k_is); (case kz_ma5 => k_is); (case kz_mf5 => k_is); (case kz_ml5 => k_is); (case kz_mc5 => k_is); (case kz_mk5 => k_is)
    (case kz_cpg => k_is); (case kz_chd => k_is); (case kz_cpo => k_is); (case kz_csa => k_is); (case kz_cnL => k_is); (case kz_cnT => k_is)
    (case kz_cmk => k_is); (case kz_ckp => k_is); (case kz_crd => k_is); (case kz_cga => k_is); (case kz_cha => k_is); (case kz_chn => k_is)
    (case kz_cht => k_is); (case kz_chm => k_is); (case kz_rk => k_is); (case kz_rb => k_is); (case kz_rt => k_is)
    (case kz_cse => kernel_rfl)
    (case kz_bno => kernel_rfl)
    (case kz_nTu => kernel_rfl)
    (case kz_eRR => kernel_rfl)
    (case kz_rx => kernel_rfl)
    (case kz_nt1 => kernel_rfl)
    (case kz_ch1 => kernel_rfl)
    (case kz_nt2 => kernel_rfl)
    (case kz_ch2 => kernel_rfl)
    (case kz_nt3 => kernel_rfl)
    (case kz_ch3 => kernel_rfl)
#print axioms PySem.Challenge.cw_asunmoved_k20_errors_of_readers_holds

