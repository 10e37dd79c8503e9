import PyProof.Rows.All
import Wide.All
import OpenK.AllK
import Wide.FinOn
import HandS.Comp
import HandS.Iter
import HandS.Text
import HandS.Dict
import HandS.Words
import HandS.WordsList
import HandS.WordsDict
import HandS.Ends
import HandS.TryOnly
import HandS.ExcOwn
import HandS.ExcCtx
import HandS.WordsExc
import HandS.IsInst
import HandS.More
import HandS.SlotsOwn
import HandS.Star
import HandS.Deep
import HandS.ClsMeth
import HandS.TupSets
import HandS.SortOrd
import HandS.ForMost
import HandS.Wide
import HandS.Conv
import PySem.Challenge.RW_asunmoved_k19_readers_that_fit
import HandS.Walk
import HandS.ForExc
import HandS.Property
import HandS.FStr
import KE.DataMinMax
import HandS.SetBool
import HandS.DictComp
import HandS.DeepEq
import HandS.Finally
import KE.GoesEnum
import HandS.HotCalls
import HandS.ExcInit
import HandS.ExcField
import HandS.ExcIs
import KE.KExcIs
import PyProof.ReprRoads
import HandS.Defaults
import HandS.ListItems
import KE.KDictList
import HandS.MakeKwOnly
import HandS.TupAny
import HandS.TupMul
import HandS.Style
set_option Elab.async false
set_option linter.all false
set_option maxRecDepth 100000
set_option maxHeartbeats 8000000
namespace Dn
open PySem PySem.Spec PyProof.Rows L2
/-- the class has a def of that name, at g -/
structure Dun (K : PySem.W.Frag) (C : Addr) (m : Str) (g : Addr) : Prop where
  at_ : PySem.W.findIn K (.ref C) m = some (some (.ref g))
  fn : PySem.W.isFn K (.ref g) = true
section
variable {prog : Program} {w : World} {A : Around} {E : Value → Shared → Prop} {s : Shared} {K : PySem.W.Frag} {x C f : Addr} {ox : Obj} {od : Option Obj} {b tb : Value}
/-- what object's own ne says, by the text's eq -/
theorem obj_ne {Q : Fin → Shared → Prop} (hu : A.units < cLine) (X : K.In s.heap) (I : PySem.W.InstAt s.heap x ox C od) (hs : PySem.W.findIn K (.ref C) "__eq__" = some (some (.ref f))) (hf : PySem.W.isFn K (.ref f) = true)
    (h : wpAny (model prog w) A (call (.ref f) [.ref x, b]) (fun v s' => ∃ k, v = .bool k ∧ Q (.done (.ret (.bool (!k)))) s') E s) : wpAny (model prog w) A (Builtin.«object.__ne__» ⟨[.ref x, b], []⟩) Q E s := by
  unfold Builtin.«object.__ne__»
  repeat (first
    | with_reducible refine wpAny_cRoomFor hu ?_
    | (refine wpAny_bind (m := callSpecialIfBound? (.ref x) (Str.ofString "__eq__") [b]) (PySem.W.ifBound_K X I hs hf (wpAny_mono h (fun r s' hr => by
          obtain ⟨k, rfl, q⟩ := hr
          repeat (first | exact q | exact wpAny_pure q | exact wpAny_truthy_bool q | (refine wpAny_bind (m := truthy (.bool _)) (wpAny_truthy_bool ?_)) | wp_step)) fun _ _ e => e)))
    | wp_step)
theorem ne_K {Q : Value → Shared → Prop} (hu : A.units + 1 < cLine) (X : K.In s.heap) (I : PySem.W.InstAt s.heap x ox C od) (hb : PySem.W.Looks (model prog w) s.heap (typeOf b) tb) (hn : PySem.W.notFirst K C tb = true)
    (h0 : PySem.W.findIn K (.ref C) "__ne__" = some (some (.builtin "object.__ne__"))) (ho : PySem.W.subIn K (.ref C) (.type "object") = some true) (hs : PySem.W.findIn K (.ref C) "__eq__" = some (some (.ref f))) (hf : PySem.W.isFn K (.ref f) = true)
    (h : wpAny (model prog w) A.in1 (call (.ref f) [.ref x, b]) (fun v s' => ∃ k, v = .bool k ∧ Q (.bool (!k)) s') E s) : wpAny (model prog w) A (richCompare .NotEq (.ref x) b) Q E s := by
  have chk : ∀ {Q' : Unit → Shared → Prop} {E' : Value → Shared → Prop}, Q' () s → wpAny (model prog w) A.in1 (checkBuiltinCall "object.__ne__" ⟨[.ref x, b], []⟩) Q' E' s := fun q => by
    simp only [checkBuiltinCall, PySem.F.cmpKind_ne, PySem.F.cmpSplit_ne]
    refine wpAny_bind ?_
    unfold isInstance
    refine wpAny_bind (I.type.here ((PySem.W.looks_subIn X ho).here ?_))
    have ha := PySem.F.cmpArgs_ne (.ref x) b
    cases hsig : Manifest.signature? "object.__ne__" with
    | none => exact wpAny_pure q
    | some sig =>
      simp only [argsOk, hsig] at ha
      show wpAny _ _ (Bind.checkArgs "object.__ne__" sig ⟨[.ref x, b], []⟩) _ _ _
      rw [show Bind.checkArgs "object.__ne__" sig ⟨[.ref x, b], []⟩ = pure () from ha]
      exact wpAny_pure q
  have one : wpAny (model prog w) A (tryCompare (.ref x) "__ne__" b) (fun r s' => ∃ v, r = some v ∧ Q v s') E s := by
    unfold tryCompare
    have hc : wpAny (model prog w) A (call (.builtin "object.__ne__") [.ref x, b]) (fun v s' => ∃ k, v = .bool k ∧ Q (.bool k) s') E s := by
      refine wpAny_call (codeAny_call_builtin PySem.F.cmp_object.ne.plain PySem.F.cmpEntry_ne (chk (obj_ne (A := A.in1) (by simpa using hu) X I hs hf (wpAny_mono h (fun v s' hv => ?_) fun _ _ e => e))))
      obtain ⟨k, rfl, q⟩ := hv
      exact ⟨k, rfl, _, rfl, q⟩
    have hbd : wpAny (model prog w) A (callSpecialIfBound? (.ref x) "__ne__" [b]) (fun r s' => ∃ k, r = some (.bool k) ∧ Q (.bool k) s') E s := by
      simp only [callSpecialIfBound?, bindSpecialIfBound?]
      refine wpAny_holding (wpAny_bind (wpAny_bind (wpAny_bind (I.type.here ((PySem.W.looks_findIn X h0).here ?_)))))
      simp only [PySem.F.cmp_object.ne.bind]
      refine wpAny_bind (wpAny_askSetting (wpAny_ite ?_))
      have fin : wpAny (model prog w) A (call (.builtin "object.__ne__") ([.ref x] ++ [b]) >>= fun v => pure (some v)) (fun r s' => ∃ k, r = some (.bool k) ∧ Q (.bool k) s') E s :=
        wpAny_bind (wpAny_mono hc (fun v s' hv => wpAny_pure (let ⟨k, e, q⟩ := hv; ⟨k, by rw [e], q⟩)) fun _ _ h' => h')
      split
      · exact wpAny_bind (wpAny_pure (wpAny_pure fin))
      · exact wpAny_tryCatch (wpAny_bind (wpAny_pure (wpAny_pure fin)))
    refine wpAny_bind (wpAny_mono hbd (fun r s' hr => ?_) fun _ _ e => e)
    obtain ⟨k, rfl, q⟩ := hr
    exact wpAny_pure ⟨_, rfl, q⟩
  unfold richCompare
  simp only [oneThing_ref]
  refine wpAny_holding (wpAny_bind (wpAny_cRoomFor (Nat.lt_of_succ_lt hu) ?_))
  rw [cmpInfo_NotEq]
  dsimp only
  refine wpAny_bind (I.type.here (wpAny_bind (hb.here ?_)))
  split
  · rename_i q
    have e : PySem.W.subIn K tb (.ref C) = some false := by
      rcases Bool.or_eq_true_iff.mp hn with e | e
      · rw [beq_iff_eq.mp e] at q; simp at q
      · exact beq_iff_eq.mp e
    refine wpAny_bind ((PySem.W.looks_subIn X e).here ?_)
    simp only [Bool.false_eq_true, if_false]
    refine wpAny_bind (wpAny_mono one (fun r s' z => ?_) fun _ _ e => e)
    obtain ⟨v, rfl, hq⟩ := z
    exact wpAny_pure hq
  · refine wpAny_bind (wpAny_pure ?_)
    simp only [Bool.false_eq_true, if_false]
    refine wpAny_bind (wpAny_mono one (fun r s' z => ?_) fun _ _ e => e)
    obtain ⟨v, rfl, hq⟩ := z
    exact wpAny_pure hq
end
section
variable {X : Cx} {CX : CXT} {pins : List (Addr × Obj)} {σ : L2.St} {H : Hp} {s : Shared} {a C dx g : Addr} {fs : List (Str × V)} {n : Nat} {sp : Sp} {E : XK}
theorem inst (I : Inv X pins σ H s) (e : H a = some (.ins C dx fs)) : ∃ ox od, PySem.W.InstAt s.heap a ox C (some od) := by
  obtain ⟨mA, O, _⟩ := ins_get I.hok e
  obtain ⟨od, J, _⟩ := O.look
  exact ⟨_, _, J⟩
theorem run_here {A : Around} {Q : VK} {us : List Value} {ws : List V} (F : FnR X.prog X.w X.K X.mg X.base CX n g sp) (hr : Room n A) (e0 : Env0 X.prog X.w X.K X.mg X.base A X.stack s H) (hx : PassesAt CX X σ E) (I : Inv X pins σ H s) (r : Vals ws us) (h : sp ws H Q E) :
    wpAny (model X.prog X.w) A (call (.ref g) us) (EP X pins σ Q) X.xe s := by
  refine wpAny_call (codeAny_mono (F A X.stack s H us ws Q E hr e0 r h) fun r s' hq => ?_)
  cases r with
  | error e => exact hx pins H s e s' I hq
  | ok fl =>
    cases fl with
    | ret u => exact I.after hq
    | next => exact False.elim hq
    | brk => exact False.elim hq
    | cont => exact False.elim hq
/-- len(x) -/
def rLenO (C : Addr) (sp : Sp) (E : XK) : List V → Hp → VK → Prop := fun xs H Q => ∃ a dx fs, xs = [V.ref a] ∧ H a = some (.ins C dx fs) ∧ sp [.ref a] H (fun z H' => ∃ n : Int, z = .int n ∧ 0 ≤ n ∧ n < 2 ^ 63 ∧ Q (.int n) H') E
theorem call_lenO (d : Dun X.K C "__len__" g) (F : FnR X.prog X.w X.K X.mg X.base CX n g sp) (hr : Room (n + 1) X.A) (hx : ∀ σ, PassesAt CX X σ E) : CallR X (.builtin "len") (rLenO C sp E) := by
  intro pins s σ H xs us Q I r h
  obtain ⟨a, dx, fs, rfl, ea, q⟩ := h
  obtain ⟨u, rfl, ru⟩ := r.one
  cases (show u = Value.ref a from ru)
  obtain ⟨ox, od, J⟩ := inst I ea
  obtain ⟨m, hF⟩ := I.fr
  refine PySem.W.len_K hF I.ok.mod.kin J d.at_ d.fn (wpAny_mono (run_here (us := [.ref a]) (ws := [.ref a]) F hr.in1 I.env0.in1 (hx σ) I (.cons rfl .nil) q) (fun w s' z => ?_) fun _ _ x => x)
  obtain ⟨z', H', I', rz, i, ei, h0, h1, qz⟩ := z
  subst ei
  obtain ⟨t, e⟩ := (show ∃ t, w = Value.int i t from rz)
  cases e
  exact ⟨⟨h0, h1⟩, .int i, H', I'.tok _, ⟨_, rfl⟩, qz⟩
/-- str(x) -/
def rStrO (C : Addr) (sp : Sp) (E : XK) : List V → Hp → VK → Prop := fun xs H Q => ∃ a dx fs, xs = [V.ref a] ∧ H a = some (.ins C dx fs) ∧ sp [.ref a] H (fun z H' => ∃ y, z = .str y ∧ Q (.str y) H') E
theorem call_strO (d : Dun X.K C "__str__" g) (F : FnR X.prog X.w X.K X.mg X.base CX n g sp) (hr : Room (n + 2) X.A) (hx : ∀ σ, PassesAt CX X σ E) : CallR X (.type "str") (rStrO C sp E) := by
  intro pins s σ H xs us Q I r h
  obtain ⟨a, dx, fs, rfl, ea, q⟩ := h
  obtain ⟨u, rfl, ru⟩ := r.one
  cases (show u = Value.ref a from ru)
  obtain ⟨ox, od, J⟩ := inst I ea
  have hr2 : Room n X.A.in1.in1 := (show Room (n + 1) X.A.in1 from Room.in1 hr).in1
  refine PySem.W.kso_call hr2.units0 I.kIn J d.at_ d.fn (wpAny_mono (run_here (us := [.ref a]) (ws := [.ref a]) F hr2 I.env0.in1.in1 (hx σ) I (.cons rfl .nil) q) (fun w s' z => ?_) fun _ _ x => x)
  obtain ⟨z', H', I', rz, y, ey, qz⟩ := z
  subst ey
  obtain ⟨t, e⟩ := (show ∃ t, w = Value.str y t from rz)
  cases e
  exact ⟨.str y, H', I', ⟨_, rfl⟩, qz⟩
/-- x in o, x not in o -/
def rInO (C : Addr) (sp : Sp) (E : XK) (neg : Bool) : R2 := fun x y H Q => ∃ a dx fs, y = .ref a ∧ H a = some (.ins C dx fs) ∧ sp [.ref a, x] H (fun z H' => ∃ k, z = .bl k ∧ Q (.bl (k != neg)) H') E
theorem op_inO (d : Dun X.K C "__contains__" g) (F : FnR X.prog X.w X.K X.mg X.base CX n g sp) (hr : Room n X.A) (hx : ∀ σ, PassesAt CX X σ E) : OpR X (compareOp .In) (rInO C sp E false) := by
  intro pins s σ H x y v u Q I rx ry h
  obtain ⟨a, dx, fs, rfl, ea, q⟩ := h
  cases (show u = Value.ref a from ry)
  obtain ⟨ox, od, J⟩ := inst I ea
  obtain ⟨m, hF⟩ := I.fr
  refine PySem.W.in_K hF I.ok.mod.kin J d.at_ d.fn (wpAny_mono (run_here (us := [.ref a, v]) (ws := [.ref a, x]) F hr I.env0 (hx σ) I (.cons rfl (.cons rx .nil)) q) (fun w s' z => ?_) fun _ _ x => x)
  obtain ⟨z', H', I', rz, k, ek, qz⟩ := z
  subst ek
  cases (show w = Value.bool k from rz)
  exact wpAny_truthy_bool ⟨.bl k, H', I', rfl, by cases k <;> exact qz⟩
theorem op_notInO (d : Dun X.K C "__contains__" g) (F : FnR X.prog X.w X.K X.mg X.base CX n g sp) (hr : Room n X.A) (hx : ∀ σ, PassesAt CX X σ E) : OpR X (compareOp .NotIn) (rInO C sp E true) := by
  intro pins s σ H x y v u Q I rx ry h
  obtain ⟨a, dx, fs, rfl, ea, q⟩ := h
  cases (show u = Value.ref a from ry)
  obtain ⟨ox, od, J⟩ := inst I ea
  obtain ⟨m, hF⟩ := I.fr
  refine PySem.W.notIn_K hF I.ok.mod.kin J d.at_ d.fn (wpAny_mono (run_here (us := [.ref a, v]) (ws := [.ref a, x]) F hr I.env0 (hx σ) I (.cons rfl (.cons rx .nil)) q) (fun w s' z => ?_) fun _ _ x => x)
  obtain ⟨z', H', I', rz, k, ek, qz⟩ := z
  subst ek
  cases (show w = Value.bool k from rz)
  exact wpAny_truthy_bool ⟨.bl (!k), H', I', rfl, by cases k <;> exact qz⟩
/-- x == y, x != y by the text's eq, y any value whose class is not one below C -/
def rEqO (K : PySem.W.Frag) (C : Addr) (sp : Sp) (E : XK) (neg : Bool) : R2 := fun x y H Q => ∃ a dx fs t, x = .ref a ∧ H a = some (.ins C dx fs) ∧ TyX K H y t ∧ PySem.W.notFirst K C t = true ∧ sp [x, y] H (fun z H' => ∃ k, z = .bl k ∧ Q (.bl (k != neg)) H') E
theorem op_eqO (d : Dun X.K C "__eq__" g) (F : FnR X.prog X.w X.K X.mg X.base CX n g sp) (hr : Room n X.A) (hx : ∀ σ, PassesAt CX X σ E) : OpR X (compareOp .Eq) (rEqO X.K C sp E false) := by
  intro pins s σ H x y v u Q I rx ry h
  obtain ⟨a, dx, fs, t, rfl, ea, ty, hn, q⟩ := h
  cases (show v = Value.ref a from rx)
  obtain ⟨ox, od, J⟩ := inst I ea
  obtain ⟨P, Z, p, _⟩ := kit_of I ry ty
  obtain ⟨m, hF⟩ := I.fr
  show wpAny _ _ (richCompare .Eq (.ref a) u) _ _ _
  refine PySem.W.cmp_K (op := .Eq) (tb := t) hr.units0 hF I.ok.mod.kin J (Z.ty _ _ I.kIn p) hn d.at_ d.fn (wpAny_mono (run_here (us := [.ref a, u]) (ws := [.ref a, y]) F hr I.env0 (hx σ) I (.cons rfl (.cons ry .nil)) q) (fun w s' z => ?_) fun _ _ x => x)
  obtain ⟨z', H', I', rz, k, ek, qz⟩ := z
  subst ek
  cases (show w = Value.bool k from rz)
  exact ⟨.bl k, H', I', rfl, by cases k <;> exact qz⟩
theorem op_neO (h0 : PySem.W.findIn X.K (.ref C) "__ne__" = some (some (.builtin "object.__ne__"))) (ho : PySem.W.subIn X.K (.ref C) (.type "object") = some true) (d : Dun X.K C "__eq__" g)
    (F : FnR X.prog X.w X.K X.mg X.base CX n g sp) (hr : Room (n + 1) X.A) (hx : ∀ σ, PassesAt CX X σ E) : OpR X (compareOp .NotEq) (rEqO X.K C sp E true) := by
  intro pins s σ H x y v u Q I rx ry h
  obtain ⟨a, dx, fs, t, rfl, ea, ty, hn, q⟩ := h
  cases (show v = Value.ref a from rx)
  obtain ⟨ox, od, J⟩ := inst I ea
  obtain ⟨P, Z, p, _⟩ := kit_of I ry ty
  show wpAny _ _ (richCompare .NotEq (.ref a) u) _ _ _
  refine ne_K (tb := t) (by have := hr.units; omega) I.kIn J (Z.ty _ _ I.kIn p) hn h0 ho d.at_ d.fn (wpAny_mono (run_here (us := [.ref a, u]) (ws := [.ref a, y]) F hr.in1 I.env0.in1 (hx σ) I (.cons rfl (.cons ry .nil)) q) (fun w s' z => ?_) fun _ _ x => x)
  obtain ⟨z', H', I', rz, k, ek, qz⟩ := z
  subst ek
  cases (show w = Value.bool k from rz)
  exact ⟨k, rfl, .bl (!k), H', I', rfl, by cases k <;> exact qz⟩
/-- x[i] -/
def tSubO (C : Addr) (sp : Sp) (E : L2.St → XK) (ta ti : TE) : TE := fun σ H Q => ta σ H fun x H1 => ti σ H1 fun y H2 => ∃ a dx fs, x = .ref a ∧ H2 a = some (.ins C dx fs) ∧ sp [x, y] H2 Q (E σ)
theorem pe_subO {E : L2.St → XK} {o i : Expr} {ta ti : TE} {pos : Pos} (d : Dun X.K C "__getitem__" g) (fi : PySem.W.fnIn X.K g = true) (F : FnR X.prog X.w X.K X.mg X.base CX n g sp) (hr : Room (n + 1) X.A) (hx : ∀ σ, PassesAt CX X σ (E σ))
    (he : PE X o ta) (hi : PE X i ti) (hsl : ∀ p v, subscripted i true p v = runValue (.builtin "lifetime.subscript" ⟨[p, v], []⟩)) : PE X (.Subscript o i pos) (tSubO C sp E ta ti) := by
  refine ⟨fun pins s σ H Q I h => ?_⟩
  refine Subscript_ (thn (he.run pins s σ H _ I h) fun v s1 ⟨x, H1, I1, rx, q1⟩ => thn (hi.run pins s1 σ H1 _ I1 q1) fun u s2 ⟨y, H2, I2, ry, q2⟩ => ?_)
  obtain ⟨a, dx, fs, rfl, ea, q⟩ := q2
  cases (show v = Value.ref a from rx)
  obtain ⟨ox, od, J⟩ := inst I2 ea
  obtain ⟨m, hF⟩ := I2.fr
  exact PySem.W.sub_K hF I2.ok.mod.kin J d.at_ fi d.fn (run_here (us := [.ref a, u]) (ws := [.ref a, y]) F hr.in1 I2.env0.in1 (hx σ) I2 (.cons rfl (.cons ry .nil)) q) (hsl _ _)
end
end Dn

namespace Dn
open PySem PySem.Spec PyProof.Rows L2
section
variable {X : Cx} {CX : CXT} {C f : Addr} {n i : Nat} {sp : Sp} {E : XK}
/-- x(*e), x a local that holds the class at C -/
def tMakeS (K : PySem.W.Frag) (i : Nat) (C : Addr) (sp : Sp) (E : XK) (te : TE) : TE := fun σ H Q => σ[i]? = some (some (.ref C)) ∧ te σ H fun y H1 => ∃ a xs, y = V.ref a ∧ (SqT K H1 a xs ∨ SqL K H1 a xs) ∧
  ∀ x dx, H1 x = Option.none → H1 dx = Option.none → dx ≠ x → sp (V.ref x :: xs) (upd (upd H1 dx (.own x)) x (.ins C dx [])) (fun v H2 => v = .non ∧ Q (.ref x) H2) E
theorem pe_makeS {x : Str} {e : Expr} {te : TE} {p p2 pos : Pos} (M : Mk X.K C f) (F : FnR X.prog X.w X.K X.mg X.base CX n f sp) (hr : Room (n + 1) X.A) (hx : Passes CX X E) (hN : X.N[i]? = some x) (hv : Vis X.env.scope x) (he : PE X e te)
    (hd : (x == ("__debug__" : Str)) = false := by decide) (hcd : (x == ("__classdict__" : Str)) = false := by decide) (hst : starEach [.Starred e p2] X.env = [(true, eval e X.env)] := by rfl) :
    PE X (.Call (.Name x p) [.Starred e p2] [] pos) (tMakeS X.K i C sp E te) := by
  refine ⟨fun pins s σ H Q I h => ?_⟩
  obtain ⟨hs, h⟩ := h
  refine wpAny_Call_Name_kw (thn ((pe_var (pos := p) (i := i) hN hv hd hcd).run pins s σ H (fun v H1 => v = .ref C ∧ H1 = H) I ⟨.ref C, hs, rfl, rfl⟩) fun u s1 ⟨v, H1, I1, r1, ev, eH⟩ => ?_)
  subst ev
  rw [eH] at I1
  cases r1
  refine PySem.W.callWith_S (h₀ := X.base) I.ok.mod.kin M.kp (thn (he.run pins s1 σ H _ I1 h) fun v s2 ⟨y, H2, I2, ry, a, xs, ey, hxs, q⟩ => ?_) hst
  subst ey
  obtain rfl : v = Value.ref a := ry
  exact StX.star_any I2 hxs fun us s3 I3 rv => ⟨I3.kIn, StX.run_makeR M F hr hx I3 rv q⟩
/-- C(), C a class of the module -/
theorem pe_makeR0 {x : Str} {p pos : Pos} (M : Mk X.K C f) (F : FnR X.prog X.w X.K X.mg X.base CX n f sp) (hr : Room (n + 1) X.A) (hg : Gl X x) (hm : X.mg x = some (.ref C)) (hx : Passes CX X E) (hdb : (x == ("__debug__" : Str)) = false := by decide) :
    PE X (.Call (.Name x p) [] [] pos) (StX.tMakeR C sp E tNil) := by
  refine ⟨fun pins s σ H Q I h => ?_⟩
  refine wpAny_Call_Name_kw (ld_glob I hg hm ?_ hdb)
  exact PySem.W.callWith_K0 I.kIn M.kp (StX.run_makeR (us := []) (vs := []) M F hr hx I .nil h)
/-- x in t, t a tuple of data -/
def rInDT (K : PySem.W.Frag) (neg : Bool) : R2 := fun x y H Q => ∃ d ds, Dp K H x d ∧ Dp K H y (.tuple ds) ∧ SeqAt.shaped d = true ∧ PyData.canLayAll0 ds = true ∧ Q (.bl ((ds.any fun e => PyData.eqv e d) != neg)) H
theorem op_inDT (hu : X.A.units + 65 < cLine) : OpR X (compareOp .In) (rInDT X.K false) := by
  intro pins s σ H x y v u Q I rx ry h
  obtain ⟨d, ds, hd, he, sd, se, q⟩ := h
  obtain ⟨as, r1⟩ := Dp.reads I d x v hd rx
  obtain ⟨bs, r2⟩ := Dp.reads I (.tuple ds) y u he ry
  refine SeqAt.in_tuple_reads r2 r1 se (SeqAt.canLay_of_shaped sd) (room_in_shaped sd hu) ⟨.bl _, H, I, rfl, ?_⟩
  cases e : ds.any fun z => PyData.eqv z d <;> rw [e] at q <;> exact q
theorem op_notInDT (hu : X.A.units + 65 < cLine) : OpR X (compareOp .NotIn) (rInDT X.K true) := by
  intro pins s σ H x y v u Q I rx ry h
  obtain ⟨d, ds, hd, he, sd, se, q⟩ := h
  obtain ⟨as, r1⟩ := Dp.reads I d x v hd rx
  obtain ⟨bs, r2⟩ := Dp.reads I (.tuple ds) y u he ry
  refine SeqAt.notIn_tuple_reads r2 r1 se (SeqAt.canLay_of_shaped sd) (room_in_shaped sd hu) ⟨.bl _, H, I, rfl, ?_⟩
  cases e : ds.any fun z => PyData.eqv z d <;> rw [e] at q <;> exact q
end
/-! ### data over a heap that grows -/
section
variable {K : PySem.W.Frag} {H H' : Hp}
theorem sqL_up {a : Addr} {xs : List V} (h : SqL K H a xs) (s : Same H H') : SqL K H' a xs := s.seq h
theorem sqT_up {a : Addr} {xs : List V} (h : SqT K H a xs) (s : Same H H') : SqT K H' a xs :=
  h.elim (fun h => .inl (h.elim (fun h => .inl (s _ _ h)) fun ⟨o, h⟩ => .inr ⟨o, s _ _ h⟩)) .inr
mutual
theorem dp_up (s : Same H H') : ∀ {v : V} {d : PyData}, Dp K H v d → Dp K H' v d
  | _, _, .non => .non
  | _, _, .bl b => .bl b
  | _, _, .int i => .int i
  | _, _, .str x => .str x
  | _, _, .lst h a => .lst (sqL_up h s) (dpAll_up s a)
  | _, _, .tup h a => .tup (sqT_up h s) (dpAll_up s a)
theorem dpAll_up (s : Same H H') : ∀ {vs : List V} {ds : List PyData}, DpAll K H vs ds → DpAll K H' vs ds
  | _, _, .nil => .nil
  | _, _, .cons h a => .cons (dp_up s h) (dpAll_up s a)
end
theorem dpAll_len : ∀ {vs : List V} {ds : List PyData}, DpAll K H vs ds → vs.length = ds.length
  | _, _, .nil => rfl
  | _, _, .cons _ a => by rw [List.length_cons, List.length_cons, dpAll_len a]
theorem dpAll_get : ∀ {vs : List V} {ds : List PyData}, DpAll K H vs ds → ∀ {i : Nat} {v : V}, vs[i]? = some v → ∃ d, ds[i]? = some d ∧ Dp K H v d
  | _, _, .cons h _, 0, v, e => by cases e; exact ⟨_, rfl, h⟩
  | _, _, .cons _ a, i + 1, v, e => dpAll_get a (i := i) e
  | _, _, .nil, i, v, e => by simp at e
theorem dpAll_drop : ∀ {vs : List V} {ds : List PyData} (n : Nat), DpAll K H vs ds → DpAll K H (vs.drop n) (ds.drop n)
  | _, _, 0, a => a
  | _, _, n + 1, .nil => .nil
  | _, _, n + 1, .cons _ a => dpAll_drop n a
theorem dpAll_take : ∀ {vs : List V} {ds : List PyData} (n : Nat), DpAll K H vs ds → DpAll K H (vs.take n) (ds.take n)
  | _, _, 0, a => .nil
  | _, _, n + 1, .nil => .nil
  | _, _, n + 1, .cons h a => .cons h (dpAll_take n a)
theorem lay_at : ∀ {ds : List PyData}, PyData.canLayAll0 ds = true → ∀ {i : Nat} {d : PyData}, ds[i]? = some d → d.canLay0 = true
  | d :: ds, h, i, e, q => by
    have h' : (d.canLay0 && PyData.canLayAll0 ds) = true := by simpa only [PyData.canLayAll0] using h
    obtain ⟨h1, h2⟩ := Bool.and_eq_true_iff.mp h'
    cases i with
    | zero => cases q; exact h1
    | succ i => exact lay_at h2 (i := i) q
  | [], _, i, e, q => by simp at q
theorem depth_at : ∀ {ds : List PyData} {i : Nat} {d : PyData}, ds[i]? = some d → d.depth ≤ PyData.depthAll ds
  | d :: ds, i, e, q => by
    simp only [PyData.depthAll]
    cases i with
    | zero => cases q; omega
    | succ i => have := depth_at (ds := ds) (i := i) q; omega
  | [], i, e, q => by simp at q
/-- the items of shaped data are shaped -/
theorem shaped_at {ds : List PyData} (h : SeqAt.shaped (.tuple ds) = true) {i : Nat} {d : PyData} (e : ds[i]? = some d) : SeqAt.shaped d = true := by
  have h1 := SeqAt.canLay_of_shaped h
  have h2 := SeqAt.depth_of_shaped h
  simp only [PyData.canLay0] at h1
  simp only [PyData.depth] at h2
  have h3 := depth_at e
  show (d.canLay0 && decide (d.depth ≤ 64)) = true
  rw [Bool.and_eq_true]
  exact ⟨lay_at h1 e, decide_eq_true (by omega)⟩
end
end Dn

/-! Sets of tuples whose items are of one kind (texts, say), and sorted lists of them. -/
namespace Tq
open PySem PySem.Spec PyProof.Rows L2
/-- what a table asks of an item of a member -/
structure Mild {P : Program} {w : World} {κ : Type} [DecidableEq κ] (kd : KeyKind P w κ) : Prop where
  cls : ∀ n k v, kd.is k v = true → ofAClassStatement n v = pure false
  val : ∀ n k v, kd.is k v = true → ∃ b, hashByValue n v = pure b
theorem mild_str (P : Program) (w : World) : Mild (strKind P w) where
  cls n k v h := by obtain ⟨t, rfl⟩ := Value.isStrOf_shape h; cases n <;> rfl
  val n k v h := by obtain ⟨t, rfl⟩ := Value.isStrOf_shape h; exact ⟨false, by cases n <;> rfl⟩
abbrev Row (κ : Type) := Addr × List κ
section
variable {P : Program} {w : World} {κ : Type} [DecidableEq κ] {kd : KeyKind P w κ} {A : Around} {E : Value → Shared → Prop} {s : Shared}
/-- the items of a tuple, one by one -/
theorem each_is {ks : List κ} {vs : List Value} (x : ItemsAre kd ks vs) : ∀ v ∈ vs, ∃ k, kd.is k v = true := by
  induction x with
  | nil => exact fun v z => nomatch z
  | cons y _ ih => exact fun v z => (List.mem_cons.mp z).elim (fun e => ⟨_, e ▸ y⟩) (ih v)
theorem same_at {h h' : Heap} {ks : List κ} {b : Addr} (x : IsTupleKey kd h ks b) (k : ∀ o, h.get? b = some o → h'.get? b = some o) : IsTupleKey kd h' ks b := by
  obtain ⟨o, xs, n, ho, r⟩ := x; exact ⟨o, xs, n, k o ho, r⟩
/-- a member is not the set -/
theorem apart {h : Heap} {ks : List κ} {a b : Addr} {o : Obj} {es ep t} (x : IsTupleKey kd h ks b) (ho : h.get? a = some o) (hd : o.data = .set es ep t) : b ≠ a := by
  rintro rfl
  obtain ⟨o', xs, n, ho', _, hd', _⟩ := x
  cases ho.symm.trans ho'
  exact nomatch hd.symm.trans hd'
theorem no_cls (M : Mild kd) {ks : List κ} {b : Addr} {Q : Bool → Shared → Prop} (x : IsTupleKey kd s.heap ks b) (q : Q false s) : wpAny (model P w) A (ofAClassStatement 8 (.ref b)) Q E s := by
  have ty := x.typeIs
  obtain ⟨o, xs, n, ho, _, hd, hi⟩ := x
  unfold ofAClassStatement
  refine wpAny_bind (wpAny_typeOf ty ?_)
  simp only [beq_self_eq_true, if_true, Bool.not_true, Bool.false_eq_true, if_false, pure_bind]
  refine wpAny_bind (wpAny_seqItems ho hd (wpAny_bind ?_))
  show wpAny _ _ (forIn xs _ _) _ _ s
  rw [← Array.forIn_toList]
  refine wpAny_forIn_list _ (fun l r s' => r.1 = none ∧ s' = s ∧ ∀ v ∈ l, ∃ k, kd.is k v = true) _ (fun v l r s' z => ?_) (fun r s' z => ?_) _ _ ⟨rfl, rfl, each_is hi⟩
  · obtain ⟨_, rfl, al⟩ := z
    obtain ⟨k, hk⟩ := al v List.mem_cons_self
    rw [M.cls _ k v hk]
    exact wpAny_bind (wpAny_pure (wpAny_pure ⟨rfl, rfl, fun u hu => al u (.tail _ hu)⟩))
  · obtain ⟨r1, r2⟩ := r
    obtain ⟨e, rfl, _⟩ := z
    cases (show r1 = none from e)
    exact wpAny_pure q
theorem some_val (M : Mild kd) {ks : List κ} {b : Addr} {Q : Bool → Shared → Prop} (x : IsTupleKey kd s.heap ks b) (q : ∀ c, Q c s) : wpAny (model P w) A (hashByValue 8 (.ref b)) Q E s := by
  have ty := x.typeIs
  obtain ⟨o, xs, n, ho, _, hd, hi⟩ := x
  unfold hashByValue
  refine wpAny_bind (wpAny_specialOf ty F.slot_tuple_hash.lookup ?_)
  show wpAny _ _ (seqItems? (.ref b) >>= _) _ _ s
  refine wpAny_bind (wpAny_seqItems ho hd (wpAny_bind ?_))
  show wpAny _ _ (forIn xs _ _) _ _ s
  rw [← Array.forIn_toList]
  refine wpAny_forIn_list _ (fun l r s' => r.1 = none ∧ s' = s ∧ ∀ v ∈ l, ∃ k, kd.is k v = true) _ (fun v l r s' z => ?_) (fun r s' z => ?_) _ _ ⟨rfl, rfl, each_is hi⟩
  · obtain ⟨_, rfl, al⟩ := z
    obtain ⟨k, hk⟩ := al v List.mem_cons_self
    obtain ⟨c, e⟩ := M.val 7 k v hk
    rw [e]
    refine wpAny_bind (wpAny_pure ?_)
    cases c
    · exact wpAny_pure (wpAny_pure (q _))
    · exact wpAny_pure ⟨rfl, rfl, fun u hu => al u (.tail _ hu)⟩
  · obtain ⟨r1, r2⟩ := r
    obtain ⟨e, rfl, _⟩ := z
    cases (show r1 = none from e)
    exact wpAny_pure (q _)
end
end Tq

/-! The table of a set of such tuples: looking for one, and putting one in. -/
namespace Tq
open PySem PySem.Spec PyProof.Rows L2
section
variable {P : Program} {w : World} {κ : Type} [DecidableEq κ] {kd : KeyKind P w κ} {A : Around} {E : Value → Shared → Prop} {s : Shared}
abbrev hk (kd : KeyKind P w κ) (r : Row κ) : Int := tupleKeyHash kd r.2
abbrev ent (kd : KeyKind P w κ) (r : Row κ) : Int × Value := (hk kd r, .ref r.1)
/-- the set at a has these rows, in the order of its table -/
structure Lies (kd : KeyKind P w κ) (h : Heap) (a : Addr) (L : List (Row κ)) (es : Array (Int × Value)) (ep : Nat) (t : SetTable) : Prop where
  obj : ∃ o, h.get? a = some o ∧ o.ExactSet ∧ o.data = .set es ep t
  ents : es.toList = L.map (ent kd)
  tab : TabOk t (L.map (hk kd))
  dif : (L.map Prod.snd).Nodup
  led : w.params.followText "set-order" = true ∨ t.led = true
  wide : L.length * 5 < t.mask * 3
  few : L.length < 64
abbrev Are (kd : KeyKind P w κ) (h : Heap) (L : List (Row κ)) : Prop := ∀ r ∈ L, IsTupleKey kd h r.2 r.1
variable {a : Addr} {L : List (Row κ)} {es : Array (Int × Value)} {ep : Nat} {t : SetTable}
theorem len_of (e : es.toList = L.map (ent kd)) : es.size = L.length := by
  rw [← Array.length_toList, e, List.length_map]
theorem get_of (e : es.toList = L.map (ent kd)) {i : Nat} {r : Row κ} (h : L[i]? = some r) : es[i]? = some (ent kd r) := by
  rw [← Array.getElem?_toList, e, List.getElem?_map, h]; rfl
theorem fits_of (hs : t.place.size = es.size) (hd : t.dummies = #[]) (hm : es.size ≤ t.mask) : t.fits es.size = true := by
  unfold SetTable.fits SetTable.fill
  rw [hd, Bool.and_eq_true, beq_iff_eq, decide_eq_true_eq]
  exact ⟨hs, by show t.place.size + 0 ≤ t.mask; omega⟩
theorem Lies.sz (T : Lies kd s.heap a L es ep t) : t.place.size = L.length := by rw [T.tab.sz, List.length_map]
theorem Lies.ok (T : Lies kd s.heap a L es ep t) : t.fits es.size = true :=
  fits_of (by rw [T.sz, len_of T.ents]) T.tab.dm (by rw [len_of T.ents]; have := T.wide; omega)
/-- a search tells nobody anything -/
theorem unseen (M : Mild kd) {k : List κ} {b : Addr} {ys : List Value} {Q : Bool → Shared → Prop} (x : IsTupleKey kd s.heap k b) (hy : ∀ y ∈ ys, ∃ r : Row κ, y = .ref r.1 ∧ IsTupleKey kd s.heap r.2 r.1) (q : Q false s) :
    wpAny (model P w) A (searchCouldBeSeen (.ref b) ys) Q E s := by
  unfold searchCouldBeSeen
  refine wpAny_bind (wpAny_forIn_list _ (fun l r s' => r.1 = none ∧ s' = s ∧ ∀ y ∈ l, ∃ r : Row κ, y = .ref r.1 ∧ IsTupleKey kd s.heap r.2 r.1) _ (fun v l r s' z => ?_) (fun r s' z => ?_) _ _ ⟨rfl, rfl, hy⟩)
  · obtain ⟨_, rfl, al⟩ := z
    obtain ⟨r', rfl, y⟩ := al v List.mem_cons_self
    have on : ∀ u ∈ l, _ := fun u hu => al u (.tail _ hu)
    dsimp only
    split
    · exact wpAny_pure ⟨rfl, rfl, on⟩
    · refine wpAny_bind (wpAny_eqIsQuiet_tuple x ?_)
      simp only [Bool.not_true, Bool.false_eq_true, if_false]
      refine wpAny_bind (wpAny_eqIsQuiet_tuple y ?_)
      simp only [Bool.not_true, Bool.false_eq_true, if_false]
      refine wpAny_bind (no_cls M x ?_)
      simp only [Bool.false_eq_true, if_false]
      refine wpAny_bind (no_cls M y ?_)
      simp only [Bool.false_eq_true, if_false]
      exact wpAny_pure ⟨rfl, rfl, on⟩
  · obtain ⟨r1, r2⟩ := r
    obtain ⟨e, rfl, _⟩ := z
    cases (show r1 = none from e)
    exact wpAny_pure q
/-- the way of a hash from one of its steps on -/
abbrev from_ (m : Nat) (h : Int) (c : Nat) : SetTable.Probe := nth m (runAt m (SetTable.bits h % (m + 1)) (SetTable.bits h)) c
theorem from_j (m : Nat) (h : Int) (c q : Nat) : (nth m (from_ m h c) q).j = way m h (c + q) := congrArg SetTable.Probe.j (nth_add m c _ q).symm
theorem from_dummy (m : Nat) (h : Int) (c : Nat) : (from_ m h c).dummy = none := by
  have : ∀ (n : Nat) (p : SetTable.Probe), p.dummy = none → (nth m p n).dummy = none := by
    intro n
    induction n with
    | zero => exact fun p h => h
    | succ n ih => exact fun p h => ih _ (by unfold adv; split <;> exact h)
  exact this c _ rfl
section
variable {x : Addr} {k : List κ}
/-- what is left of a search from step c on ends as it should -/
theorem seek_from (M : Mild kd) (T : Lies kd s.heap a L es ep t) (mem : Are kd s.heap L) (hx : IsTupleKey kd s.heap k x) (hu : A.units < cLine) {N : Nat} (hN : N < 10 * SetTable.turns t.mask)
    (free : way t.mask (tupleKeyHash kd k) N ∉ t.place.toList) (full : ∀ c, c < N → way t.mask (tupleKeyHash kd k) c ∈ t.place.toList) {Q : SetFound → Shared → Prop}
    (yes : k ∈ L.map Prod.snd → Q (.there none) s) (no : k ∉ L.map Prod.snd → Q (.free (way t.mask (tupleKeyHash kd k) N) false) s) (f : Nat) :
    ∀ (c : Nat) (st : Option SetTable.Probe), st.getD (t.probeStart (tupleKeyHash kd k)) = from_ t.mask (tupleKeyHash kd k) c → c ≤ N → N - c < f →
      (∀ (i : Nat) r, L[i]? = some r → r.2 = k → ∃ c', c ≤ c' ∧ c' < N ∧ t.place.toList[i]? = some (way t.mask (tupleKeyHash kd k) c')) →
      wpAny (model P w) A (setSearchFrom a (.ref x) (tupleKeyHash kd k) true f st) Q E s := by
  obtain ⟨o, ho, hex, hd⟩ := T.obj
  generalize hH : tupleKeyHash kd k = H at *
  have hashAt : ∀ {i : Nat} {r : Row κ}, L[i]? = some r → (fun i => (es[i]?.map (·.1)).getD 0) i = hk kd r := fun {i r} e => by
    show (es[i]?.map (·.1)).getD 0 = _
    rw [get_of T.ents e]; rfl
  have same : ∀ r : Row κ, r.2 = k → hk kd r = H := fun r e => by rw [← hH, ← e]
  induction f with
  | zero => exact fun c st _ _ z _ => absurd z (Nat.not_lt_zero _)
  | succ f ih =>
    intro c st hst hc hf later
    rw [setSearchFrom_succ]
    refine wpAny_bind (wpAny_setState_of ho hd T.ok ?_)
    dsimp only
    refine wp_if_neg (by unfold SetTable.gaveWay; rw [mask_odd T.tab.mok]; decide) ?_
    try refine wpAny_bind (wpAny_pure ?_)
    have met := go_spec t T.tab.ris T.tab.dm (fun i => (es[i]?.map (·.1)).getD 0) H (10 * SetTable.turns t.mask) (N - c) (from_ t.mask H c) (from_dummy _ _ _) (by omega)
      (fun q hq => by rw [from_j]; exact full _ (by omega)) (by rw [from_j, show c + (N - c) = N by omega]; exact free)
    rw [← hst] at met
    rcases met with ⟨q, i, hq, hi, hh, pass, hp⟩ | ⟨pass, hp⟩
    · rw [show t.probe (fun i => (es[i]?.map (·.1)).getD 0) H (st.getD (t.probeStart H)) = _ from hp]
      rw [hst] at hi pass ⊢
      rw [from_j] at hi ⊢
      dsimp only
      have hil : i < L.length := by
        have := (List.getElem?_eq_some_iff.mp hi).1
        rw [Array.length_toList, T.sz] at this; exact this
      obtain ⟨r, hr⟩ : ∃ r, L[i]? = some r := ⟨_, List.getElem?_eq_getElem hil⟩
      have hm := List.mem_of_getElem? hr
      have sl : t.slot (way t.mask H (c + q)) = .live i := slot_live T.tab.ris hi
      have tail : wpAny (model P w) A (searchRest a (.ref x) H true f es t (way t.mask H (c + q)) i (nth t.mask (from_ t.mask H c) (q + 1))) Q E s := by
        unfold searchRest
        rw [get_of T.ents hr]
        refine wpAny_bind (wpAny_holding (wpAny_eqBool_tuple hu (mem r hm) hx ?_))
        refine wpAny_bind (wpAny_setState_of ho hd T.ok ?_)
        dsimp only
        by_cases e : r.2 = k
        · exact wp_if_pos (by simp [e]) (wpAny_pure (yes (List.mem_map.mpr ⟨r, hm, e⟩)))
        · refine wp_if_neg (by simp [e]) ?_
          try refine wpAny_bind (wpAny_pure ?_)
          rw [sameMem]
          simp only [if_true, sl, get_of T.ents hr]
          refine wpAny_bind (wpAny_isSame_ref_self (wpAny_bind (wpAny_pure ?_)))
          simp only [if_true]
          refine wp_if_neg (by simp [e]) ?_
          refine ih (c + (q + 1)) _ (nth_add t.mask c _ (q + 1)).symm (by omega) (by omega) fun i0 r0 h0 e0 => ?_
          obtain ⟨c', l1, l2, l3⟩ := later i0 r0 h0 e0
          refine ⟨c', ?_, l2, l3⟩
          rcases Nat.lt_trichotomy c' (c + q) with z | z | z
          · refine absurd ((hashAt h0).trans (same r0 e0)) (pass (c' - c) i0 (by omega) ?_)
            rw [from_j, show c + (c' - c) = c' by omega]; exact l3
          · have := slot_live T.tab.ris (z ▸ l3)
            rw [sl] at this
            injection this with this
            rw [← this, hr] at h0
            exact absurd ((congrArg Prod.snd (Option.some.inj h0)).trans e0) e
          · omega
      by_cases hl : t.led = true
      · refine wp_if_neg (by simp [hl]) ?_
        try refine wpAny_bind (wpAny_pure ?_)
        exact tail
      · refine wp_if_pos (by simp [hl]) (wpAny_bind (unseen M hx (fun y hy => ?_) (wp_if_neg (by decide) ?_)))
        · obtain ⟨e, he, rfl⟩ := List.mem_map.mp hy
          have he : e ∈ es.toList := by
            have : e ∈ es ∧ e.1 = H := by simpa using he
            simpa using this.1
          rw [T.ents] at he
          obtain ⟨r', hr', rfl⟩ := List.mem_map.mp he
          exact ⟨r', rfl, mem r' hr'⟩
        · try refine wpAny_bind (wpAny_pure ?_)
          exact tail
    · rw [show t.probe (fun i => (es[i]?.map (·.1)).getD 0) H (st.getD (t.probeStart H)) = _ from hp]
      rw [hst] at pass ⊢
      rw [from_j, show c + (N - c) = N by omega]
      refine wpAny_pure (no fun z => ?_)
      obtain ⟨r, hr, e⟩ := List.mem_map.mp z
      obtain ⟨i, hi, ei⟩ := List.getElem_of_mem hr
      have h0 : L[i]? = some r := by rw [List.getElem?_eq_getElem hi, ei]
      obtain ⟨c', l1, l2, l3⟩ := later i r h0 e
      refine pass (c' - c) i (by omega) ?_ ((hashAt h0).trans (same r e))
      rw [from_j, show c + (c' - c) = c' by omega]; exact l3
/-- a search as putting in asks for it -/
theorem seek (M : Mild kd) (T : Lies kd s.heap a L es ep t) (mem : Are kd s.heap L) (hx : IsTupleKey kd s.heap k x) (hu : A.units < cLine) {Q : SetFound → Shared → Prop} (yes : k ∈ L.map Prod.snd → Q (.there none) s)
    (no : ∀ N, k ∉ L.map Prod.snd → way t.mask (tupleKeyHash kd k) N ∉ t.place.toList → (∀ c, c < N → way t.mask (tupleKeyHash kd k) c ∈ t.place.toList) → Q (.free (way t.mask (tupleKeyHash kd k) N) false) s) :
    wpAny (model P w) A (setSearch a (.ref x) (tupleKeyHash kd k) true) Q E s := by
  have room := T.wide
  obtain ⟨N, b, free, full⟩ := T.tab.first (by rw [List.length_map]; omega) (tupleKeyHash kd k)
  have most : 10 * SetTable.turns t.mask ≤ 1420 := by
    unfold SetTable.turns
    rcases T.tab.mok with e | e | e <;> omega
  unfold setSearch
  refine seek_from M T mem hx hu b free full yes (fun z => no N z free full) 100000 0 none rfl (Nat.zero_le _) (by omega) fun i r hr e => ?_
  have hi : i < t.place.toList.length := by
    rw [Array.length_toList, T.sz]; exact (List.getElem?_eq_some_iff.mp hr).1
  obtain ⟨c, hc, ec⟩ := T.tab.before free (i := i) (h := tupleKeyHash kd k) (by rw [List.getElem?_map, hr, ← e]; rfl) (List.getElem?_eq_getElem hi)
  exact ⟨c, Nat.zero_le _, hc, by rw [List.getElem?_eq_getElem hi, ec]⟩
end
end
end Tq

/-! Putting a tuple in; a set of the items of a list. -/
namespace Tq
open PySem PySem.Spec PyProof.Rows L2
section
variable {P : Program} {w : World} {κ : Type} [DecidableEq κ] {kd : KeyKind P w κ} {A : Around} {E : Value → Shared → Prop} {s : Shared}
variable {a : Addr} {L : List (Row κ)} {es : Array (Int × Value)} {ep : Nat} {t : SetTable}
theorem map_range {α : Type} (l : List α) (d : α) : (List.range l.length).map (fun i => l.getD i d) = l := by
  apply List.ext_getElem
  · simp
  · intro i h1 h2; simp [List.getD_eq_getElem?_getD, h2]
/-- the entries in another order are those of the rows in that order -/
theorem in_order {order : Array Nat} (e : es.toList = L.map (ent kd)) (pm : order.toList.Perm (List.range L.length)) :
    ∃ L2 : List (Row κ), (order.filterMap (es[·]?)).toList = L2.map (ent kd) ∧ L2.Perm L ∧ L2.map (hk kd) = order.toList.map fun i => (es.map (·.1)).getD i 0 := by
  have d : Row κ := (0, [])
  have bd : ∀ i ∈ order.toList, i < L.length := fun i hi => List.mem_range.mp (pm.mem_iff.mp hi)
  refine ⟨order.toList.map fun i => L.getD i d, ?_, ?_, ?_⟩
  · rw [Array.toList_filterMap, List.map_map]
    generalize order.toList = l at bd
    clear pm
    induction l with
    | nil => rfl
    | cons i l ih =>
      have hi := bd i List.mem_cons_self
      have g := get_of e (List.getElem?_eq_getElem hi)
      rw [List.filterMap_cons_some g, ih fun j hj => bd j (.tail _ hj), List.map_cons]
      simp [hi]
  · have := pm.map fun i => L.getD i d
    rwa [map_range] at this
  · rw [List.map_map]
    refine List.map_congr_left fun i hi => ?_
    have g := get_of e (List.getElem?_eq_getElem (bd i hi))
    have hi' := bd i hi
    have g2 : (es.map (·.1))[i]? = some (hk kd L[i]) := by rw [Array.getElem?_map, g]; rfl
    simp [bd i hi, Array.getD_eq_getD_getElem?, g2]
/-- the table is laid anew -/
theorem anew {o : Obj} (ho : s.heap.get? a = some o) (hex : o.ExactSet) (hd : o.data = .set es ep t) (e : es.toList = L.map (ent kd)) (T : TabOk t (L.map (hk kd))) (hm : L.length ≤ t.mask) (dif : (L.map Prod.snd).Nodup)
    (led : w.params.followText "set-order" = true ∨ t.led = true) (few : L.length < 64) {n m : Nat} (hn : SetTable.sizeAbove n - 1 = m) (ok : MaskOk m) (le : SetTable.sizeAbove n ≤ 128) (wide : L.length * 5 < m * 3) {Q : Unit → Shared → Prop}
    (q : ∀ h' L' es' ep' t', Heap.SameBut a s.heap h' → Lies kd h' a L' es' ep' t' → L'.Perm L → Q () { s with heap := h' }) : wpAny (model P w) A (setRelay a n) Q E s := by
  have hz := len_of e
  obtain ⟨t', order, er, pm, T', em, el, _, _⟩ := relaid_ok t (hs := es.map (·.1)) hn ok (by rw [Array.size_map, hz]; omega)
  rw [Array.size_map, hz] at pm
  obtain ⟨L2, e1, e2, e3⟩ := in_order e pm
  have hz2 : (order.filterMap (es[·]?)).size = es.size := by rw [len_of e1, hz, e2.length_eq]
  have f : t.fits es.size = true := fits_of (by rw [T.sz, List.length_map, hz]) T.dm (by omega)
  rw [setRelay_eq]
  refine wpAny_bind (wpAny_setState_of ho hd f (wp_if_neg (by rw [sizeLine_eq]; omega) ?_))
  try refine wpAny_bind (wpAny_pure ?_)
  rw [er]
  refine wpAny_bind (wp_if_neg (by rw [hz2]; simp) ?_)
  try refine wpAny_bind (wpAny_pure ?_)
  refine wpAny_pure (wpAny_storeSet_of ho hd ?_ (by rw [hz2, hz, sizeLine_eq]; omega))
  refine q _ L2 _ (ep + 1) t' (Heap.SameBut.update ..) ⟨⟨_, store_at ho hd, hex, rfl⟩, e1, e3 ▸ T', (e2.map _).nodup_iff.mpr dif, el ▸ led, ?_, e2.length_eq ▸ few⟩ e2
  rw [e2.length_eq, em]; exact wide
theorem tab_like {t t' : SetTable} {hs : List Int} (T : TabOk t hs) (e1 : t'.place = t.place) (e2 : t'.dummies = t.dummies) (e3 : t'.mask = t.mask) : TabOk t' hs := by
  refine ⟨e1 ▸ T.ris, e2 ▸ T.dm, e1 ▸ T.sz, e3 ▸ T.mok, ?_, ?_⟩
  · rw [e1, e3]; exact T.bd
  · rw [e1, e3]; exact T.reach
/-- a tuple is put in -/
theorem put_in (M : Mild kd) (T : Lies kd s.heap a L es ep t) (mem : Are kd s.heap L) {x : Addr} {k : List κ} (hx : IsTupleKey kd s.heap k x) (hu : A.units < cLine) (few : L.length + 1 < 64) {Q : Bool → Shared → Prop}
    (q : ∀ b h' L' es' ep' t', Heap.SameBut a s.heap h' → Lies kd h' a L' es' ep' t' → (k ∈ L.map Prod.snd ∧ L' = L) ∨ (k ∉ L.map Prod.snd ∧ L'.Perm ((x, k) :: L)) → Q b { s with heap := h' }) :
    wpAny (model P w) A (setAddHashed a (.ref x) (tupleKeyHash kd k)) Q E s := by
  obtain ⟨o, ho, hex, hd⟩ := T.obj
  have hz := len_of T.ents
  have wide := T.wide
  unfold setAddHashed
  refine wpAny_holding ?_
  rw [show (100000 : Nat) = 99999 + 1 from rfl, setAddHashedIn_succ]
  refine wpAny_bind (wpAny_setState_of ho hd T.ok (wp_if_neg (by simp [byScan, Value.scannable]) ?_))
  try refine wpAny_bind (wpAny_pure ?_)
  refine wpAny_bind (seek M T mem hx hu (fun z => wpAny_pure (q false s.heap L es ep t (Heap.SameBut.refl a s.heap) T (.inl ⟨z, rfl⟩))) fun N z free full => ?_)
  refine wpAny_bind (wpAny_setState_of ho hd T.ok ?_)
  obtain ⟨q1, q2, q3, q4, q5, _, _, _, q9⟩ := T.tab.put free full
  dsimp only
  generalize hj : way t.mask (tupleKeyHash kd k) N = j at q1 q2 q3 q4 q5 q9 ⊢
  generalize ht : t.put j = tp at q1 q3 q4 q5 q9 ⊢
  obtain ⟨t1, p⟩ := tp
  dsimp only at q1 q3 q4 q5 q9 ⊢
  subst q1
  generalize hp : SetTable.below t.place j = p at q2 q3 ⊢
  -- the rows behind it
  have pm : (L.take p ++ (x, k) :: L.drop p).Perm ((x, k) :: L) := put_perm L p (x, k)
  have ents : (SetTable.insertAt es p (tupleKeyHash kd k, Value.ref x)).toList = (L.take p ++ (x, k) :: L.drop p).map (ent kd) := by
    rw [SetTable.toList_insertAt, T.ents, List.map_append, List.map_cons, List.map_take, List.map_drop]
  rw [show (L.map (hk kd)).take p ++ tupleKeyHash kd k :: (L.map (hk kd)).drop p = (L.take p ++ (x, k) :: L.drop p).map (hk kd) by rw [List.map_append, List.map_cons, List.map_take, List.map_drop]] at q3
  generalize L.take p ++ (x, k) :: L.drop p = L1 at pm ents q3
  have len : L1.length = L.length + 1 := pm.length_eq
  have dif : (L1.map Prod.snd).Nodup := (pm.map _).nodup_iff.mpr (List.nodup_cons.mpr ⟨z, T.dif⟩)
  generalize hE : SetTable.insertAt es p (tupleKeyHash kd k, Value.ref x) = es1 at ents ⊢
  have hz1 := len_of ents
  have rest : ∀ t2 : SetTable, t2.place = t1.place → t2.dummies = t1.dummies → t2.mask = t1.mask → t2.led = t1.led → t2.fill = t1.fill →
      wpAny (model P w) A (storeSet a es1 t2) (fun _ s' => wpAny (model P w) A (if (!false && t2.tooFull) = true then (setRelay a (SetTable.grown (es.size + 1)) >>= fun _ => pure true) else pure true) Q E s') E s := by
    intro t2 g1 g2 g3 g4 g5
    have T2 := tab_like q3 g1 g2 g3
    have led : w.params.followText "set-order" = true ∨ t2.led = true := by rw [g4, q5]; exact T.led
    refine wpAny_storeSet_of ho hd ?_ (by rw [hz1, len, sizeLine_eq]; omega)
    have sb : Heap.SameBut a s.heap (s.heap.update a (Obj.putSet es1 t2)) := Heap.SameBut.update ..
    have ho1 := store_at (es' := es1) (t' := t2) ho hd
    generalize s.heap.update a (Obj.putSet es1 t2) = h1 at sb ho1 ⊢
    have fill : t2.fill = L.length + 1 := by rw [g5, q9, List.length_map]
    by_cases full2 : t2.tooFull = true
    · refine wp_if_pos (by simp [full2]) (wpAny_bind ?_)
      unfold SetTable.tooFull at full2
      rw [decide_eq_true_eq, fill, g3, q4] at full2
      have go : ∀ m, SetTable.sizeAbove (SetTable.grown (L.length + 1)) - 1 = m → MaskOk m → SetTable.sizeAbove (SetTable.grown (L.length + 1)) ≤ 128 → (L.length + 1) * 5 < m * 3 → L.length + 1 ≤ t.mask →
          wpAny (model P w) A (setRelay a (SetTable.grown (es.size + 1))) (fun _ s' => wpAny (model P w) A (pure true) Q E s') E { s with heap := h1 } := fun m m1 m2 m3 m4 m5 => by
        rw [hz]
        refine anew (s := { s with heap := h1 }) ho1 ⟨hex.1, hex.2.1, hex.2.2⟩ rfl ents T2 (by rw [len, g3, q4]; exact m5) dif led (by rw [len]; exact few) m1 m2 m3 (by rw [len]; exact m4) fun h2 L2 es2 ep2 t3 sb2 T3 pm2 => ?_
        exact wpAny_pure (q true h2 L2 es2 ep2 t3 (sb.trans sb2) T3 (.inr ⟨z, pm2.trans pm⟩))
      rcases T.tab.mok with e | e | e
      · have l4 : L.length = 4 := by omega
        refine go 31 (by rw [l4, size_20]) (.inr (.inl rfl)) (by rw [l4, size_20]; decide) (by omega) (by omega)
      · have l4 : L.length = 18 := by omega
        refine go 127 (by rw [l4, size_76]) (.inr (.inr rfl)) (by rw [l4, size_76]; decide) (by omega) (by omega)
      · omega
    · refine wp_if_neg (by simp [full2]) (wpAny_pure (q true h1 L1 es1 (ep + 1) t2 sb ⟨⟨_, ho1, ⟨hex.1, hex.2.1, hex.2.2⟩, rfl⟩, ents, T2, dif, led, ?_, by rw [len]; exact few⟩ (.inr ⟨z, pm⟩)))
      unfold SetTable.tooFull at full2
      rw [decide_eq_true_eq, fill] at full2
      rw [len]; omega
  by_cases pl : t1.plain = true
  · refine wp_if_pos pl (wpAny_bind (some_val M hx fun c => wpAny_bind ?_))
    cases c
    · exact rest _ rfl rfl rfl rfl rfl
    · exact rest t1 rfl rfl rfl rfl rfl
  · refine wp_if_neg pl ?_
    first
      | exact wpAny_bind (wpAny_pure (wpAny_bind (rest t1 rfl rfl rfl rfl rfl)))
      | exact wpAny_bind (rest t1 rfl rfl rfl rfl rfl)
end
end Tq

/-! The set of the items of a list, all of them such tuples. -/
namespace Tq
open PySem PySem.Spec PyProof.Rows L2
section
variable {P : Program} {w : World} {κ : Type} [DecidableEq κ] {kd : KeyKind P w κ} {A : Around} {E : Value → Shared → Prop} {s : Shared}
/-- what the set holds behind so many items -/
structure Held (ks : List (Row κ)) (i : Nat) (L : List (Row κ)) : Prop where
  of : ∀ r ∈ L, r ∈ ks
  to : ∀ r ∈ ks.take i, r.2 ∈ L.map Prod.snd
  le : L.length ≤ i
theorem Held.next {ks L L' : List (Row κ)} {i : Nat} {r : Row κ} (h : Held ks i L) (e : ks[i]? = some r) (c : (r.2 ∈ L.map Prod.snd ∧ L' = L) ∨ (r.2 ∉ L.map Prod.snd ∧ L'.Perm ((r.1, r.2) :: L))) : Held ks (i + 1) L' := by
  have tk : ks.take (i + 1) = ks.take i ++ [r] := by rw [List.take_add_one, e]; rfl
  have step : (∀ q ∈ L', q ∈ ks) ∧ (∀ k, k = r.2 ∨ k ∈ L.map Prod.snd → k ∈ L'.map Prod.snd) ∧ L'.length ≤ i + 1 := by
    rcases c with ⟨c, rfl⟩ | ⟨_, pm⟩
    · exact ⟨h.of, fun k z => z.elim (fun z => z ▸ c) id, Nat.le_succ_of_le h.le⟩
    · refine ⟨fun q hq => ?_, fun k z => ?_, ?_⟩
      · rcases List.mem_cons.mp (pm.mem_iff.mp hq) with z | z
        · exact z ▸ List.mem_of_getElem? e
        · exact h.of q z
      · rw [(pm.map Prod.snd).mem_iff]
        exact List.mem_cons.mpr z
      · rw [pm.length_eq]; exact Nat.succ_le_succ h.le
  refine ⟨step.1, fun q hq => ?_, step.2.2⟩
  rw [tk] at hq
  rcases List.mem_append.mp hq with z | z
  · exact step.2.1 _ (.inr (h.to q z))
  · exact step.2.1 _ (.inl (by rw [List.mem_singleton.mp z]))
abbrev newSet (w : World) : Obj := { cls := .type "set", dict := none, data := .set #[] 0 (.fresh 0 0 (!w.params.followText "set-order")) }
theorem lies_new {h : Heap} {a : Addr} (ho : h.get? a = some (newSet w)) : Lies kd h a [] #[] 0 (.fresh 0 0 (!w.params.followText "set-order")) where
  obj := ⟨_, ho, ⟨rfl, rfl, rfl⟩, rfl⟩
  ents := rfl
  tab := ⟨.nil, rfl, rfl, .inl rfl, fun _ z => (by cases z), fun i h j z => (by simp at z)⟩
  dif := .nil
  led := by
    show _ ∨ (!w.params.followText "set-order") = true
    cases w.params.followText "set-order" <;> simp
  wide := by show 0 * 5 < 7 * 3; decide
  few := by show 0 < 64; decide
theorem Lies.on {h h' : Heap} {a : Addr} {L : List (Row κ)} {es ep t} (T : Lies kd h a L es ep t) (k : ∀ o, h.get? a = some o → h'.get? a = some o) : Lies kd h' a L es ep t :=
  let ⟨o, ho, r⟩ := T.obj; ⟨⟨o, k o ho, r⟩, T.ents, T.tab, T.dif, T.led, T.wide, T.few⟩
/-- the turns that put all items in -/
theorem all_in (M : Mild kd) {I : Addr} {fp wr : List Addr} {G : Array GenState → Array GenState → Prop} {n : Nat} {Pv : Nat → Value → Prop} {St : Nat → Shared → Prop} {R : Result → Shared → Prop} (W : WalksS P w A.in1 I fp wr G n Pv St)
    (S : Addr) (out : S ∉ fp) (ks : List (Row κ)) (hn : n = ks.length) (few : ks.length < 64) (val : ∀ i v, Pv i v → ∃ r, ks[i]? = some r ∧ v = .ref r.1) (h0 : Heap) (mem : Are kd h0 ks) (S0 : h0.get? S = none) (w0 : ∀ b ∈ wr, h0.get? b = none)
    (hu : A.in1.units < cLine) (g0 : Array GenState) (d0) (o0)
    (fin : ∀ s' L es ep t, Lies kd s'.heap S L es ep t → Held ks n L → (∀ b o, h0.get? b = some o → s'.heap.get? b = some o) → G g0 s'.gens → s'.drawn = d0 → s'.os = o0 → R (.ok (.ret .none)) s') (k : Nat) :
    ∀ (i : Nat) (s : Shared), n - i = k → i ≤ n → St i s → (∀ b o, h0.get? b = some o → s.heap.get? b = some o) → (∃ L es ep t, Lies kd s.heap S L es ep t ∧ Held ks i L) → G g0 s.gens → s.drawn = d0 → s.os = o0 →
      codeAny (model P w) A (.builtin "set.update.loop" ⟨[.ref S, .ref I], []⟩) R s := by
  have Sw : S ∉ wr := fun z => out (W.sub _ z)
  induction k with
  | zero =>
    intro i s hk hi st keep ⟨L, es, ep, t, T, H⟩ eg ed eo
    obtain rfl : i = n := by omega
    refine codeAny_builtin F.entry_set_update_loop ?_
    rw [Around.under_plainId F.plain_set_update_loop _]
    show wpAny _ A.in1 (pyNext (.ref I) >>= _) _ _ s
    refine wpAny_bind (W.done s _ _ st fun s' mv => ?_)
    show wpAny _ A.in1 (ret Value.none) _ _ s'
    refine wpAny_pure (fin s' L es ep t (T.on fun o e => mv.heap S o Sw e) H (fun b o e => mv.heap b o (fun z => ?_) (keep b o e)) (W.gtrans _ _ _ eg mv.gens) (mv.drawn.trans ed) (mv.os.trans eo))
    exact nomatch (w0 b z).symm.trans e
  | succ k ih =>
    intro i s hk hi st keep ⟨L, es, ep, t, T, H⟩ eg ed eo
    refine codeAny_builtin F.entry_set_update_loop ?_
    rw [Around.under_plainId F.plain_set_update_loop _]
    show wpAny _ A.in1 (pyNext (.ref I) >>= _) _ _ s
    refine wpAny_bind (W.item i s _ _ (by omega) st fun v s' hv st' mv => ?_)
    obtain ⟨r, hr, rfl⟩ := val i v hv
    have keep' : ∀ b o, h0.get? b = some o → s'.heap.get? b = some o := fun b o e => mv.heap b o (fun z => nomatch (w0 b z).symm.trans e) (keep b o e)
    have now : ∀ q : Row κ, q ∈ ks → IsTupleKey kd s'.heap q.2 q.1 := fun q hq => same_at (mem q hq) (keep' q.1)
    show wpAny _ A.in1 (holding [Value.ref r.1] (setAdd S (.ref r.1)) >>= _) _ _ s'
    refine wpAny_bind (wpAny_holding ?_)
    unfold setAdd
    refine wpAny_holding (wpAny_bind (wpAny_pyHash_tuple hu (now r (List.mem_of_getElem? hr)) ?_))
    refine put_in (s := { s' with toks := s'.toks + (r.2.length + 1) }) M (T.on fun o e => mv.heap S o Sw e) (fun q hq => now q (H.of q hq)) (now r (List.mem_of_getElem? hr)) hu (by have := H.le; omega) fun b h' L' es' ep' t' sb T' c => ?_
    refine wpAny_pure ⟨plainId_quiet F.plain_set_update_loop _, ih (i + 1) _ (by omega) (by omega) (W.frame _ s' _ _ st' (Nat.le_add_right _ _) fun b hb o e => ?_) (fun b o e => ?_) ⟨L', es', ep', t', T', H.next hr c⟩ (W.gtrans _ _ _ eg mv.gens) (mv.drawn.trans ed) (mv.os.trans eo)⟩
    · exact (sb.2 b fun z => out (z ▸ hb)).trans e
    · exact (sb.2 b fun z => by rw [z, S0] at e; cases e).trans (keep' b o e)
/-- set(l), l a list of such tuples -/
theorem call_set (M : Mild kd) {l : Addr} {items : Array Value} (ks : List (Row κ)) {Q : Value → Shared → Prop} (hh : A.handled = none) (hl : s.heap.IsList l items) (hi : items.toList = ks.map fun r => Value.ref r.1) (mem : Are kd s.heap ks)
    (few : ks.length < 64) (hu : A.units + 3 < cLine)
    (q : ∀ (h' : Heap) (tk : Nat) L es ep t, Lies kd h' s.heap.objs.size L es ep t → Held ks ks.length L → (∀ b o, s.heap.get? b = some o → h'.get? b = some o) → Q (.ref s.heap.objs.size) { s with heap := h', toks := tk }) :
    wpAny (model P w) A (call (.type "set") [.ref l]) Q E s := by
  have hn : items.size = ks.length := by rw [← Array.length_toList, hi, List.length_map]
  generalize hS : s.heap.objs.size = S at q ⊢
  have free : ∀ b, S ≤ b → s.heap.get? b = none := fun b hb => Heap.get?_none_of_le (hS ▸ hb)
  have lS : l < S := by obtain ⟨o, ho, _⟩ := hl; exact hS ▸ Heap.lt_size ho
  obtain ⟨c, tl, mro⟩ := F.called_set.mro
  have f1 := F.called_set.made
  have f2 := F.called_set.sub
  have f3 := F.called_set.notType
  have f4 := F.called_set.canCreate
  have f5 := F.typeCall_set_1 (.ref l)
  refine wpAny_call (codeAny_of_tree ?_)
  show wpAny _ _ (callAny (.type "set") _) _ _ _
  refine wpAny_pure ⟨Code.quiet_builtin _ (by decide +kernel), codeAny_builtin F.entry_type_call ?_⟩
  rw [Around.under_plain (weight_type_call_type "set" [.ref l] []) rfl]
  repeat (any_goals (first | assumption | wp_step))
  refine codeAny_mono (code_set_led1 (.ref l) (E := E) (Q₁ := fun obj s₁ => obj = .ref S ∧ s₁ = { s with heap := s.heap.push (newSet w) }) ⟨by rw [hS], rfl⟩) fun r s₁ hr => ?_
  match r, hr with
  | .error e, hr => exact hr
  | .ok (.ret obj), hr =>
    obtain ⟨rfl, rfl⟩ := hr
    have at0 : (s.heap.push (newSet w)).get? S = some (newSet w) := hS ▸ Heap.get?_push_size _ rfl
    have ty : Shared.TypeIs { s with heap := s.heap.push (newSet w) } (.ref S) "set" := ⟨_, at0, rfl⟩
    have g1 := F.called_set.init.lookup
    have g2 := F.called_set.init.bind (.ref S)
    repeat (any_goals (first | assumption | wp_step))
    refine codeAny_mono (codeAny_call_builtin (R := wants (fun r s₂ => r = .none ∧ ∃ h' tk L es ep t, s₂ = { s with heap := h', toks := tk } ∧ Lies kd h' S L es ep t ∧ Held ks ks.length L ∧ (∀ b o, s.heap.get? b = some o → h'.get? b = some o)) E)
      F.called_set.init.plain F.entry_set_init (check_set_init_1 ty ?_)) fun r₂ s₂ hr₂ => ?_
    · obtain ⟨ol, hol, hcl, nl, hdl⟩ := hl
      obtain ⟨cl, di, da, sl⟩ := ol
      simp only at hcl hdl
      subst hcl hdl
      have ol1 : (s.heap.push (newSet w)).get? l = some { cls := .type "list", dict := di, data := .seq items nl, slots := sl } := Heap.get?_push_of_some _ hol
      have l1 : (s.heap.push (newSet w)).IsList l items := ⟨_, ol1, rfl, nl, rfl⟩
      have b1 := F.sub_list_set
      have b2 := F.sub_list_frozenset
      have b3 : (Value.type "list" == Value.type "dict") = false := by decide
      unfold Builtin.«set.__init__» noKeywords Builtin.Frozenset.updateFrom
      generalize hPI : pyIter = PI
      wp_walk
      subst hPI
      refine wpAny_pyIter_list l1 (wpAny_bind (wpAny_runValue ?_))
      have sz : (s.heap.push (newSet w)).objs.size = S + 1 := by rw [size_push', hS]
      have vals : ∀ (i : Nat) (v : Value), items[i]? = some v → ∃ r, ks[i]? = some r ∧ v = .ref r.1 := fun i v e => by
        have e2 : (ks.map fun r => Value.ref r.1)[i]? = some v := by rw [← hi, Array.getElem?_toList]; exact e
        rw [List.getElem?_map] at e2
        cases h : ks[i]? with
        | none => rw [h] at e2; cases e2
        | some r => rw [h] at e2; exact ⟨r, rfl, (Option.some.inj e2).symm⟩
      refine all_in M ((Walks.list (A := A.in1.in1.in1) (by simp [hh]) (s.heap.push (newSet w)).objs.size l (by rw [sz]; exact Nat.ne_of_lt (Nat.lt_succ_of_lt lS)) items).toS) S
        (by rw [sz]; simp; exact Nat.ne_of_gt lS) ks hn few vals s.heap mem (free S (Nat.le_refl _)) (fun b hb => free b (by rw [List.mem_singleton.mp hb, sz]; exact Nat.le_succ _)) hu s.gens s.drawn s.os ?fin
        (items.size - 0) 0 _ rfl (Nat.zero_le _) ⟨⟨_, Heap.get?_push_size _ rfl, rfl, rfl⟩, l1.push _⟩ (fun b o e => Heap.get?_push_of_some _ (Heap.get?_push_of_some _ e))
        ⟨[], #[], 0, _, lies_new (Heap.get?_push_of_some _ at0), ⟨fun r z => (by cases z), fun r z => (by simp at z), Nat.le_refl _⟩⟩ rfl rfl rfl
      case fin =>
        intro s' L es ep t T H keep eg ed eo
        obtain ⟨h', g, d, tk, os⟩ := s'
        simp only at eg ed eo
        subst eg ed eo
        refine wpAny_pure ?_
        show wpAny _ _ (ret Value.none) _ _ _
        exact wpAny_pure ⟨rfl, h', tk, L, es, ep, t, rfl, T, hn ▸ H, keep⟩
    · match r₂, hr₂ with
      | .error e, hr₂ => exact hr₂
      | .ok (.ret r), hr₂ =>
        obtain ⟨rfl, h', tk, L, es, ep, t, rfl, T, H, keep⟩ := hr₂
        repeat (any_goals (first | assumption | wp_step))
        exact q _ _ _ _ _ _ T H keep
end
end Tq

/-! Tuples of texts in their order; sorted(a set of them). -/
namespace Tq
open PySem PySem.Spec PyProof.Rows L2
/-- the signs of texts -/
abbrev sg1 (x : Str) : List Nat := x.cps.toList
def sg (ks : List Str) : List (List Nat) := ks.map sg1
theorem sg1_inj {x y : Str} (e : sg1 x = sg1 y) : x = y := by
  obtain ⟨a⟩ := x; obtain ⟨b⟩ := y
  exact congrArg Str.mk (Array.toList_inj.mp e)
theorem sg_inj : ∀ {a b : List Str}, sg a = sg b → a = b
  | [], [], _ => rfl
  | [], _ :: _, e => nomatch e
  | _ :: _, [], e => nomatch e
  | x :: a, y :: b, e => by
    injection e with e1 e2
    rw [sg1_inj e1, sg_inj e2]
/-- the order of tuples of texts -/
def tlt (a b : List Str) : Bool := decide (sg a < sg b)
theorem tlt_irr (a : List Str) : tlt a a = false := decide_eq_false (List.lt_irrefl _)
theorem tlt_tr {a b c : List Str} (h : tlt a b = true) (k : tlt b c = true) : tlt a c = true :=
  decide_eq_true (List.lt_trans (of_decide_eq_true h) (of_decide_eq_true k))
theorem tlt_eq {a b : List Str} (h : tlt a b = false) (k : tlt b a = false) : a = b :=
  sg_inj (List.le_antisymm (List.not_lt.mp (of_decide_eq_false k)) (List.not_lt.mp (of_decide_eq_false h)))
theorem tlt_asym {a b : List Str} (h : tlt a b = true) : tlt b a = false := by
  cases e : tlt b a
  · rfl
  · have := tlt_tr h e; rw [tlt_irr] at this; cases this
theorem swo_t (k : Value → List Str) : SrtO.Swo fun v u => tlt (k v) (k u) := by
  refine ⟨fun x y h => tlt_asym h, fun x y z h1 h2 => ?_⟩
  cases e : tlt (k z) (k x)
  · rfl
  · by_cases q : k x = k y
    · rw [q, h2] at e; cases e
    · cases e2 : tlt (k x) (k y)
      · exact absurd (tlt_eq e2 h1) q
      · have := tlt_tr e e2; rw [h2] at this; cases this
section
variable {P : Program} {w : World} {A : Around} {E : Value → Shared → Prop} {s : Shared}
abbrev sk (P : Program) (w : World) : PySem.KeyKind P w Str := PySem.strKind P w
abbrev IsX (P : Program) (w : World) (h : Heap) (ks : List Str) (a : Addr) : Prop := IsTupleKey (sk P w) h ks a
/-- one text is below another -/
theorem below (b : Bool) {x y : Str} {t u : Tok} {Q : Bool → Shared → Prop} (q : Q (decide (sg1 x < sg1 y)) s) : wpAny (model P w) A (oneLt' b (.str x t) (.str y u)) Q E s := by
  cases b with
  | true => exact oneLt_str q
  | false => exact PySem.W.kat_one _ _ (PyProof.Rows.lt_str (Q := PySem.W.BoolBack Q) q)
theorem lex {b : Bool} {xs ys : List Value} {ns ms : List Str} {Q : Bool → Shared → Prop} (i : Nat) (hx : ItemsAre (sk P w) ns xs) (hy : ItemsAre (sk P w) ms ys) (q : Q (tlt ns ms) s) :
    PySem.W.KatLex P w A b (decide (xs.length < ys.length)) Q (xs.zip ys) i s := by
  induction hx generalizing ys ms i with
  | nil =>
    cases hy with
    | nil => exact PySem.W.kat_nil q
    | cons _ _ => exact PySem.W.kat_nil q
  | @cons x v ns xs h1 _ ih =>
    cases hy with
    | nil => exact PySem.W.kat_nil q
    | @cons y u ms ys h2 hy =>
      obtain ⟨t, rfl⟩ := Value.isStrOf_shape h1
      obtain ⟨t', rfl⟩ := Value.isStrOf_shape h2
      refine PySem.W.kat_cons (wpAny_eqBool_str ?_)
      by_cases e : x = y
      · subst e
        rw [decide_eq_true rfl]
        refine PySem.W.kat_yes ?_
        have d : tlt (x :: ns) (x :: ms) = tlt ns ms := decide_eq_decide.mpr ⟨fun z => (List.cons_lt_cons_iff.mp z).elim (fun z => absurd z (List.lt_irrefl _)) (·.2), fun z => List.cons_lt_cons_iff.mpr (.inr ⟨rfl, z⟩)⟩
        rw [d] at q
        have d2 : decide ((Value.str x t :: xs).length < (Value.str x t' :: ys).length) = decide (xs.length < ys.length) := by simp
        rw [d2]
        exact ih (i + 1) hy q
      · rw [decide_eq_false e]
        refine PySem.W.kat_no (below _ ?_)
        have d : tlt (x :: ns) (y :: ms) = decide (sg1 x < sg1 y) := decide_eq_decide.mpr ⟨fun z => (List.cons_lt_cons_iff.mp z).elim id (fun z => absurd (sg1_inj z.1) e), fun z => List.cons_lt_cons_iff.mpr (.inl z)⟩
        rw [d] at q
        exact q
/-- what stands in a list that is to be sorted -/
def AllX (P : Program) (w : World) (h : Heap) (vs : List Value) (k : Value → List Str) : Prop := ∀ v ∈ vs, k v ≠ [] ∧ ∃ a, v = .ref a ∧ IsX P w h (k v) a
theorem heads {h : Heap} {k : Value → List Str} : ∀ vs : List Value, AllX P w h vs k → ∃ fs, PySem.W.KatTups h vs fs ∧ fs.length = vs.length ∧ ∀ f ∈ fs, ∃ x t, f = Value.str x t
  | [], _ => ⟨[], PySem.W.KatTups.nil, rfl, fun _ z => nomatch z⟩
  | v :: vs, al => by
    obtain ⟨fs, r, hl, hf⟩ := heads vs fun u hu => al u (.tail _ hu)
    obtain ⟨ne, a, rfl, o, xs, n, ho, hc, hd, hi⟩ := al v List.mem_cons_self
    generalize hz : k (.ref a) = ks at hi ne
    generalize e : xs.toList = l at hi
    cases hi with
    | nil => exact absurd rfl ne
    | @cons x f _ _ h1 _ =>
      obtain ⟨t, rfl⟩ := Value.isStrOf_shape h1
      refine ⟨_ :: fs, PySem.W.KatTups.cons ho hc hd (f := .str x t) ?_ r, by simp [hl], fun g hg => ?_⟩
      · rw [← Array.getElem?_toList, e]; rfl
      · exact (List.mem_cons.mp hg).elim (fun z => ⟨x, t, z⟩) (hf g)
theorem sortable {a : Addr} {vs : List Value} {k : Value → List Str} (h0 : 0 < vs.length) (al : AllX P w s.heap vs k) (ha : ∀ o, s.heap.get? a = some o → o.cls ≠ .type "tuple") : SrtO.SortableO P w A s a vs fun v u => tlt (k v) (k u) := by
  intro h' keep
  have al' : AllX P w h' vs k := fun v hv => by
    obtain ⟨ne, b, e, x⟩ := al v hv
    obtain ⟨o, xs, n, ho, hc, r⟩ := x
    exact ⟨ne, b, e, o, xs, n, keep b o (fun z => ha o (z ▸ ho) hc) ho, hc, r⟩
  obtain ⟨fs, f1, f2, f3⟩ := heads vs al'
  refine ⟨tuples' true, fun Q E q => PySem.W.kat_kind (T := .type "str") f1 (by omega) (fun f hf => ?_) rfl ?_, fun p q hp hq => ?_⟩
  · obtain ⟨x, t, rfl⟩ := f3 f hf
    exact PySem.W.Looks.now
  · rw [show (Value.type "str" != Value.type "tuple") = true by decide]; exact q
  · obtain ⟨_, a1, e1, o1, x1, n1, ho1, _, hd1, hi1⟩ := al' _ hp
    obtain ⟨_, a2, e2, o2, x2, n2, ho2, _, hd2, hi2⟩ := al' _ hq
    show wpAny (model P w) A (keyLt' (tuples' true) p.1 q.1) (fun r s' => s' = _ ∧ r = tlt (k p.1) (k q.1)) (fun _ _ => False) _
    generalize k p.1 = k1 at hi1 ⊢
    generalize k q.1 = k2 at hi2 ⊢
    rw [e1, e2]
    refine PySem.W.kat_lt ho1 hd1 ho2 hd2 ?_
    have := lex (P := P) (w := w) (A := A) (s := { s with heap := h' }) (b := true) (Q := fun r s' => s' = { s with heap := h' } ∧ r = tlt k1 k2) 0 hi1 hi2 ⟨rfl, rfl⟩
    simpa using this
end
end Tq

/-! sorted(a set of tuples of texts), and both rules over the abstract heap. -/
namespace Tq
open PySem PySem.Spec PyProof.Rows L2
/-- the key that stands at an address -/
def keyAt (L : List (Row Str)) : Value → List Str
  | .ref b => ((L.find? fun r => decide (r.1 = b)).map Prod.snd).getD []
  | _ => []
def adrOf : Value → Addr
  | .ref b => b
  | _ => 0
section
variable {P : Program} {w : World} {A : Around} {E : Value → Shared → Prop} {s : Shared}
theorem keyAt_of {h : Heap} {L : List (Row Str)} (mem : Are (sk P w) h L) {r : Row Str} (hr : r ∈ L) : keyAt L (.ref r.1) = r.2 := by
  show ((L.find? fun q => decide (q.1 = r.1)).map Prod.snd).getD [] = r.2
  cases e : L.find? fun q => decide (q.1 = r.1) with
  | none => exact absurd (List.find?_eq_none.mp e r hr) (by simp)
  | some q =>
    have h1 : q.1 = r.1 := of_decide_eq_true (List.find?_some (p := fun q : Row Str => decide (q.1 = r.1)) e)
    have h2 := mem q (List.mem_of_find?_eq_some e)
    rw [h1] at h2
    exact h2.inj (mem r hr)
theorem sorted_set {a : Addr} {L : List (Row Str)} {es : Array (Int × Value)} {ep : Nat} {t : SetTable} {Q : Value → Shared → Prop} (T : Lies (sk P w) s.heap a L es ep t) (mem : Are (sk P w) s.heap L) (ne : ∀ r ∈ L, r.2 ≠ []) (hh : A.handled = none)
    (q : ∀ s' p (out : Array Value) (c : Nat) (L' : List (Row Str)), (∀ b o, s.heap.get? b = some o → s'.heap.get? b = some o) → s'.gens = s.gens → s'.os = s.os → s.heap.objs.size ≤ p → s'.heap.get? p = some (seqObj "list" out c) →
      out.toList = L'.map (fun r => Value.ref r.1) → L'.Perm L → (L'.map Prod.snd).Pairwise (fun x y => tlt x y = true) → Q (.ref p) s') :
    wpAny (model P w) A (call (.builtin "sorted") [.ref a]) Q E s := by
  obtain ⟨o, ho, hex, hd⟩ := T.obj
  refine Calls.call_function_entry kind_sorted plain_sorted entry_sorted (args_sorted1 _) ?_
  unfold Builtin.«sorted»
  refine wpAny_bind (m := checkCount "sorted" 1 1 _) (wpAny_pure ?_)
  refine wpAny_bind (collect_set (A := A.in1) hh ⟨o, ho, hex.1, hd⟩ T.ok (by rw [len_of T.ents]; have := T.few; unfold scanBound; omega) T.tab.ris T.led fun s1 vs k1 hz g1 o1 pm => ?_)
  have pm : vs.Perm (L.map fun r => Value.ref r.1) := by rw [T.ents, List.map_map] at pm; exact pm
  have few : vs.length ≤ sizeLine := by rw [pm.length_eq, List.length_map, sizeLine_eq]; have := T.few; omega
  refine wpAny_bind (wpAny_newList ?_ few)
  have oL : (s1.heap.push (seqObj "list" vs.toArray 0)).get? s1.heap.objs.size = some (seqObj "list" vs.toArray 0) := Heap.get?_push_size _ rfl
  have al : AllX P w (s1.heap.push (seqObj "list" vs.toArray 0)) vs (keyAt L) := fun v hv => by
    obtain ⟨r, hr, rfl⟩ := List.mem_map.mp (pm.mem_iff.mp hv)
    rw [keyAt_of mem hr]
    exact ⟨ne r hr, _, rfl, same_at (mem r hr) fun u e => Heap.get?_push_of_some _ (k1 _ u e)⟩
  refine wpAny_bind (wpAny_holding (wpAny_call_entry slot_list_sort ⟨_, oL, rfl⟩ entry_list_sort (SrtO.list_sort_ord (s := { s1 with heap := s1.heap.push (seqObj "list" vs.toArray 0) }) (swo_t (keyAt L)) oL few
    (fun h2 => sortable (by omega) al fun u e => ?_) fun out hs hb => ⟨_, rfl, ?_⟩) (args_list_sort _)))
  · rw [oL] at e
    cases e
    exact fun c => absurd (Value.type.inj c) (by decide)
  · obtain ⟨c, hc⟩ := sortedHeap_at (vs := vs) (out := out.toArray) oL
    have po := hb.perm.trans pm
    have back : ∀ r ∈ L, (adrOf (Value.ref r.1), keyAt L (.ref r.1)) = r := fun r hr => by rw [keyAt_of mem hr]; rfl
    have pL : (out.map fun v => (adrOf v, keyAt L v)).Perm L := by
      have := po.map fun v => (adrOf v, keyAt L v)
      rw [List.map_map] at this
      rwa [show L.map ((fun v => (adrOf v, keyAt L v)) ∘ fun r => Value.ref r.1) = L by
        conv => rhs; rw [← List.map_id L]
        exact List.map_congr_left back] at this
    refine wpAny_pure ⟨_, rfl, q _ _ out.toArray c (out.map fun v => (adrOf v, keyAt L v)) (fun b u e => ?_) g1 o1 hz hc ?_ pL ?_⟩
    · have e1 := k1 b u e
      have lt := Heap.lt_size e1
      show (sortedHeap (s1.heap.push (seqObj "list" vs.toArray 0)) s1.heap.objs.size vs out.toArray).get? b = some u
      rw [sortedHeap_old (Nat.ne_of_lt lt) (by rw [size_push']; exact Nat.lt_succ_of_lt lt)]
      exact Heap.get?_push_of_some _ e1
    · rw [List.map_map]
      show out = _
      conv => lhs; rw [← List.map_id out]
      refine List.map_congr_left fun v hv => ?_
      obtain ⟨r, hr, rfl⟩ := List.mem_map.mp (po.mem_iff.mp hv)
      rfl
    · have nd : ((out.map fun v => (adrOf v, keyAt L v)).map Prod.snd).Nodup := (pL.map _).nodup_iff.mpr T.dif
      rw [List.map_map] at nd ⊢
      rw [List.nodup_iff_pairwise_ne, List.pairwise_map] at nd
      rw [List.pairwise_map]
      refine (List.pairwise_and_iff.mpr ⟨hs, nd⟩).imp fun {x y} z => ?_
      cases e : tlt (keyAt L x) (keyAt L y)
      · exact absurd (tlt_eq e z.1) z.2
      · exact e
end
/-! ### over the abstract heap -/
def SetX (P : Program) (w : World) (a : Addr) (L : List (Row Str)) : HO := .ext fun h => ∃ es ep t, Lies (sk P w) h a L es ep t
theorem setX_new {P : Program} {w : World} {H : Hp} {h : Heap} {a : Addr} {L : List (Row Str)} (R : ∃ es ep t, Lies (sk P w) h a L es ep t) : ObjOk P w H h a (SetX P w a L) := by
  have ⟨es, ep, t, T⟩ := R
  have ⟨o, ho, _⟩ := T.obj
  exact ⟨R, ⟨o, ho⟩, fun h1 h2 ⟨es, ep, t, T⟩ k => ⟨es, ep, t, T.on k⟩⟩
theorem items_strs {P : Program} {w : World} : ∀ {k : List Str} {us : List Value}, Vals (k.map V.str) us → ItemsAre (sk P w) k us
  | [], _, .nil => .nil
  | x :: k, _, .cons r t => by
    obtain ⟨u, rfl⟩ := r
    exact .cons (beq_self_eq_true x) (items_strs t)
theorem refs_of {κ : Type} : ∀ {ks : List (Row κ)} {us : List Value}, Vals (ks.map fun r => V.ref r.1) us → us = ks.map fun r => Value.ref r.1
  | [], _, .nil => rfl
  | r :: ks, _, .cons e t => by cases e; rw [refs_of t]; rfl
theorem of_refs {κ : Type} : ∀ ks : List (Row κ), Vals (ks.map fun r => V.ref r.1) (ks.map fun r => Value.ref r.1)
  | [] => .nil
  | _ :: ks => .cons rfl (of_refs ks)
section
variable {X : Cx}
theorem isX_of {pins : List (Addr × Obj)} {σ : L2.St} {H : Hp} {s : Shared} {b : Addr} {k : List Str} (I : Inv X pins σ H s) (h : SqT X.K H b (k.map V.str)) : IsX X.prog X.w s.heap k b := by
  obtain ⟨its, r, ⟨o, ho, hc, n, hd⟩, _⟩ := I.tuple h
  exact ⟨o, its.toArray, n, ho, hc, hd, by simpa using items_strs r⟩
/-- these are tuples of these texts -/
abbrev TupsX (K : PySem.W.Frag) (H : Hp) (ks : List (Row Str)) : Prop := ∀ r ∈ ks, SqT K H r.1 (r.2.map V.str)
/-- set(l) -/
def rSetX (K : PySem.W.Frag) (P : Program) (w : World) : List V → Hp → VK → Prop := fun xs H Q => ∃ (l : Addr) (ks : List (Row Str)), xs = [V.ref l] ∧ SqL K H l (ks.map fun r => V.ref r.1) ∧ TupsX K H ks ∧ ks.length < 64 ∧
  ∀ a L, H a = none → (∀ r ∈ L, r ∈ ks) → (∀ r ∈ ks, r.2 ∈ L.map Prod.snd) → Q (.ref a) (upd H a (SetX P w a L))
theorem cr_setX (hc : X.calm = true) (hu : X.A.units + 64 < cLine) : CallR X (.type "set") (rSetX X.K X.prog X.w) := by
  intro pins s σ H xs us Q I r h
  obtain ⟨l, ks, rfl, hl, hk, few, q⟩ := h
  rw [Vals.ref1 r]
  obtain ⟨its, rv, pl, _⟩ := I.list hl
  refine call_set (P := X.prog) (w := X.w) (mild_str _ _) ks (I.ok.hd hc) pl.isList (by simpa using refs_of rv) (fun r hr => isX_of I (hk r hr)) few (by omega) fun h' tk L es ep t T Hd keep => ?_
  refine ⟨.ref s.heap.objs.size, upd H s.heap.objs.size (SetX X.prog X.w s.heap.objs.size L), I.laid (t' := tk) keep (Nat.le_refl _) (setX_new ⟨es, ep, t, T⟩), rfl, q _ L (I.hok.fresh (Nat.le_refl _)) Hd.of fun r hr => Hd.to r ?_⟩
  rw [List.take_length]; exact hr
/-- sorted(a set) -/
def rSortX (K : PySem.W.Frag) (P : Program) (w : World) : List V → Hp → VK → Prop := fun vs H Q => ∃ (a : Addr) (L : List (Row Str)), vs = [V.ref a] ∧ H a = some (SetX P w a L) ∧ TupsX K H L ∧ (∀ r ∈ L, r.2 ≠ []) ∧
  ∀ (L' : List (Row Str)) (p : Addr), L'.Perm L → L'.length < 64 → (L'.map Prod.snd).Pairwise (fun x y => tlt x y = true) → H p = none → Q (.ref p) (upd H p (.lst (L'.map fun r => V.ref r.1)))
theorem cr_sortX (hc : X.calm = true) : CallR X (.builtin "sorted") (rSortX X.K X.prog X.w) := by
  intro pins s σ H vs us Q I r h
  obtain ⟨a, L, rfl, ha, hk, ne, q⟩ := h
  obtain ⟨es, ep, t, T⟩ : ∃ es ep t, Lies (sk X.prog X.w) s.heap a L es ep t := (I.hok a _ ha).1
  rw [Vals.ref1 r]
  refine sorted_set T (fun r hr => isX_of I (hk r hr)) ne (I.ok.hd hc) fun s' p out c L' keep g o hp hg eo pm pw => ?_
  have few : L'.length < 64 := by rw [pm.length_eq]; exact T.few
  have hn : H p = none := I.hok.fresh hp
  have J : Inv X pins σ (upd H p (.lst (L'.map fun r => V.ref r.1))) { s with heap := s'.heap, gens := s'.gens, drawn := s'.drawn, toks := s'.toks } :=
    I.call (ch := []) (Un.laid keep hp hn) (I.hok.laid keep hp ⟨by rw [List.length_map, sizeLine_eq]; omega, out.toList, c, by rw [eo]; exact of_refs L', hg⟩) (by rw [g]; exact I.bare) (fun _ z => nomatch z)
  obtain ⟨h1, g1, d1, t1, o1⟩ := s'
  simp only at o
  subst o
  exact ⟨.ref p, _, J, rfl, q L' p pm few pw hn⟩
end
end Tq

/-! Sets of texts: set(a list of texts), sorted of it. -/
namespace Tq
open PySem PySem.Spec PyProof.Rows L2
def keyS (e : Int × Value) : Str := match e.2 with | .str k _ => k | _ => Str.empty
def IsS (P : Program) (w : World) (e : Int × Value) : Prop := ∃ k u, e = ((sk P w).hash k, Value.str k u)
structure Txts (P : Program) (w : World) (h : Heap) (a : Addr) (L : List Str) (es : Array (Int × Value)) (ep : Nat) (t : SetTable) : Prop where
  obj : ∃ o, h.get? a = some o ∧ o.ExactSet ∧ o.data = .set es ep t
  each : ∀ e ∈ es.toList, IsS P w e
  keys : es.toList.map keyS = L
  dif : L.Nodup
  few : es.size < scanBound
  fit : t.fits es.size = true
  ris : Ris t.place.toList
  led : w.params.followText "set-order" = true ∨ t.led = true
section
variable {P : Program} {w : World} {A : Around} {E : Value → Shared → Prop} {s : Shared} {a : Addr} {L : List Str} {es : Array (Int × Value)} {ep : Nat} {t : SetTable}
theorem Txts.on {h h' : Heap} (T : Txts P w h a L es ep t) (k : ∀ o, h.get? a = some o → h'.get? a = some o) : Txts P w h' a L es ep t :=
  let ⟨o, ho, r⟩ := T.obj
  ⟨⟨o, k o ho, r⟩, T.each, T.keys, T.dif, T.few, T.fit, T.ris, T.led⟩
theorem Txts.len (T : Txts P w s.heap a L es ep t) : es.size = L.length := by rw [← T.keys, List.length_map, Array.length_toList]
theorem isS_is {e : Int × Value} (x : IsS P w e) (k : Str) : (sk P w).is k e.2 = true ↔ keyS e = k := by
  obtain ⟨j, u, rfl⟩ := x
  show (j == k) = true ↔ j = k
  exact beq_iff_eq
theorem each_elems {l : List (Int × Value)} (x : ∀ e ∈ l, IsS P w e) : ElemsOf (sk P w) l := fun e he => by
  obtain ⟨j, u, rfl⟩ := x e he
  exact ⟨⟨j, strKind_is _ _ _ _, rfl⟩, rfl⟩
/-- what is said of the set behind one more text -/
abbrev Onto (k : Str) (L L' : List Str) : Prop := (k ∈ L ∧ L' = L) ∨ (k ∉ L ∧ L'.Perm (k :: L))
theorem laid_tail {g : Bool → Sem Unit} (hg : ∀ (b : Bool) (s₁ : Shared) (Q' : Unit → Shared → Prop), Q' () s₁ → wpAny (model P w) A (g b) Q' E s₁) {o : Obj} (ho : s.heap.get? a = some o) (hex : o.ExactSet) (hd : o.data = .set es ep t)
    {es1 : Array (Int × Value)} {t2 : SetTable} (x : ∀ e ∈ es1.toList, IsS P w e) (nd : (es1.toList.map keyS).Nodup) (hb : es1.size < scanBound) (hf : t2.fits es1.size = true) (hr : Ris t2.place.toList) (hl : w.params.followText "set-order" = true ∨ t2.led = true)
    {was : Bool} {R : Option Bool → Shared → Prop} (q : ∀ h' L' es' ep' t', Heap.SameBut a s.heap h' → Txts P w h' a L' es' ep' t' → L'.Perm (es1.toList.map keyS) → R (some true) { s with heap := h' }) :
    wpAny (model P w) A (do
        storeSet a es1 t2
        if (!was && t2.tooFull) = true then do
            g (relayAll t2 es1 (SetTable.grown es1.size)).2.2
            storeSet a (relayAll t2 es1 (SetTable.grown es1.size)).1 (relayAll t2 es1 (SetTable.grown es1.size)).2.1
            pure (some true)
          else pure (some true)) R E s := by
  have at1 := store_at (es' := es1) (t' := t2) ho hd
  have b1 := Heap.SameBut.update s.heap a (Obj.putSet es1 t2)
  refine wpAny_bind (wpAny_storeSet_of ho hd ?_ (fits_of_scanBound hb))
  split
  · have pm := relayAll_perm t2 es1 (SetTable.grown es1.size)
    have c1 := relayAll_fits t2 es1 (SetTable.grown es1.size)
    have c2 := relayAll_ris t2 es1 (SetTable.grown es1.size)
    have c3 := relayAll_led t2 es1 (SetTable.grown es1.size)
    generalize relayAll t2 es1 (SetTable.grown es1.size) = Z at pm c1 c2 c3 ⊢
    obtain ⟨es2, t3, gv⟩ := Z
    dsimp only at pm c1 c2 c3 ⊢
    have sz : es2.size < scanBound := by rw [← Array.length_toList, pm.length_eq, Array.length_toList]; exact hb
    refine wpAny_bind (hg _ _ _ (wpAny_bind (wpAny_storeSet_of at1 rfl ?_ (fits_of_scanBound sz))))
    refine wpAny_pure (q _ (es2.toList.map keyS) es2 _ t3 (b1.trans (Heap.SameBut.update _ a _)) ⟨⟨_, store_at at1 rfl, hex, rfl⟩, fun e he => x e (pm.mem_iff.mp he), rfl, (pm.map keyS).nodup_iff.mpr nd, sz, c1, c2, hl.imp id fun z => by rw [c3]; exact z⟩ (pm.map keyS))
  · exact wpAny_pure (q _ _ es1 _ t2 b1 ⟨⟨_, at1, hex, rfl⟩, x, rfl, nd, hb, hf, hr, hl⟩ (List.Perm.refl _))
theorem txt_in {k : Str} {u : Tok} {Q : Bool → Shared → Prop} (T : Txts P w s.heap a L es ep t) (room : L.length + 1 < scanBound)
    (q : ∀ b h' L' es' ep' t', Heap.SameBut a s.heap h' → Txts P w h' a L' es' ep' t' → Onto k L L' → Q b { s with heap := h' }) : wpAny (model P w) A (setAddHashed a (.str k u) ((sk P w).hash k)) Q E s := by
  have ky : (sk P w).is k (.str k u) = true := strKind_is _ _ _ _
  have sc : (Value.str k u).scannable = true := rfl
  have el : ElemsOf (sk P w) es.toList := each_elems T.each
  obtain ⟨o, ho, hex, hd⟩ := T.obj
  unfold setAddHashed setAddHashedIn
  refine wpAny_holding (wpAny_bind (wpAny_setState_of ho hd T.fit ?_))
  dsimp only
  rw [byScan_of sc T.few el]
  simp only [↓reduceIte]
  unfold setAddByScan
  refine wpAny_bind (wpAny_bind (wpAny_rule (wpAny_bind (wpAny_setScan_of ky ho hd T.fit el ?_))))
  cases fi : List.findIdx? (fun e => (sk P w).is k e.2) es.toList with
  | some j =>
    dsimp only
    obtain ⟨hj, pj, _⟩ := List.findIdx?_eq_some_iff_getElem.mp fi
    have hk : k ∈ L := by
      rw [← T.keys, ← (isS_is (T.each _ (List.getElem_mem hj)) k).mp pj]
      exact List.mem_map_of_mem (List.getElem_mem hj)
    exact wpAny_pure (wpAny_pure (q _ s.heap L es ep t (Heap.SameBut.refl a s.heap) T (.inl ⟨hk, rfl⟩)))
  | none =>
    dsimp only
    have hk : k ∉ L := fun z => by
      rw [← T.keys] at z
      obtain ⟨e, he, ee⟩ := List.mem_map.mp z
      have c := List.findIdx?_eq_none_iff.mp fi e he
      rw [(isS_is (T.each e he) k).mpr ee] at c
      cases c
    have gw : ∀ (b : Bool) {s₁ : Shared} {Q' : Unit → Shared → Prop}, Q' () s₁ → wpAny (model P w) A (match b with | true => rule "set.scan.the-table-gave-way" | false => pure ()) Q' E s₁ :=
      fun b _ _ z => by cases b <;> first | exact wpAny_pure z | exact wpAny_rule z
    have pm := layNew_perm t es ((sk P w).hash k) (.str k u)
    have c1 := layNew_fits t es ((sk P w).hash k) (.str k u)
    have c2 := layNew_ris t es ((sk P w).hash k) (.str k u) T.ris
    have c3 := layNew_led t es ((sk P w).hash k) (.str k u)
    generalize layNew t es ((sk P w).hash k) (.str k u) = Z at pm c1 c2 c3 ⊢
    obtain ⟨es1, t1, was, gv⟩ := Z
    dsimp only at pm c1 c2 c3 ⊢
    rw [Array.toList_push] at pm
    have pc : es1.toList.Perm (((sk P w).hash k, Value.str k u) :: es.toList) := pm.trans (List.perm_append_singleton _ _)
    have pk : (es1.toList.map keyS).Perm (k :: L) := by have := pc.map keyS; rw [List.map_cons, T.keys] at this; exact this
    have x1 : ∀ e ∈ es1.toList, IsS P w e := fun e he => (List.mem_cons.mp (pc.mem_iff.mp he)).elim (fun z => ⟨k, u, z⟩) (T.each e)
    have nd : (es1.toList.map keyS).Nodup := pk.nodup_iff.mpr (List.nodup_cons.mpr ⟨hk, T.dif⟩)
    have hb : es1.size < scanBound := by
      have e := pk.length_eq
      rw [List.length_map, Array.length_toList, List.length_cons] at e
      rw [e]; exact room
    have ld : w.params.followText "set-order" = true ∨ t1.led = true := T.led.imp id fun z => by rw [c3]; exact z
    have fin : ∀ h' L' es' ep' t', Heap.SameBut a s.heap h' → Txts P w h' a L' es' ep' t' → L'.Perm (es1.toList.map keyS) → Q true { s with heap := h' } := fun h' L' es' ep' t' sb T' p => q _ h' L' es' ep' t' sb T' (.inr ⟨hk, p.trans pk⟩)
    refine wpAny_bind (gw _ ?_)
    split
    · refine wpAny_bind ?_
      rw [hashByValue_scannable 8 sc]
      refine wpAny_pure ?_
      refine laid_tail ?_ ho hex hd x1 nd hb ?_ ?_ ?_ ?_
      · intro b s₁ Q' z; cases b <;> first | exact wpAny_pure z | exact wpAny_rule z
      · first | (split <;> first | exact c1 | exact SetTable.fits_plain_off c1) | exact c1
      · first | (split <;> exact c2) | exact c2
      · first | (split <;> exact ld) | exact ld
      · intro h' L' es' ep' t' sb T' p; dsimp only; exact wpAny_pure (fin h' L' es' ep' t' sb T' p)
    · refine wpAny_bind (wpAny_pure ?_)
      simp only [↓reduceIte]
      refine laid_tail ?_ ho hex hd x1 nd hb c1 c2 ld ?_
      · intro b s₁ Q' z; cases b <;> first | exact wpAny_pure z | exact wpAny_rule z
      · intro h' L' es' ep' t' sb T' p; dsimp only; exact wpAny_pure (fin h' L' es' ep' t' sb T' p)
/-- what the set holds behind so many texts -/
structure HeldS (ks : List Str) (i : Nat) (L : List Str) : Prop where
  mem : ∀ k, k ∈ L ↔ k ∈ ks.take i
  le : L.length ≤ i
theorem HeldS.next {ks L L' : List Str} {i : Nat} {k : Str} (h : HeldS ks i L) (e : ks[i]? = some k) (c : Onto k L L') : HeldS ks (i + 1) L' := by
  have tk : ks.take (i + 1) = ks.take i ++ [k] := by rw [List.take_add_one, e]; rfl
  rcases c with ⟨c, rfl⟩ | ⟨_, pm⟩
  · refine ⟨fun j => ?_, Nat.le_succ_of_le h.le⟩
    rw [tk, List.mem_append, List.mem_singleton, ← h.mem]
    exact ⟨.inl, fun z => z.elim id fun z => z ▸ c⟩
  · refine ⟨fun j => ?_, by rw [pm.length_eq]; exact Nat.succ_le_succ h.le⟩
    rw [pm.mem_iff, List.mem_cons, tk, List.mem_append, List.mem_singleton, h.mem]
    exact Or.comm
theorem all_txt {I : Addr} {fp wr : List Addr} {G : Array GenState → Array GenState → Prop} {n : Nat} {Pv : Nat → Value → Prop} {St : Nat → Shared → Prop} {R : Result → Shared → Prop} (W : WalksS P w A.in1 I fp wr G n Pv St)
    (S : Addr) (out : S ∉ fp) (ks : List Str) (hn : n = ks.length) (few : ks.length + 1 < scanBound) (val : ∀ i v, Pv i v → ∃ k u, ks[i]? = some k ∧ v = .str k u) (h0 : Heap) (S0 : h0.get? S = none) (w0 : ∀ b ∈ wr, h0.get? b = none)
    (g0 : Array GenState) (d0) (o0)
    (fin : ∀ s' L es ep t, Txts P w s'.heap S L es ep t → HeldS ks n L → (∀ b o, h0.get? b = some o → s'.heap.get? b = some o) → G g0 s'.gens → s'.drawn = d0 → s'.os = o0 → R (.ok (.ret .none)) s') (k : Nat) :
    ∀ (i : Nat) (s : Shared), n - i = k → i ≤ n → St i s → (∀ b o, h0.get? b = some o → s.heap.get? b = some o) → (∃ L es ep t, Txts P w s.heap S L es ep t ∧ HeldS ks i L) → G g0 s.gens → s.drawn = d0 → s.os = o0 →
      codeAny (model P w) A (.builtin "set.update.loop" ⟨[.ref S, .ref I], []⟩) R s := by
  have Sw : S ∉ wr := fun z => out (W.sub _ z)
  induction k with
  | zero =>
    intro i s hk hi st keep ⟨L, es, ep, t, T, H⟩ eg ed eo
    obtain rfl : i = n := by omega
    refine codeAny_builtin F.entry_set_update_loop ?_
    rw [Around.under_plainId F.plain_set_update_loop _]
    show wpAny _ A.in1 (pyNext (.ref I) >>= _) _ _ s
    refine wpAny_bind (W.done s _ _ st fun s' mv => ?_)
    show wpAny _ A.in1 (ret Value.none) _ _ s'
    refine wpAny_pure (fin s' L es ep t (T.on fun o e => mv.heap S o Sw e) H (fun b o e => mv.heap b o (fun z => ?_) (keep b o e)) (W.gtrans _ _ _ eg mv.gens) (mv.drawn.trans ed) (mv.os.trans eo))
    exact nomatch (w0 b z).symm.trans e
  | succ k ih =>
    intro i s hk hi st keep ⟨L, es, ep, t, T, H⟩ eg ed eo
    refine codeAny_builtin F.entry_set_update_loop ?_
    rw [Around.under_plainId F.plain_set_update_loop _]
    show wpAny _ A.in1 (pyNext (.ref I) >>= _) _ _ s
    refine wpAny_bind (W.item i s _ _ (by omega) st fun v s' hv st' mv => ?_)
    obtain ⟨x, u, hx, rfl⟩ := val i v hv
    have keep' : ∀ b o, h0.get? b = some o → s'.heap.get? b = some o := fun b o e => mv.heap b o (fun z => nomatch (w0 b z).symm.trans e) (keep b o e)
    show wpAny _ A.in1 (holding [Value.str x u] (setAdd S (.str x u)) >>= _) _ _ s'
    refine wpAny_bind (wpAny_holding ?_)
    unfold setAdd
    refine wpAny_holding (wpAny_bind ((sk P w).pyHash (k := x) (strKind_is _ _ _ _) ?_))
    refine txt_in (s := { s' with toks := s'.toks + 1 }) (T.on fun o e => mv.heap S o Sw e) (by have := H.le; omega) fun b h' L' es' ep' t' sb T' c => ?_
    refine wpAny_pure ⟨plainId_quiet F.plain_set_update_loop _, ih (i + 1) _ (by omega) (by omega) (W.frame _ s' _ _ st' (Nat.le_add_right _ _) fun b hb o e => ?_) (fun b o e => ?_) ⟨L', es', ep', t', T', H.next hx c⟩ (W.gtrans _ _ _ eg mv.gens) (mv.drawn.trans ed) (mv.os.trans eo)⟩
    · exact (sb.2 b fun z => out (z ▸ hb)).trans e
    · exact (sb.2 b fun z => by rw [z, S0] at e; cases e).trans (keep' b o e)
theorem txts_new {h : Heap} {a : Addr} (ho : h.get? a = some (newSet w)) : Txts P w h a [] #[] 0 (.fresh 0 0 (!w.params.followText "set-order")) where
  obj := ⟨_, ho, ⟨rfl, rfl, rfl⟩, rfl⟩
  each := fun e he => by simp at he
  keys := rfl
  dif := .nil
  few := by decide
  fit := by rfl
  ris := .nil
  led := by
    show _ ∨ (!w.params.followText "set-order") = true
    cases w.params.followText "set-order" <;> simp
/-- set(l), l a list of texts -/
theorem call_setTxt {l : Addr} {items : Array Value} (ks : List Str) {Q : Value → Shared → Prop} (hh : A.handled = none) (hl : s.heap.IsList l items) (hi : ∀ (i : Nat) (v : Value), items[i]? = some v → ∃ k u, ks[i]? = some k ∧ v = .str k u) (hn : items.size = ks.length)
    (few : ks.length + 1 < scanBound)
    (q : ∀ (h' : Heap) (tk : Nat) L es ep t, Txts P w h' s.heap.objs.size L es ep t → HeldS ks ks.length L → (∀ b o, s.heap.get? b = some o → h'.get? b = some o) → Q (.ref s.heap.objs.size) { s with heap := h', toks := tk }) :
    wpAny (model P w) A (call (.type "set") [.ref l]) Q E s := by
  generalize hS : s.heap.objs.size = S at q ⊢
  have free : ∀ b, S ≤ b → s.heap.get? b = none := fun b hb => Heap.get?_none_of_le (hS ▸ hb)
  have lS : l < S := by obtain ⟨o, ho, _⟩ := hl; exact hS ▸ Heap.lt_size ho
  obtain ⟨c, tl, mro⟩ := F.called_set.mro
  have f1 := F.called_set.made
  have f2 := F.called_set.sub
  have f3 := F.called_set.notType
  have f4 := F.called_set.canCreate
  have f5 := F.typeCall_set_1 (.ref l)
  refine wpAny_call (codeAny_of_tree ?_)
  show wpAny _ _ (callAny (.type "set") _) _ _ _
  refine wpAny_pure ⟨Code.quiet_builtin _ (by decide +kernel), codeAny_builtin F.entry_type_call ?_⟩
  rw [Around.under_plain (weight_type_call_type "set" [.ref l] []) rfl]
  repeat (any_goals (first | assumption | wp_step))
  refine codeAny_mono (code_set_led1 (.ref l) (E := E) (Q₁ := fun obj s₁ => obj = .ref S ∧ s₁ = { s with heap := s.heap.push (newSet w) }) ⟨by rw [hS], rfl⟩) fun r s₁ hr => ?_
  match r, hr with
  | .error e, hr => exact hr
  | .ok (.ret obj), hr =>
    obtain ⟨rfl, rfl⟩ := hr
    have at0 : (s.heap.push (newSet w)).get? S = some (newSet w) := hS ▸ Heap.get?_push_size _ rfl
    have ty : Shared.TypeIs { s with heap := s.heap.push (newSet w) } (.ref S) "set" := ⟨_, at0, rfl⟩
    have g1 := F.called_set.init.lookup
    have g2 := F.called_set.init.bind (.ref S)
    repeat (any_goals (first | assumption | wp_step))
    refine codeAny_mono (codeAny_call_builtin (R := wants (fun r s₂ => r = .none ∧ ∃ h' tk L es ep t, s₂ = { s with heap := h', toks := tk } ∧ Txts P w h' S L es ep t ∧ HeldS ks ks.length L ∧ (∀ b o, s.heap.get? b = some o → h'.get? b = some o)) E)
      F.called_set.init.plain F.entry_set_init (check_set_init_1 ty ?_)) fun r₂ s₂ hr₂ => ?_
    · obtain ⟨ol, hol, hcl, nl, hdl⟩ := hl
      obtain ⟨cl, di, da, sl⟩ := ol
      simp only at hcl hdl
      subst hcl hdl
      have ol1 : (s.heap.push (newSet w)).get? l = some { cls := .type "list", dict := di, data := .seq items nl, slots := sl } := Heap.get?_push_of_some _ hol
      have l1 : (s.heap.push (newSet w)).IsList l items := ⟨_, ol1, rfl, nl, rfl⟩
      have b1 := F.sub_list_set
      have b2 := F.sub_list_frozenset
      have b3 : (Value.type "list" == Value.type "dict") = false := by decide
      unfold Builtin.«set.__init__» noKeywords Builtin.Frozenset.updateFrom
      generalize hPI : pyIter = PI
      wp_walk
      subst hPI
      refine wpAny_pyIter_list l1 (wpAny_bind (wpAny_runValue ?_))
      have sz : (s.heap.push (newSet w)).objs.size = S + 1 := by rw [size_push', hS]
      refine all_txt ((Walks.list (A := A.in1.in1.in1) (by simp [hh]) (s.heap.push (newSet w)).objs.size l (by rw [sz]; exact Nat.ne_of_lt (Nat.lt_succ_of_lt lS)) items).toS) S
        (by rw [sz]; simp; exact Nat.ne_of_gt lS) ks hn few hi s.heap (free S (Nat.le_refl _)) (fun b hb => free b (by rw [List.mem_singleton.mp hb, sz]; exact Nat.le_succ _)) s.gens s.drawn s.os ?fin
        (items.size - 0) 0 _ rfl (Nat.zero_le _) ⟨⟨_, Heap.get?_push_size _ rfl, rfl, rfl⟩, l1.push _⟩ (fun b o e => Heap.get?_push_of_some _ (Heap.get?_push_of_some _ e))
        ⟨[], #[], 0, _, txts_new (Heap.get?_push_of_some _ at0), ⟨fun k => by simp, Nat.le_refl _⟩⟩ rfl rfl rfl
      case fin =>
        intro s' L es ep t T H keep eg ed eo
        obtain ⟨h', g, d, tk, os⟩ := s'
        simp only at eg ed eo
        subst eg ed eo
        refine wpAny_pure ?_
        show wpAny _ _ (ret Value.none) _ _ _
        exact wpAny_pure ⟨rfl, h', tk, L, es, ep, t, rfl, T, hn ▸ H, keep⟩
    · match r₂, hr₂ with
      | .error e, hr₂ => exact hr₂
      | .ok (.ret r), hr₂ =>
        obtain ⟨rfl, h', tk, L, es, ep, t, rfl, T, H, keep⟩ := hr₂
        repeat (any_goals (first | assumption | wp_step))
        exact q _ _ _ _ _ _ T H keep
/-- from the order of its sort to a strict one -/
theorem rise_pair : ∀ {p : Str} {l : List Str}, risingS p l = true → (p :: l).Pairwise fun x y => ¬ sg1 y < sg1 x
  | p, [], _ => List.pairwise_singleton _ _
  | p, x :: r, h => by
    obtain ⟨h1, h2⟩ := Bool.and_eq_true_iff.mp (show (!ltCps x.cps.toList p.cps.toList && risingS x r) = true from h)
    have ih := rise_pair h2
    have h0 : ¬ sg1 x < sg1 p := by
      rw [ltCps_eq] at h1
      simpa using h1
    refine List.pairwise_cons.mpr ⟨fun y hy => ?_, ih⟩
    rcases List.mem_cons.mp hy with rfl | hy
    · exact h0
    · refine fun c => (List.pairwise_cons.mp ih).1 y hy ?_
      rcases Decidable.em (sg1 p < sg1 x) with d | d
      · exact List.lt_trans c d
      · rw [List.le_antisymm (List.not_lt.mp d) (List.not_lt.mp h0)]; exact c
theorem rise_all {l : List Str} (h : sortedS l = true) : l.Pairwise fun x y => ¬ sg1 y < sg1 x := by
  cases l with
  | nil => exact .nil
  | cons p r => exact rise_pair h
theorem rise_strict {l : List Str} (h : sortedS l = true) (nd : l.Nodup) : l.Pairwise fun x y => sg1 x < sg1 y := by
  rw [List.nodup_iff_pairwise_ne] at nd
  refine (List.pairwise_and_iff.mpr ⟨rise_all h, nd⟩).imp fun {x y} z => ?_
  rcases Decidable.em (sg1 x < sg1 y) with c | c
  · exact c
  · exact absurd (sg1_inj (List.le_antisymm (List.not_lt.mp z.1) (List.not_lt.mp c))) z.2
theorem strs_from : ∀ (l : List Value), (∀ v ∈ l, ∃ k u, v = Value.str k u) → StrsAre l (l.map fun v => keyS (0, v))
  | [], _ => .nil
  | v :: l, h => by
    obtain ⟨k, u, rfl⟩ := h v List.mem_cons_self
    exact .cons k u (strs_from l fun x hx => h x (.tail _ hx))
theorem sorted_txts {Q : Value → Shared → Prop} (T : Txts P w s.heap a L es ep t) (hh : A.handled = none) (few : L.length < 64)
    (q : ∀ s' p (out : Array Value) (c : Nat) (L' : List Str), (∀ b o, s.heap.get? b = some o → s'.heap.get? b = some o) → s'.gens = s.gens → s'.os = s.os → s.heap.objs.size ≤ p → s'.heap.get? p = some (seqObj "list" out c) →
      StrsAre out.toList L' → L'.Perm L → L'.Pairwise (fun x y => sg1 x < sg1 y) → Q (.ref p) s') :
    wpAny (model P w) A (call (.builtin "sorted") [.ref a]) Q E s := by
  obtain ⟨o, ho, hex, hd⟩ := T.obj
  refine Calls.call_function_entry kind_sorted plain_sorted entry_sorted (args_sorted1 _) ?_
  unfold Builtin.«sorted»
  refine wpAny_bind (m := checkCount "sorted" 1 1 _) (wpAny_pure ?_)
  refine wpAny_bind (collect_set (A := A.in1) hh ⟨o, ho, hex.1, hd⟩ T.fit T.few T.ris T.led fun s1 vs k1 hz g1 o1 pm => ?_)
  have vl : vs.length = L.length := by rw [pm.length_eq, List.length_map, Array.length_toList, T.len]
  have hs : StrsAre vs (vs.map fun v => keyS (0, v)) := strs_from vs fun v hv => by
    obtain ⟨e, he, rfl⟩ := List.mem_map.mp (pm.mem_iff.mp hv)
    obtain ⟨k, u, rfl⟩ := T.each e he
    exact ⟨k, u, rfl⟩
  have pk : (vs.map fun v => keyS (0, v)).Perm L := by
    have z := pm.map fun v => keyS (0, v)
    rw [List.map_map] at z
    rw [← T.keys]
    exact z
  refine wpAny_bind (wpAny_newList ?_ (by rw [vl, sizeLine_eq]; omega))
  have oL : (s1.heap.push (seqObj "list" vs.toArray 0)).get? s1.heap.objs.size = some (seqObj "list" vs.toArray 0) := Heap.get?_push_size _ rfl
  refine wpAny_bind (wpAny_holding (wpAny_call_entry slot_list_sort ⟨_, oL, rfl⟩ entry_list_sort (list_sort_treeK strKind_oneLt oL hs.keysOf (fun v₁ v₂ rest e => keyKind_strs (by rw [← e]; exact hs)) (by rw [vl]; exact few) fun st' a1 a2 => ⟨_, rfl, ?_⟩) (args_list_sort _)))
  obtain ⟨ss, b1, b2, b3⟩ := sorted_out_str hs a1 a2
  obtain ⟨c, hc⟩ := sortedHeap_at (vs := vs) (out := (arrOf st').map (·.2)) oL
  have pL := b2.trans pk
  refine wpAny_pure ⟨_, rfl, q _ _ _ c ss (fun b u e => ?_) g1 o1 hz hc b1 pL (rise_strict b3 (pL.nodup_iff.mpr T.dif))⟩
  have e1 := k1 b u e
  have lt := Heap.lt_size e1
  show (sortedHeap (s1.heap.push (seqObj "list" vs.toArray 0)) s1.heap.objs.size vs _).get? b = some u
  rw [sortedHeap_old (Nat.ne_of_lt lt) (by rw [size_push']; exact Nat.lt_succ_of_lt lt)]
  exact Heap.get?_push_of_some _ e1
end
/-! ### over the abstract heap -/
def SetT (P : Program) (w : World) (a : Addr) (L : List Str) : HO := .ext fun h => ∃ es ep t, Txts P w h a L es ep t
theorem setT_new {P : Program} {w : World} {H : Hp} {h : Heap} {a : Addr} {L : List Str} (R : ∃ es ep t, Txts P w h a L es ep t) : ObjOk P w H h a (SetT P w a L) := by
  have ⟨es, ep, t, T⟩ := R
  have ⟨o, ho, _⟩ := T.obj
  exact ⟨R, ⟨o, ho⟩, fun h1 h2 ⟨es, ep, t, T⟩ k => ⟨es, ep, t, T.on k⟩⟩
theorem vals_at : ∀ {ks : List Str} {us : List Value}, Vals (ks.map V.str) us → ∀ (i : Nat) (v : Value), us[i]? = some v → ∃ k u, ks[i]? = some k ∧ v = .str k u
  | _ :: _, _, .cons r t, 0, v, e => by obtain ⟨u, rfl⟩ := r; cases e; exact ⟨_, u, rfl, rfl⟩
  | _ :: _, _, .cons r t, i + 1, v, e => vals_at t i v e
  | [], _, .nil, i, v, e => by simp at e
theorem vals_strs : ∀ {vs : List Value} {ks : List Str}, StrsAre vs ks → Vals (ks.map V.str) vs
  | _, _, .nil => .nil
  | _, _, .cons k u t => .cons ⟨u, rfl⟩ (vals_strs t)
section
variable {X : Cx}
/-- set(l) -/
def rSetT (K : PySem.W.Frag) (P : Program) (w : World) : List V → Hp → VK → Prop := fun xs H Q => ∃ (l : Addr) (ks : List Str), xs = [V.ref l] ∧ SqL K H l (ks.map V.str) ∧ ks.length < 64 ∧
  ∀ a L, H a = none → (∀ k, k ∈ L ↔ k ∈ ks) → L.length ≤ ks.length → Q (.ref a) (upd H a (SetT P w a L))
theorem cr_setT (hc : X.calm = true) : CallR X (.type "set") (rSetT X.K X.prog X.w) := by
  intro pins s σ H xs us Q I r h
  obtain ⟨l, ks, rfl, hl, few, q⟩ := h
  rw [Vals.ref1 r]
  obtain ⟨its, rv, pl, _⟩ := I.list hl
  refine call_setTxt (P := X.prog) (w := X.w) ks (I.ok.hd hc) pl.isList (fun i v e => vals_at rv i v (by simpa using e)) (by rw [List.size_toArray, ← rv.length, List.length_map]) (by unfold scanBound; omega) fun h' tk L es ep t T Hd keep => ?_
  refine ⟨.ref s.heap.objs.size, upd H s.heap.objs.size (SetT X.prog X.w s.heap.objs.size L), I.laid (t' := tk) keep (Nat.le_refl _) (setT_new ⟨es, ep, t, T⟩), rfl, q _ L (I.hok.fresh (Nat.le_refl _)) (fun k => ?_) Hd.le⟩
  rw [Hd.mem, List.take_length]
/-- sorted(a set) -/
def rSortT (P : Program) (w : World) : List V → Hp → VK → Prop := fun vs H Q => ∃ (a : Addr) (L : List Str), vs = [V.ref a] ∧ H a = some (SetT P w a L) ∧ L.length < 64 ∧
  ∀ (L' : List Str) (p : Addr), L'.Perm L → L'.Pairwise (fun x y => sg1 x < sg1 y) → H p = none → Q (.ref p) (upd H p (.lst (L'.map V.str)))
theorem cr_sortT (hc : X.calm = true) : CallR X (.builtin "sorted") (rSortT X.prog X.w) := by
  intro pins s σ H vs us Q I r h
  obtain ⟨a, L, rfl, ha, few, q⟩ := h
  obtain ⟨es, ep, t, T⟩ : ∃ es ep t, Txts X.prog X.w s.heap a L es ep t := (I.hok a _ ha).1
  rw [Vals.ref1 r]
  refine sorted_txts T (I.ok.hd hc) few fun s' p out c L' keep g o hp hg eo pm pw => ?_
  have hn : H p = none := I.hok.fresh hp
  have J : Inv X pins σ (upd H p (.lst (L'.map V.str))) { s with heap := s'.heap, gens := s'.gens, drawn := s'.drawn, toks := s'.toks } :=
    I.call (ch := []) (Un.laid keep hp hn) (I.hok.laid keep hp ⟨by rw [List.length_map, pm.length_eq, sizeLine_eq]; omega, out.toList, c, vals_strs eo, hg⟩) (by rw [g]; exact I.bare) (fun _ z => nomatch z)
  obtain ⟨h1, g1, d1, t1, o1⟩ := s'
  simp only at o
  subst o
  exact ⟨.ref p, _, J, rfl, q L' p pm pw hn⟩
end
end Tq

/-! Lines, and what is said of them. -/
namespace Rd
open PySem PySem.Spec PyProof.Rows L2 Tq
inductive Ln where
  | go (n : Nat)
  | ift (t p : Str) (n : Nat)
  | look (t p : Str)
  | read (t p : Str)
  deriving DecidableEq
def Ln.vs : Ln → List V
  | .go n => [.str "go", .int n]
  | .ift t p n => [.str "if", .str t, .str p, .int n]
  | .look t p => [.str "look", .str t, .str p]
  | .read t p => [.str "read", .str t, .str p]
def Ln.ds : Ln → List PyData
  | .go n => [.str "go", .int n]
  | .ift t p n => [.str "if", .str t, .str p, .int n]
  | .look t p => [.str "look", .str t, .str p]
  | .read t p => [.str "read", .str t, .str p]
abbrev Ln.d (l : Ln) : PyData := .tuple l.ds
def Ln.word : Ln → Str
  | .go _ => "go"
  | .ift .. => "if"
  | .look .. => "look"
  | .read .. => "read"
/-- table and part -/
def Ln.key : Ln → List Str
  | .go _ => []
  | .ift t p _ => [t, p]
  | .look t p => [t, p]
  | .read t p => [t, p]
def nameS (s : Str) : Bool := decide (1 ≤ s.length) && decide (s.length ≤ 8) && s.cps.toList.all fun c => decide (97 ≤ c) && decide (c ≤ 122)
def nameD : PyData → Bool
  | .str s => nameS s
  | _ => false
def numD (d : PyData) (most : Int) : Bool := match d with
  | .int i => decide (0 ≤ i) && decide (i ≤ most)
  | _ => false
def lineT (ds : List PyData) (many : Int) : Bool :=
  if PyData.eqv (ds.getD 0 .none) (.str "go") = true then decide (ds.length = 2) && numD (ds.getD 1 .none) many
  else if PyData.eqv (ds.getD 0 .none) (.str "if") = true then decide (ds.length = 4) && ((((ds.drop 1).take 2).all nameD) && numD (ds.getD 3 .none) many)
  else (PyData.eqv (.str "read") (ds.getD 0 .none) || (PyData.eqv (.str "look") (ds.getD 0 .none) || false)) && (decide (ds.length = 3) && (ds.drop 1).all nameD)
def lineD (d : PyData) (many : Int) : Bool := match d with
  | .tuple ds => if ds.length < 2 then false else lineT ds many
  | _ => false
/-- a line as drawn -/
def Ln.fine (most : Nat) : Ln → Bool
  | .go n => decide (n ≤ most)
  | .ift t p n => nameS t && (nameS p && decide (n ≤ most))
  | .look t p => nameS t && nameS p
  | .read t p => nameS t && nameS p
theorem eqv_str (x y : Str) : PyData.eqv (.str x) (.str y) = decide (x = y) := by
  simp only [PyData.eqv]
  by_cases h : x = y
  · subst h; simp
  · rw [decide_eq_false h]; exact beq_eq_false_iff_ne.mpr h
theorem lineT_str (x : Str) (r : List PyData) (many : Int) : lineT (.str x :: r) many = (if x = "go" then decide (r.length = 1) && numD (r.getD 0 .none) many
    else if x = "if" then decide (r.length = 3) && (((r.take 2).all nameD) && numD (r.getD 2 .none) many) else (decide (("read" : Str) = x) || decide (("look" : Str) = x)) && (decide (r.length = 2) && r.all nameD)) := by
  unfold lineT
  simp only [List.getD_cons_zero, eqv_str, decide_eq_true_eq, List.length_cons, List.drop_succ_cons, List.drop_zero, List.getD_cons_succ, Bool.or_false, Nat.reduceEqDiff]
theorem ne1 : ¬ (("if" : Str) = "go") := by decide +kernel
theorem ne2 : ¬ (("look" : Str) = "go") := by decide +kernel
theorem ne3 : ¬ (("read" : Str) = "go") := by decide +kernel
theorem ne4 : ¬ (("look" : Str) = "if") := by decide +kernel
theorem ne5 : ¬ (("read" : Str) = "if") := by decide +kernel
theorem ne6 : ¬ (("read" : Str) = "look") := by decide +kernel
theorem fine_line {l : Ln} {most : Nat} (h : l.fine most = true) : lineD l.d most = true := by
  cases l with
  | go n =>
    have h' : n ≤ most := of_decide_eq_true h
    show lineT (.str "go" :: [.int n]) most = true
    rw [lineT_str, if_pos rfl]
    simp [numD]; omega
  | ift t p n =>
    simp only [Ln.fine, Bool.and_eq_true, decide_eq_true_eq] at h
    show lineT (.str "if" :: [.str t, .str p, .int n]) most = true
    rw [lineT_str, if_neg ne1, if_pos rfl]
    simp [numD, nameD, h.1, h.2.1]; omega
  | look t p =>
    simp only [Ln.fine, Bool.and_eq_true] at h
    show lineT (.str "look" :: [.str t, .str p]) most = true
    rw [lineT_str, if_neg ne2, if_neg ne4]
    simp [nameD, h.1, h.2]
  | read t p =>
    simp only [Ln.fine, Bool.and_eq_true] at h
    show lineT (.str "read" :: [.str t, .str p]) most = true
    rw [lineT_str, if_neg ne3, if_neg ne5]
    simp [nameD, h.1, h.2]
theorem nameS_ok {x : Str} (h : nameS x = true) : PyData.strOk x = true := by
  have h1 : (x.cps.toList.all fun c => decide (97 ≤ c) && decide (c ≤ 122)) = true := (Bool.and_eq_true_iff.mp h).2
  show x.cps.all (fun c => decide (c < 0x110000)) = true
  rw [← Array.all_toList]
  refine List.all_eq_true.mpr fun c hc => ?_
  have := List.all_eq_true.mp h1 c hc
  simp only [Bool.and_eq_true, decide_eq_true_eq] at this ⊢
  omega
def Ln.safe (l : Ln) : Prop := ∀ x ∈ l.key, PyData.strOk x = true
theorem fine_safe {l : Ln} {m : Nat} (h : l.fine m = true) : l.safe := by
  intro x hx
  cases l with
  | go n => cases hx
  | ift t p n =>
    simp only [Ln.fine, Bool.and_eq_true] at h
    rcases List.mem_cons.mp hx with rfl | hx
    · exact nameS_ok h.1
    · rw [List.mem_singleton.mp hx]; exact nameS_ok h.2.1
  | look t p =>
    simp only [Ln.fine, Bool.and_eq_true] at h
    rcases List.mem_cons.mp hx with rfl | hx
    · exact nameS_ok h.1
    · rw [List.mem_singleton.mp hx]; exact nameS_ok h.2
  | read t p =>
    simp only [Ln.fine, Bool.and_eq_true] at h
    rcases List.mem_cons.mp hx with rfl | hx
    · exact nameS_ok h.1
    · rw [List.mem_singleton.mp hx]; exact nameS_ok h.2
theorem w_ok : PyData.strOk "go" = true ∧ PyData.strOk "if" = true ∧ PyData.strOk "look" = true ∧ PyData.strOk "read" = true := ⟨by decide +kernel, by decide +kernel, by decide +kernel, by decide +kernel⟩
theorem ln_lay {l : Ln} (h : l.safe) : l.d.canLay0 = true := by
  obtain ⟨w1, w2, w3, w4⟩ := w_ok
  cases l with
  | go n => simp [Ln.d, Ln.ds, PyData.canLay0, PyData.canLayAll0, w1]
  | ift t p n => simp [Ln.d, Ln.ds, PyData.canLay0, PyData.canLayAll0, w2, h t List.mem_cons_self, h p (.tail _ List.mem_cons_self)]
  | look t p => simp [Ln.d, Ln.ds, PyData.canLay0, PyData.canLayAll0, w3, h t List.mem_cons_self, h p (.tail _ List.mem_cons_self)]
  | read t p => simp [Ln.d, Ln.ds, PyData.canLay0, PyData.canLayAll0, w4, h t List.mem_cons_self, h p (.tail _ List.mem_cons_self)]
theorem ln_depth (l : Ln) : l.d.depth ≤ 1 := by cases l <;> simp [Ln.d, Ln.ds, PyData.depth, PyData.depthAll]
theorem ln_shaped {l : Ln} (z : l.safe) : SeqAt.shaped l.d = true := by
  have h := ln_depth l
  show (l.d.canLay0 && decide (l.d.depth ≤ 64)) = true
  rw [Bool.and_eq_true]
  exact ⟨ln_lay z, decide_eq_true (by omega)⟩
theorem lns_lay : ∀ ls : List Ln, (∀ l ∈ ls, l.safe) → PyData.canLayAll0 (ls.map Ln.d) = true
  | [], _ => by simp [PyData.canLayAll0]
  | l :: ls, h => by simp only [List.map_cons, PyData.canLayAll0, ln_lay (h l List.mem_cons_self), lns_lay ls fun k hk => h k (.tail _ hk), Bool.and_true]
theorem lns_depth : ∀ ls : List Ln, PyData.depthAll (ls.map Ln.d) ≤ 1
  | [] => by simp [PyData.depthAll]
  | l :: ls => by
    have h1 := ln_depth l
    have h2 := lns_depth ls
    simp only [List.map_cons, PyData.depthAll]
    omega
abbrev dls (ls : List Ln) : PyData := .tuple (ls.map Ln.d)
theorem dls_shaped {ls : List Ln} (z : ∀ l ∈ ls, l.safe) : SeqAt.shaped (dls ls) = true := by
  have h1 := lns_depth ls
  have h2 : PyData.depth (dls ls) ≤ 64 := by simp only [PyData.depth]; omega
  show (PyData.canLay0 (dls ls) && decide (PyData.depth (dls ls) ≤ 64)) = true
  rw [Bool.and_eq_true]
  exact ⟨by simp only [PyData.canLay0]; exact lns_lay ls z, decide_eq_true h2⟩
theorem eqv_int (m n : Nat) : PyData.eqv (.int m) (.int n) = decide (m = n) := by
  simp only [PyData.eqv]
  by_cases h : m = n
  · subst h; simp
  · rw [decide_eq_false h]; exact beq_eq_false_iff_ne.mpr (by omega)
theorem all_cons (x y : PyData) (xs ys : List PyData) : PyData.eqvAll (x :: xs) (y :: ys) = (PyData.eqv x y && PyData.eqvAll xs ys) := by simp only [PyData.eqvAll]
theorem all_nil : PyData.eqvAll [] [] = true := by simp only [PyData.eqvAll]
theorem all_nc (y : PyData) (ys : List PyData) : PyData.eqvAll [] (y :: ys) = false := by simp only [PyData.eqvAll]
theorem all_cn (y : PyData) (ys : List PyData) : PyData.eqvAll (y :: ys) [] = false := by simp only [PyData.eqvAll]
theorem tup_eqv (xs ys : List PyData) : PyData.eqv (.tuple xs) (.tuple ys) = PyData.eqvAll xs ys := by simp only [PyData.eqv]
theorem ln_eqv (l k : Ln) : PyData.eqv l.d k.d = decide (l = k) := by
  have n1 : decide (("look" : Str) = "read") = false := by decide +kernel
  have n2 : decide (("read" : Str) = "look") = false := by decide +kernel
  cases l <;> cases k <;> simp only [Ln.d, Ln.ds, tup_eqv, all_cons, all_nil, all_nc, all_cn, eqv_str, eqv_int, Bool.and_true, Bool.and_false, n1, n2, Bool.false_and, reduceCtorEq, decide_false, Ln.go.injEq, Ln.ift.injEq, Ln.look.injEq, Ln.read.injEq, Bool.decide_and, decide_true, Bool.true_and]
theorem lns_eqv : ∀ ls ks : List Ln, PyData.eqvAll (ls.map Ln.d) (ks.map Ln.d) = decide (ls = ks)
  | [], [] => by simp [PyData.eqvAll]
  | [], _ :: _ => by simp [PyData.eqvAll]
  | _ :: _, [] => by simp [PyData.eqvAll]
  | l :: ls, k :: ks => by
    rw [List.map_cons, List.map_cons, all_cons, ln_eqv, lns_eqv ls ks]
    by_cases h1 : l = k <;> by_cases h2 : ls = ks <;> simp [h1, h2]
theorem dls_eqv (ls ks : List Ln) : PyData.eqv (dls ls) (dls ks) = decide (ls = ks) := by rw [tup_eqv, lns_eqv]
/-! ### what rises, without repetition, and has just these -/
structure Asc (ks ps : List (List Str)) : Prop where
  up : ps.Pairwise fun x y => tlt x y = true
  mem : ∀ k, k ∈ ps ↔ k ∈ ks
theorem asc_one : ∀ {ps qs : List (List Str)}, ps.Pairwise (fun x y => tlt x y = true) → qs.Pairwise (fun x y => tlt x y = true) → (∀ k, k ∈ ps ↔ k ∈ qs) → ps = qs
  | [], [], _, _, _ => rfl
  | [], q :: qs, _, _, h => absurd ((h q).mpr List.mem_cons_self) (List.not_mem_nil)
  | p :: ps, [], _, _, h => absurd ((h p).mp List.mem_cons_self) (List.not_mem_nil)
  | p :: ps, q :: qs, h1, h2, h => by
    obtain ⟨a1, a2⟩ := List.pairwise_cons.mp h1
    obtain ⟨b1, b2⟩ := List.pairwise_cons.mp h2
    have e : p = q := by
      rcases List.mem_cons.mp ((h p).mp List.mem_cons_self) with z | z
      · exact z
      · rcases List.mem_cons.mp ((h q).mpr List.mem_cons_self) with y | y
        · exact y.symm
        · have c := b1 p z
          have d := a1 q y
          rw [tlt_asym c] at d
          cases d
    subst e
    rw [asc_one a2 b2 fun k => ?_]
    constructor
    · intro z
      rcases List.mem_cons.mp ((h k).mp (.tail _ z)) with y | y
      · subst y; have := a1 k z; rw [tlt_irr] at this; cases this
      · exact y
    · intro z
      rcases List.mem_cons.mp ((h k).mpr (.tail _ z)) with y | y
      · subst y; have := b1 k z; rw [tlt_irr] at this; cases this
      · exact y
theorem Asc.eq {ks ps qs : List (List Str)} (a : Asc ks ps) (b : Asc ks qs) : ps = qs := asc_one a.up b.up fun k => (a.mem k).trans (b.mem k).symm
theorem up_nodup {ps : List (List Str)} (h : ps.Pairwise fun x y => tlt x y = true) : ps.Nodup := List.nodup_iff_pairwise_ne.mpr (h.imp fun {x y} z e => by subst e; rw [tlt_irr] at z; cases z)
structure AscS (ks ps : List Str) : Prop where
  up : ps.Pairwise fun x y => sg1 x < sg1 y
  mem : ∀ k, k ∈ ps ↔ k ∈ ks
theorem ascS_one : ∀ {ps qs : List Str}, ps.Pairwise (fun x y => sg1 x < sg1 y) → qs.Pairwise (fun x y => sg1 x < sg1 y) → (∀ k, k ∈ ps ↔ k ∈ qs) → ps = qs
  | [], [], _, _, _ => rfl
  | [], q :: qs, _, _, h => absurd ((h q).mpr List.mem_cons_self) (List.not_mem_nil)
  | p :: ps, [], _, _, h => absurd ((h p).mp List.mem_cons_self) (List.not_mem_nil)
  | p :: ps, q :: qs, h1, h2, h => by
    obtain ⟨a1, a2⟩ := List.pairwise_cons.mp h1
    obtain ⟨b1, b2⟩ := List.pairwise_cons.mp h2
    have e : p = q := by
      rcases List.mem_cons.mp ((h p).mp List.mem_cons_self) with z | z
      · exact z
      · rcases List.mem_cons.mp ((h q).mpr List.mem_cons_self) with y | y
        · exact y.symm
        · exact absurd (List.lt_trans (b1 p z) (a1 q y)) (List.lt_irrefl _)
    subst e
    rw [ascS_one a2 b2 fun k => ?_]
    constructor
    · intro z
      rcases List.mem_cons.mp ((h k).mp (.tail _ z)) with y | y
      · subst y; exact absurd (a1 k z) (List.lt_irrefl _)
      · exact y
    · intro z
      rcases List.mem_cons.mp ((h k).mpr (.tail _ z)) with y | y
      · subst y; exact absurd (b1 k z) (List.lt_irrefl _)
      · exact y
theorem AscS.eq {ks ps qs : List Str} (a : AscS ks ps) (b : AscS ks qs) : ps = qs := ascS_one a.up b.up fun k => (a.mem k).trans (b.mem k).symm
/-- the pairs of a reader's lines with one of these words -/
def keysOf (ws : List Str) (ls : List Ln) : List (List Str) := (ls.filter fun l => ws.contains l.word).map Ln.key
/-- pairs as data -/
def pD (k : List Str) : PyData := .tuple (k.map PyData.str)
abbrev pDs (ps : List (List Str)) : PyData := .tuple (ps.map pD)
theorem sD_lay : ∀ k : List Str, (∀ x ∈ k, PyData.strOk x = true) → PyData.canLayAll0 (k.map PyData.str) = true
  | [], _ => by simp [PyData.canLayAll0]
  | x :: k, h => by simp only [List.map_cons, PyData.canLayAll0, sD_lay k fun y hy => h y (.tail _ hy), PyData.canLay0, h x List.mem_cons_self, Bool.and_true]
theorem sD_depth : ∀ k : List Str, PyData.depthAll (k.map PyData.str) = 0
  | [] => by simp [PyData.depthAll]
  | x :: k => by simp only [List.map_cons, PyData.depthAll, sD_depth k, PyData.depth]; omega
theorem pD_lay {k : List Str} (h : ∀ x ∈ k, PyData.strOk x = true) : (pD k).canLay0 = true := by simp only [pD, PyData.canLay0]; exact sD_lay k h
theorem pD_depth (k : List Str) : (pD k).depth = 1 := by simp only [pD, PyData.depth, sD_depth]
theorem pDs_lay : ∀ ps : List (List Str), (∀ p ∈ ps, ∀ x ∈ p, PyData.strOk x = true) → PyData.canLayAll0 (ps.map pD) = true
  | [], _ => by simp [PyData.canLayAll0]
  | p :: ps, h => by simp only [List.map_cons, PyData.canLayAll0, pD_lay (h p List.mem_cons_self), pDs_lay ps fun q hq => h q (.tail _ hq), Bool.and_true]
theorem pDs_depth : ∀ ps : List (List Str), PyData.depthAll (ps.map pD) ≤ 1
  | [] => by simp [PyData.depthAll]
  | p :: ps => by
    have h1 := pD_depth p
    have h2 := pDs_depth ps
    simp only [List.map_cons, PyData.depthAll]
    omega
end Rd

namespace Dc
open PySem PySem.Spec PyProof.Rows L2
def top (i : Nat) : Stmt := PySem.Challenge.pw_asunmoved_k19_readers_that_fit.main.body.getD i (.Pass ⟨0, 0, 0, 0⟩)
abbrev sDice : Stmt := top 48
abbrev sRoll : Stmt := top 49
abbrev sOne : Stmt := top 50
/-- the generator of numbers stands at p -/
def DiceAt (H : Hp) (p : Addr) : Prop := ∃ a b c : Int, H p = some (.lst [.int a, .int b, .int c]) ∧ 0 ≤ a
/-- all that is tracked is kept, but for the object at p -/
def Keep (p : Addr) (H H' : Hp) : Prop := ∀ b o, b ≠ p → H b = some o → H' b = some o
theorem Keep.refl {p : Addr} {H : Hp} : Keep p H H := fun _ _ _ h => h
theorem Keep.trans {p : Addr} {H H1 H2 : Hp} (a : Keep p H H1) (b : Keep p H1 H2) : Keep p H H2 := fun c o n h => b c o n (a c o n h)
theorem keep_upd {p : Addr} {H : Hp} {o : HO} : Keep p H (upd H p o) := fun b u n h => by rw [upd_ne n]; exact h
theorem keep_new {p q : Addr} {H : Hp} {o : HO} (hq : H q = none) : Keep p H (upd H q o) := fun b u n h => by rw [upd_ne (ne_of_none h hq)]; exact h

theorem DiceAt.upd {p : Addr} {H : Hp} {a b c : Int} (h : 0 ≤ a) : DiceAt (upd H p (.lst [.int a, .int b, .int c])) p := ⟨a, b, c, upd_same, h⟩
structure TxB (K : PySem.W.Frag) (mg : Str → Option Value) : Prop where
  len : mg "len" = none
  int : mg "int" = none
  abs : mg "abs" = none
  max : mg "max" = none
  list : mg "list" = none
  range : mg "range" = none

theorem tt_yes {σ : L2.St} {H : Hp} {A B : Hp → Prop} (h : A H) : tYes σ H (fun b H3 => if b = true then A H3 else B H3) := by
  show (if true = true then A H else B H)
  rw [if_pos rfl]
  exact h
/-- x ** n with a bound by bits -/
theorem op_powB {X : Cx} : OpR X (binaryOp .Pow) (rI (fun i j => 0 ≤ j ∧ (Builtin.Int.intBits i : Int) * j ≤ 2 ^ 27) fun i j => .int (i ^ j.toNat)) :=
  opI fun _ _ _ _ _ _ _ hc q => pow_int hc.1 hc.2 q

def spDice (K : PySem.W.Frag) : Sp := fun vs H Q _ => ∃ (a : Addr) (ns : List Int) (i : Nat), vs = [.ref a, .int (i : Int)] ∧ SqL K H a (ns.map V.int) ∧ i ≤ 1000 ∧
  ∀ (p : Addr) (x y : Int), H p = none → 0 ≤ x → Q (.ref p) (upd H p (.lst [.int x, .int y, .int 0]))
def spRoll : Sp := fun vs H Q _ => ∃ (p : Addr) (n : Int) (a b c : Int), vs = [.ref p, .int n] ∧ H p = some (.lst [.int a, .int b, .int c]) ∧ 0 ≤ a ∧ 0 < n ∧ n < 2 ^ 40 ∧
  ∀ (r x y z : Int), 0 ≤ r → r < n → 0 ≤ x → Q (.int r) (upd H p (.lst [.int x, .int y, .int z]))
section
variable {P : Program} {w : World} {K : PySem.W.Frag} {mg : Str → Option Value} {base : Heap}
theorem scD : FnScope ["_law_script", "_law_at", "_law_cell", "_law_great", "_law_mixed"] ["_law_script", "_law_at"] (defScope sDice) := ⟨rfl, rfl, rfl, by decide +kernel, rfl, by decide +kernel, by decide +kernel⟩
theorem scR : FnScope ["_law_dice_here", "_law_total", "_law_found", "_law_one", "_law_two"] ["_law_dice_here", "_law_total"] (defScope sRoll) := ⟨rfl, rfl, rfl, by decide +kernel, rfl, by decide +kernel, by decide +kernel⟩

theorem big_ne : (((10 : Int) ^ Int.toNat 60) ^ Int.toNat 11) ≠ 0 := by decide +kernel
theorem fmod_in {a n : Int} (h : 0 < n) : 0 ≤ a.fmod n ∧ a.fmod n < n := ⟨Int.fmod_nonneg_of_pos _ h, Int.fmod_lt_of_pos _ h⟩
theorem mul_left_ok {a n : Int} (h : 0 < n) (hn : n < 2 ^ 64) {j : Int} : CMul (a.fmod n) j := .inl ⟨by have := (fmod_in (a := a) h).1; omega, by have := (fmod_in (a := a) h).2; omega⟩
theorem ok_dice {f : Addr} {fd : FuncData} (F : Fun K "_law_dice" "_law_dice" sDice f fd) (T : TxB K mg) : FnOk P w K mg base CX0 1 f fd ["_law_script", "_law_at"] (spDice K) := by
  refine F.ok scD (fun vs H Q E h => ?_) (fun cdv A outer s H vs Q E hr h => ?_)
  · obtain ⟨a, ns, i, rfl, _⟩ := h
    rfl
  · obtain ⟨a, ns, i, rfl, hS, hi, k⟩ := h
    refine ⟨_, pss_cons (ps_set (i := 2) scD.nd rfl (Or.inl rfl) (pe_op op_add (pe_op op_mul pe_int (pv 1)) pe_int))
      (pss_cons (ps_if (pt_cmpR op_lt (pv 1) (pe_callB call_len_seq (by rfl) T.len PySem.boot_len (pa_cons (pv 0) pa_nil)) (nomark _)) (pss_one (ps_set (i := 2) scD.nd rfl (Or.inl rfl) (pe_ix ix_list (pv 0) (pv 1) (fun _ _ => rfl)))) pss_nil)
      (pss_cons (ps_set (i := 3) scD.nd rfl (Or.inl rfl) (pe_op op_modN (pe_callTy call_int1 (by rfl) T.int PyProof.Rows.boot_int (pa_cons (pe_callB call_abs (by rfl) T.abs PyProof.Rows.boot_abs (pa_cons (pv 2) pa_nil)) pa_nil)) (pe_op op_powB (pe_op op_pow pe_int pe_int) pe_int)))
      (pss_cons (ps_set (i := 4) scD.nd rfl (Or.inl rfl) (pe_op op_add (pe_op op_add (pe_op op_add (pe_op op_mul (pe_op op_modN (pe_callTy call_int1 (by rfl) T.int PyProof.Rows.boot_int (pa_cons (pv 3) pa_nil)) pe_int) pe_int) (pe_op op_mul pe_int (pv 1)))
          (pe_op op_mul pe_int (pe_callTy call_int1 (by rfl) T.int PyProof.Rows.boot_int (pa_cons (pe_cmpR op_lt (pv 2) pe_int (nomark _)) pa_nil)))) pe_int))
      (pss_one (ps_ret (pe_lst (pa_cons (pe_callB (call_max2 rfl) (by rfl) T.max PyProof.Rows.boot_max (pa_cons pe_int (pa_cons (pe_op op_sub (pv 3) (pe_op op_pow pe_int pe_int)) pa_nil)))
          (pa_cons (pe_op op_modN (pe_callTy call_int1 (by rfl) T.int PyProof.Rows.boot_int (pa_cons (pv 4) pa_nil)) pe_int) (pa_cons pe_int pa_nil))))))))), ?_⟩
    refine ⟨_, rfl, _, _, rfl, rfl, (.inl ⟨by decide, by decide⟩), _, _, rfl, rfl, ?_⟩
    -- if _law_at < len(_law_script)
    refine ⟨_, rfl, _, rfl, a, _, rfl, .inl hS, _, _, rfl, rfl, _, rfl, ?_⟩
    refine ite2 (fun hlt => ?_) (fun hge => ?_)
    · have hl : i < ns.length := by
        have q := of_decide_eq_true hlt
        rw [List.length_map] at q
        omega
      refine ⟨_, rfl, _, rfl, a, _, _, V.int ns[i], rfl, rfl, hS, atI_nat (by rw [List.getElem?_map, List.getElem?_eq_getElem hl]; rfl), ?_⟩
      refine ⟨_, rfl, _, rfl, .inl ⟨_, rfl, _, _, rfl, rfl, ⟨by decide, by decide, by decide⟩, _, _, rfl, rfl, ⟨by decide, by decide +kernel⟩, _, _, rfl, rfl, big_ne, ?_⟩⟩
      refine ⟨_, rfl, .inl ⟨_, rfl, _, _, rfl, rfl, (show (2147483477 : Int) ≠ 0 by decide), _, _, rfl, rfl, .inr ⟨by decide, by decide⟩, _, rfl, _, _, rfl, rfl, .inl ⟨by decide, by decide⟩, _, _, rfl, rfl,
        _, rfl, _, _, rfl, rfl, .inr ⟨_, rfl, _, _, rfl, rfl, .inl ⟨by decide, by decide⟩, _, _, rfl, rfl, _, _, rfl, rfl, ?_⟩⟩⟩
      refine ⟨_, rfl, _, _, rfl, rfl, ⟨by decide, by decide, by decide⟩, _, _, rfl, rfl, _, _, rfl, _, rfl, .inl ⟨_, rfl, _, _, rfl, rfl, (show (2147483399 : Int) ≠ 0 by decide), (by show 3 ≤ sizeLine; decide), fun p hp => ?_⟩⟩
      exact k p _ _ hp (by split <;> omega)
    · refine ⟨_, rfl, _, rfl, .inl ⟨_, rfl, _, _, rfl, rfl, ⟨by decide, by decide, by decide⟩, _, _, rfl, rfl, ⟨by decide, by decide +kernel⟩, _, _, rfl, rfl, big_ne, ?_⟩⟩
      refine ⟨_, rfl, .inl ⟨_, rfl, _, _, rfl, rfl, (show (2147483477 : Int) ≠ 0 by decide), _, _, rfl, rfl, .inr ⟨by decide, by decide⟩, _, rfl, _, _, rfl, rfl, .inl ⟨by decide, by decide⟩, _, _, rfl, rfl,
        _, rfl, _, _, rfl, rfl, .inr ⟨_, rfl, _, _, rfl, rfl, .inl ⟨by decide, by decide⟩, _, _, rfl, rfl, _, _, rfl, rfl, ?_⟩⟩⟩
      refine ⟨_, rfl, _, _, rfl, rfl, ⟨by decide, by decide, by decide⟩, _, _, rfl, rfl, _, _, rfl, _, rfl, .inl ⟨_, rfl, _, _, rfl, rfl, (show (2147483399 : Int) ≠ 0 by decide), (by show 3 ≤ sizeLine; decide), fun p hp => ?_⟩⟩
      exact k p _ _ hp (by split <;> omega)
theorem ok_roll {f : Addr} {fd : FuncData} (F : Fun K "_law_roll" "_law_roll" sRoll f fd) (T : TxB K mg) : FnOk P w K mg base CX0 1 f fd ["_law_dice_here", "_law_total"] spRoll := by
  refine F.ok scR (fun vs H Q E h => ?_) (fun cdv A outer s H vs Q E hr h => ?_)
  · obtain ⟨p, n, a, b, c, rfl, _⟩ := h
    rfl
  · obtain ⟨p, n, a, b, c, rfl, hp, ha, hn, hn2, k⟩ := h
    refine ⟨_, pss_cons (ps_if (pt_cmpR op_gt (pe_ix ix_list (pv 0) pe_int (fun _ _ => rfl)) pe_int (nomark _))
        (pss_cons (ps_set (i := 2) scR.nd rfl (Or.inl rfl) (pe_op op_modN (pe_callTy call_int1 (by rfl) T.int PyProof.Rows.boot_int (pa_cons (pe_ix ix_list (pv 0) pe_int (fun _ _ => rfl)) pa_nil)) (pv 1)))
        (pss_cons (ps_asg (pe_op op_fdivW (pe_ix ix_list (pv 0) pe_int (fun _ _ => rfl)) (pv 1)) (pg_sub (pv 0) pe_int set_list))
        (pss_one (ps_ret (pv 2))))) pss_nil)
      (pss_cons (ps_asg (pe_op op_add (pe_ix ix_list (pv 0) pe_int (fun _ _ => rfl)) pe_int) (pg_sub (pv 0) pe_int set_list))
      (pss_cons (ps_set (i := 3) scR.nd rfl (Or.inl rfl) (pe_op op_modN (pe_callTy call_int1 (by rfl) T.int PyProof.Rows.boot_int (pa_cons (pe_op op_add (pe_ix ix_list (pv 0) pe_int (fun _ _ => rfl)) (pe_op op_mul pe_int (pe_ix ix_list (pv 0) pe_int (fun _ _ => rfl)))) pa_nil)) pe_int))
      (pss_cons (ps_set (i := 4) scR.nd rfl (Or.inl rfl) (pe_op op_add (pe_op op_mul (pe_op op_modN (pe_callTy call_int1 (by rfl) T.int PyProof.Rows.boot_int (pa_cons (pe_op op_mul (pv 3) (pv 3)) pa_nil)) pe_int) (pv 3)) (pe_op op_mul pe_int (pe_ix ix_list (pv 0) pe_int (fun _ _ => rfl)))))
      (pss_cons (ps_set (i := 4) scR.nd rfl (Or.inl rfl) (pe_op op_modN (pe_callTy call_int1 (by rfl) T.int PyProof.Rows.boot_int (pa_cons (pv 4) pa_nil)) pe_int))
      (pss_one (ps_ret (pe_op op_modN (pe_callTy call_int1 (by rfl) T.int PyProof.Rows.boot_int (pa_cons (pe_op op_fdiv (pv 4) pe_int) pa_nil)) (pv 1)))))))), ?_⟩
    refine ⟨_, rfl, p, _, 0, _, rfl, rfl, .of hp, atI_nat (j := 0) rfl, _, _, rfl, rfl, _, rfl, ?_⟩
    refine ite2 (fun hgt => ?_) (fun hle => ?_)
    · refine ⟨_, rfl, p, _, 0, _, rfl, rfl, .of hp, atI_nat (j := 0) rfl, .inl ⟨_, rfl, _, rfl, _, _, rfl, rfl, (show n ≠ 0 by omega), ?_⟩⟩
      refine ⟨_, rfl, p, _, 0, _, rfl, rfl, .of hp, atI_nat (j := 0) rfl, _, rfl, _, _, rfl, rfl, wide_div hn (b := 40) (by omega) (by decide) (by decide), _, rfl, p, _, _, 0, rfl, rfl, hp, rfl, _, rfl, ?_⟩
      exact k _ _ _ _ (fmod_in hn).1 (fmod_in hn).2 (Int.ediv_nonneg ha (by omega))
    · refine ⟨_, rfl, p, _, 2, _, rfl, rfl, .of hp, atI_nat (j := 2) rfl, _, _, rfl, rfl, _, rfl, p, _, _, 2, rfl, rfl, hp, rfl, ?_⟩
      have hp2 : upd H p (HO.lst [V.int a, V.int b, V.int (c + 1)]) p = some (HO.lst [V.int a, V.int b, V.int (c + 1)]) := upd_same
      refine ⟨_, rfl, p, _, 1, _, rfl, rfl, .of hp2, atI_nat (j := 1) rfl, _, rfl, p, _, 2, _, rfl, rfl, .of hp2, atI_nat (j := 2) rfl, _, _, rfl, rfl, .inl ⟨by decide, by decide⟩, _, _, rfl, rfl, .inl ⟨_, rfl, _, _, rfl, rfl, (show (2305843009213693951 : Int) ≠ 0 by decide), ?_⟩⟩
      refine ⟨_, rfl, _, rfl, _, _, rfl, rfl, mul_left_ok (by decide) (by decide), .inl ⟨_, rfl, _, _, rfl, rfl, (show (2305843009213693921 : Int) ≠ 0 by decide), _, rfl, _, _, rfl, rfl, mul_left_ok (by decide) (by decide),
        _, rfl, p, _, 2, _, rfl, rfl, .of hp2, atI_nat (j := 2) rfl, _, _, rfl, rfl, .inl ⟨by decide, by decide⟩, _, _, rfl, rfl, ?_⟩⟩
      refine ⟨_, rfl, .inl ⟨_, rfl, _, _, rfl, rfl, (show (2305843009213693907 : Int) ≠ 0 by decide), ?_⟩⟩
      refine ⟨_, rfl, _, _, rfl, rfl, ⟨by decide, by decide⟩, .inl ⟨_, rfl, _, rfl, _, _, rfl, rfl, (show n ≠ 0 by omega), ?_⟩⟩
      exact k _ _ _ _ (fmod_in hn).1 (fmod_in hn).2 ha
/-! ### one of a list, a text, a number -/
structure TxD (K : PySem.W.Frag) (mg : Str → Option Value) (P : Program) (w : World) (base : Heap) : Prop extends TxB K mg where
  roll : ∃ f fd, mg "_law_roll" = some (.ref f) ∧ PySem.W.keepIn K (.ref f) = true ∧ Binds K fd ["_law_dice_here", "_law_total"] [] ∧ FnOk P w K mg base CX0 1 f fd ["_law_dice_here", "_law_total"] spRoll
def spOne : Sp := fun vs H Q _ => ∃ (p l : Addr) (xs : List V), vs = [.ref p, .ref l] ∧ DiceAt H p ∧ H l = some (.lst xs) ∧ l ≠ p ∧ 0 < xs.length ∧ xs.length < 1000 ∧
  ∀ (i : Nat) (x : V) (a b c : Int), xs[i]? = some x → 0 ≤ a → Q x (upd H p (.lst [.int a, .int b, .int c]))
theorem scO : FnScope ["_law_dice_here", "_law_items"] ["_law_dice_here", "_law_items"] (defScope sOne) := ⟨rfl, rfl, rfl, by decide +kernel, rfl, by decide +kernel, by decide +kernel⟩
theorem ok_one {f : Addr} {fd : FuncData} (F : Fun K "_law_one_of" "_law_one_of" sOne f fd) (T : TxD K mg P w base) : FnOk P w K mg base CX0 2 f fd ["_law_dice_here", "_law_items"] spOne := by
  obtain ⟨fR, fdR, mR, kR, bR, GR⟩ := T.roll
  refine F.ok scO (fun vs H Q E h => ?_) (fun cdv A outer s H vs Q E hr h => ?_)
  · obtain ⟨p, l, xs, rfl, _⟩ := h
    rfl
  · obtain ⟨p, l, xs, rfl, ⟨a, b, c, hp, ha⟩, hl, hne, h0, h1, k⟩ := h
    refine ⟨_, pss_one (ps_ret (pe_ix ix_list (pv 1) (pe_call GR hr (by rfl) mR kR bR .nil pass0 (pa_cons (pv 0) (pa_cons (pe_callB call_len_seq (by rfl) T.len PySem.boot_len (pa_cons (pv 1) pa_nil)) pa_nil))) (fun _ _ => rfl))), ?_⟩
    refine ⟨_, rfl, _, rfl, _, rfl, l, _, rfl, .inl (SqL.of hl), p, _, a, b, c, rfl, hp, ha, by omega, by omega, fun r x y z h2 h3 h4 => ?_⟩
    obtain ⟨j, rfl⟩ : ∃ j : Nat, r = (j : Int) := ⟨r.toNat, by omega⟩
    have hj : j < xs.length := by omega
    exact ⟨l, _, j, xs[j], rfl, rfl, SqL.of (by rw [upd_ne hne]; exact hl), atI_nat (List.getElem?_eq_getElem hj), k j _ _ _ _ (List.getElem?_eq_getElem hj) h4⟩

structure TxE (K : PySem.W.Frag) (mg : Str → Option Value) (P : Program) (w : World) (base : Heap) : Prop extends TxD K mg P w base where
  one : ∃ f fd, mg "_law_one_of" = some (.ref f) ∧ PySem.W.keepIn K (.ref f) = true ∧ Binds K fd ["_law_dice_here", "_law_items"] [] ∧ FnOk P w K mg base CX0 2 f fd ["_law_dice_here", "_law_items"] spOne
end
end Dc

/-! The small defs: names, numbers. -/
namespace Rd
open PySem PySem.Spec PyProof.Rows L2 Tq Dn Dc
theorem same_new {H : Hp} {p : Addr} {o : HO} (h : H p = none) : Same H (upd H p o) := fun b u e => by (rw [upd_ne (ne_of_none e h)]; exact e)
theorem same_to {H H' : Hp} {p : Addr} {o : HO} (hp : H p = none) (h : Same H H') : Same H (upd H' p o) := fun b u e => by rw [upd_ne (ne_of_none e hp)]; exact h b u e
theorem same_keep {H H' : Hp} {p : Addr} (h : Same H H') : Keep p H H' := fun b o _ e => h b o e
/-- a list is being filled at D: what stands elsewhere is kept -/
theorem off_seq {K : PySem.W.Frag} {D a : Addr} {H H' : Hp} {l xs : List V} (hD : H D = some (.lst l)) (k : Keep D H H') (h : SqT K H a xs) : SqT K H' a xs := by
  rcases h with (h | ⟨o, h⟩) | h
  · exact .inl (.inl (k a _ (fun e => by subst e; rw [hD] at h; cases h) h))
  · exact .inl (.inr ⟨o, k a _ (fun e => by subst e; rw [hD] at h; cases h) h⟩)
  · exact .inr h
/-- what is said of the list at D, i turns done -/
def Fil (H1 : Hp) (D : Addr) (P : Nat → List V → Hp → Prop) (i : Nat) (H : Hp) : Prop := Same H1 H ∧ ∃ acc, H D = some (.lst acc) ∧ P i acc H
/-- .. where one more item y is put -/
def Put (H1 : Hp) (D : Addr) (P : Nat → List V → Hp → Prop) (i : Nat) (y : V) (H : Hp) : Prop := ∃ acc, H D = some (.lst acc) ∧ acc.length < sizeLine ∧ Fil H1 D P i (upd H D (.lst (acc ++ [y])))
def Off (D : Addr) (P : Nat → List V → Hp → Prop) : Prop := ∀ i acc l H H', H D = some (.lst l) → Keep D H H' → P i acc H → P i acc H'
theorem put_of {H1 H H4 : Hp} {D : Addr} {P : Nat → List V → Hp → Prop} {i : Nat} {y : V} {acc : List V} (nD : H1 D = none) (off : Off D P) (s : Same H1 H) (e : H D = some (.lst acc)) (s4 : Same H H4) (l : acc.length < sizeLine) (p : P i (acc ++ [y]) H4) : Put H1 D P i y H4 :=
  ⟨acc, s4 _ _ e, l, same_to nD (s.trans s4), acc ++ [y], upd_same, off _ _ acc _ _ (s4 _ _ e) keep_upd p⟩
theorem fil_of {H1 H H4 : Hp} {D : Addr} {P : Nat → List V → Hp → Prop} {i : Nat} {acc : List V} (s : Same H1 H) (e : H D = some (.lst acc)) (s4 : Same H H4) (p : P i acc H4) : Fil H1 D P i H4 := ⟨s.trans s4, acc, s4 _ _ e, p⟩
/-- a comprehension over a walk -/
theorem lc_fil {J : It} {n : Nat} {G : Hp → Prop} {Y : Nat → Hp → V → Hp → Prop} (w : Walk J n G Y) {g : TG} {tt : TT} {te : TE} {vs : List Nat} {σ : L2.St} {H1 : Hp} {D : Addr} {Qd : Hp → Prop} (nD : H1 D = none) (P : Nat → List V → Hp → Prop)
    (p0 : P 0 [] (upd H1 D (.lst []))) (hG : ∀ H, Same H1 H → G H)
    (hs : ∀ i x acc H H', i < n → Same H1 H → H D = some (.lst acc) → P i acc H → Y i H x H' → g x (wipe σ vs) H' fun σ2 H2 => wipe σ2 vs = wipe σ vs ∧ tt σ2 H2 fun b H3 =>
      if b = true then te σ2 H3 fun y H4 => Put H1 D P (i + 1) y H4 else Fil H1 D P (i + 1) H3)
    (hd : ∀ acc H, Same H1 H → H D = some (.lst acc) → P n acc H → Qd H) :
    ∃ W : Nat → Nat → Hp → Prop, (∃ m, W 0 m (upd H1 D (.lst []))) ∧ ∀ i m H, W i m H →
      (J.stop i H ∧ Qd H) ∨ (J.go i H ∧ ∃ Nx : Hp → Prop, (∀ H', Nx H' → ∃ m', m' < m ∧ W (i + 1) m' H') ∧ ∀ x H', J.yld i H x H' → g x (wipe σ vs) H' fun σ2 H2 => wipe σ2 vs = wipe σ vs ∧ tt σ2 H2 fun b H3 =>
        if b = true then te σ2 H3 fun y H4 => ∃ acc, H4 D = some (.lst acc) ∧ acc.length < sizeLine ∧ Nx (upd H4 D (.lst (acc ++ [y]))) else Nx H3) :=
  lc_it w (Fil H1 D P) ⟨same_new nD, [], upd_same, p0⟩ (fun i H _ z => hG H z.1) (fun i x H H' hi ⟨s, acc, e, p⟩ y => hs i x acc H H' hi s e p y) fun H ⟨s, acc, e, p⟩ => hd acc H s e p
/-! ### the text -/
abbrev sName : Stmt := top 2
abbrev sAsc : Stmt := top 5
abbrev sWhole : Stmt := top 6
abbrev sNumb : Stmt := top 7
abbrev sWithin : Stmt := top 8
abbrev sNames : Stmt := top 41
abbrev sLine : Stmt := top 42
abbrev sPairs : Stmt := top 43
/-- the built-ins that are not names of the module -/
structure TxM (K : PySem.W.Frag) (mg : Str → Option Value) : Prop extends TxB K mg where
  all : mg "all" = none
  isi : mg "isinstance" = none
  str : mg "str" = none
  bool : mg "bool" = none
  tuple : mg "tuple" = none
  sorted : mg "sorted" = none
  set : mg "set" = none
  min : mg "min" = none
  enum : mg "enumerate" = none
  dict : mg "dict" = none
  repr : mg "repr" = none
/-! ### kinds of data -/
def tyD : PyData → String
  | .none => "NoneType"
  | .bool _ => "bool"
  | .int _ => "int"
  | .str _ => "str"
  | .list _ => "list"
  | .tuple _ => "tuple"
  | .dict _ => "dict"
theorem dp_ty {K : PySem.W.Frag} {H : Hp} {v : V} {d : PyData} (h : Dp K H v d) : TyX K H v (.type (tyD d)) := by
  cases h with
  | non => exact .base .non
  | bl b => exact .base (.bl b)
  | int i => exact .base (.int i)
  | str x => exact .base (.str x)
  | lst h a =>
    rcases h with (h | ⟨o, h⟩) | ⟨o, its, n, h1, h2, _⟩
    · exact .base (.lst h)
    · exact .base (.frz h)
    · exact .kList h1 h2
  | tup h a =>
    rcases h with (h | ⟨o, h⟩) | ⟨o, its, n, h1, h2, _⟩
    · exact .base (.tup h)
    · exact .fTuple h
    · exact .kTuple h1 h2
def isD (t : String) (d : PyData) : Bool := decide (tyD d = t)
def tys : List String := ["NoneType", "bool", "int", "str", "list", "tuple", "dict"]
theorem mem_ty (d : PyData) : tyD d ∈ tys := by cases d <;> simp [tyD, tys]
theorem kit_str (d : PyData) : kitB (tyD d) "str" = some (isD "str" d) := (by decide +kernel : ∀ t ∈ tys, kitB t "str" = some (decide (t = "str"))) _ (mem_ty d)
theorem kit_tup (d : PyData) : kitB (tyD d) "tuple" = some (isD "tuple" d) := (by decide +kernel : ∀ t ∈ tys, kitB t "tuple" = some (decide (t = "tuple"))) _ (mem_ty d)
theorem kit_bool (d : PyData) : kitB (tyD d) "bool" = some (isD "bool" d) := (by decide +kernel : ∀ t ∈ tys, kitB t "bool" = some (decide (t = "bool"))) _ (mem_ty d)
theorem kit_int (d : PyData) : kitB (tyD d) "int" = some (isD "int" d || isD "bool" d) := (by decide +kernel : ∀ t ∈ tys, kitB t "int" = some (decide (t = "int") || decide (t = "bool"))) _ (mem_ty d)
theorem isD_str {d : PyData} : isD "str" d = true → ∃ x, d = .str x := by intro h; cases d <;> first | exact ⟨_, rfl⟩ | (exact absurd h (by simp [isD, tyD]))
theorem isD_tup {d : PyData} : isD "tuple" d = true → ∃ x, d = .tuple x := by intro h; cases d <;> first | exact ⟨_, rfl⟩ | (exact absurd h (by simp [isD, tyD]))
theorem isD_int {d : PyData} : isD "int" d = true → ∃ x, d = .int x := by intro h; cases d <;> first | exact ⟨_, rfl⟩ | (exact absurd h (by simp [isD, tyD]))
/-! ### promises -/
def spName (K : PySem.W.Frag) : Sp := fun vs H Q _ => ∃ v d, vs = [v] ∧ Dp K H v d ∧ (∀ s, d = .str s → s.cps.size < sizeLine) ∧ ∀ H', Same H H' → Q (.bl (nameD d)) H'
section
variable {P : Program} {w : World} {K : PySem.W.Frag} {mg : Str → Option Value} {base : Heap}
theorem scNm : FnScope ["value", "letter"] ["value"] (defScope sName) := ⟨rfl, rfl, rfl, by decide +kernel, rfl, by decide +kernel, by decide +kernel⟩
theorem letter_lo (c : Nat) : (!decide ((⟨#[c]⟩ : Str).cps.toList < (("a" : Str)).cps.toList)) = decide (97 ≤ c) := by
  show (!decide ([c] < [97])) = _
  rw [← ltCps_eq, Bool.eq_iff_iff]
  simp [ltCps]
theorem letter_hi (c : Nat) : (!decide (((("z" : Str)).cps.toList) < (⟨#[c]⟩ : Str).cps.toList)) = decide (c ≤ 122) := by
  show (!decide ([122] < [c])) = _
  rw [← ltCps_eq, Bool.eq_iff_iff]
  simp [ltCps]
theorem ok_name {f : Addr} {fd : FuncData} (F : Fun K "is_name" "is_name" sName f fd) (T : TxM K mg) : FnOk P w K mg base CX0 1 f fd ["value"] (spName K) := by
  refine F.ok scNm (fun vs H Q E h => ?_) (fun cdv A outer s H vs Q E hr h => ?_)
  · obtain ⟨v, d, rfl, _⟩ := h; rfl
  · obtain ⟨v, d, rfl, hd, hz, k⟩ := h
    refine ⟨_, pss_cons (ps_if (PW.pt (pw_or (pt_not (pt_val (pe_callB call_isi (by rfl) T.isi PyProof.Rows.boot_isinstance (pa_cons (pv 0) (pa_cons (pe_bltn (v := .ty "str") (by rfl) T.str (by decide +kernel) rfl) pa_nil)))))
        (pw_or1 (pt_not (pt_chain op_le op_le pe_int (pe_callB call_len_str (by rfl) T.len PySem.boot_len (pa_cons (pv 0) pa_nil)) pe_int))))) (pss_one (ps_ret pe_bl)) pss_nil)
      (pss_one (ps_ret (pe_callB (cr_all rfl) (by rfl) T.all (by decide +kernel) (pa_cons (pe_lc (own := [("letter", 1)]) (g := gName 1) (tt := tYes) rfl scNm.nd (pi_str (pv 0))
        (blkOk_by (N := ["value", "letter"]) (sc := defScope sName) (by decide +kernel)) (fun _ _ _ _ _ => pg_name (i := 1) scNm.nd rfl (Or.inl rfl)) (fun _ _ _ _ _ => pts_nil)
        (fun _ _ _ _ _ => pe_chain op_le_str op_le_str pe_str (pv 1) pe_str)) pa_nil)))), ?_⟩
    refine ⟨_, rfl, v, .ty "str", .type (tyD d), .type "str", isD "str" d, rfl, .ty _, dp_ty hd, kit_ty (kit_str d), _, rfl, ?_⟩
    cases hs : isD "str" d with
    | false =>
      refine iteT (iteT ?_)
      have e : nameD d = false := by cases d <;> first | rfl | (exact absurd hs (by simp [isD, tyD]))
      have := k H (Same.refl H)
      rw [e] at this
      exact this
    | true =>
      obtain ⟨x, rfl⟩ := isD_str hs
      cases hd
      have hx : x.cps.size < sizeLine := hz x rfl
      refine iteF ?_
      refine ⟨_, rfl, x, rfl, Nat.le_of_lt hx, _, _, rfl, rfl, _, rfl, ?_⟩
      have low : decide (1 ≤ (x.length : Int)) = decide (1 ≤ x.length) := by simp; omega
      have hgh : decide ((x.length : Int) ≤ 8) = decide (x.length ≤ 8) := by simp; omega
      rw [low]
      refine ite2 (fun h1 => ?_) (fun h1 => ?_)
      · refine ⟨_, _, rfl, rfl, _, rfl, ?_⟩
        show (if (!decide ((x.length : Int) ≤ 8)) = true then _ else _)
        rw [hgh]
        refine ite2 (fun h2 => ?_) (fun h2 => ?_)
        · have := k H (Same.refl H)
          have e : nameD (.str x) = false := by
            show nameS x = false
            unfold nameS
            rw [(by simpa using h2 : decide (x.length ≤ 8) = false)]; simp
          rw [e] at this
          exact this
        · refine ⟨_, rfl, x, rfl, fun D hD => ?_⟩
          have hlen : ∀ i, ((x.cps.toList.take i).map fun c => V.bl (decide (97 ≤ c) && decide (c ≤ 122))).length ≤ x.cps.size := fun i => by rw [List.length_map, List.length_take, Array.length_toList]; omega
          refine lc_fil walk_str hD (fun i acc _ => acc = (x.cps.toList.take i).map fun c => V.bl (decide (97 ≤ c) && decide (c ≤ 122))) (by simp) (fun _ _ => trivial) ?_ ?_
          · rintro i v acc H2 H3 hi s2 e2 rfl ⟨rfl, c, hc, rfl⟩
            refine ⟨rfl, tt_yes ?_⟩
            have nx : x.cps.toList.take (i + 1) = x.cps.toList.take i ++ [c] := by rw [List.take_add_one, Array.getElem?_toList, hc]; rfl
            have off : Off D (fun i acc (_ : Hp) => acc = (x.cps.toList.take i).map fun c => V.bl (decide (97 ≤ c) && decide (c ≤ 122))) := fun _ _ _ _ _ _ _ z => z
            refine ⟨_, rfl, _, _, rfl, rfl, _, rfl, ?_⟩
            rw [letter_lo]
            have step : ∀ b : Bool, b = (decide (97 ≤ c) && decide (c ≤ 122)) → Put H D (fun i acc (_ : Hp) => acc = (x.cps.toList.take i).map fun c => V.bl (decide (97 ≤ c) && decide (c ≤ 122))) (i + 1) (.bl b) H3 := fun b hb =>
              put_of hD off s2 e2 (Same.refl _) (Nat.lt_of_le_of_lt (hlen i) hx) (by rw [nx, List.map_append, hb]; rfl)
            refine ite2 (fun h3 => ?_) (fun h3 => ?_)
            · refine ⟨_, _, rfl, rfl, ?_⟩
              rw [letter_hi]
              exact step _ (by rw [h3]; simp)
            · exact step _ (by rw [(by simpa using h3 : decide (97 ≤ c) = false)]; simp)
          · rintro acc H2 s2 e2 rfl
            refine ⟨D, (x.cps.toList.map fun c => decide (97 ≤ c) && decide (c ≤ 122)), rfl, SqL.of (by rw [e2, ← Array.length_toList, List.take_length, List.map_map]; rfl), ?_⟩
            have e : nameD (.str x) = ((x.cps.toList.map fun c => decide (97 ≤ c) && decide (c ≤ 122)).all id) := by
              show nameS x = _
              unfold nameS
              rw [h1, (by simpa using h2 : decide (x.length ≤ 8) = true), List.all_map]; rfl
            rw [← e]
            exact k _ s2
      · refine ⟨_, rfl, ?_⟩
        refine iteT ?_
        have := k H (Same.refl H)
        have e : nameD (.str x) = false := by
          show nameS x = false
          unfold nameS
          rw [(by simpa using h1 : decide (1 ≤ x.length) = false)]; simp
        rw [e] at this
        exact this
end
end Rd

namespace Rd
open PySem PySem.Spec PyProof.Rows L2 Tq Dn Dc
def posD : PyData → Bool
  | .int i => decide (0 ≤ i)
  | _ => false
abbrev Small (ds : List PyData) : Prop := ∀ s, PyData.str s ∈ ds → s.cps.size < sizeLine
def spWhole (K : PySem.W.Frag) : Sp := fun vs H Q _ => ∃ v d, vs = [v] ∧ Dp K H v d ∧ Q (.bl (isD "int" d)) H
def spNumb (K : PySem.W.Frag) : Sp := fun vs H Q _ => ∃ v d, vs = [v] ∧ Dp K H v d ∧ Q (.bl (posD d)) H
def spWithin (K : PySem.W.Frag) : Sp := fun vs H Q _ => ∃ v d m, vs = [v, .int m] ∧ Dp K H v d ∧ Q (.bl (numD d m)) H
def spNames (K : PySem.W.Frag) : Sp := fun vs H Q _ => ∃ a xs ds, vs = [.ref a] ∧ SqT K H a xs ∧ DpAll K H xs ds ∧ Small ds ∧ ds.length ≤ 100 ∧ ∀ H', Same H H' → Q (.bl (ds.all nameD)) H'
/-- a def of the module, with its promise -/
abbrev Has (P : Program) (w : World) (K : PySem.W.Frag) (mg : Str → Option Value) (base : Heap) (x : Str) (k : Nat) (ps : List Str) (sp : Sp) : Prop :=
  ∃ f fd, mg x = some (.ref f) ∧ PySem.W.keepIn K (.ref f) = true ∧ Binds K fd ps [] ∧ FnOk P w K mg base CX0 k f fd ps sp
section
variable {P : Program} {w : World} {K : PySem.W.Frag} {mg : Str → Option Value} {base : Heap}
theorem scWh : FnScope ["value"] ["value"] (defScope sWhole) := ⟨rfl, rfl, rfl, by decide +kernel, rfl, by decide +kernel, by decide +kernel⟩
theorem ok_whole {f : Addr} {fd : FuncData} (F : Fun K "is_whole_number" "is_whole_number" sWhole f fd) (T : TxM K mg) : FnOk P w K mg base CX0 1 f fd ["value"] (spWhole K) := by
  refine F.ok scWh (fun vs H Q E h => ?_) (fun cdv A outer s H vs Q E hr h => ?_)
  · obtain ⟨v, d, rfl, _⟩ := h; rfl
  · obtain ⟨v, d, rfl, hd, k⟩ := h
    refine ⟨_, pss_one (ps_ret (pe_and (pe_callB call_isi (by rfl) T.isi PyProof.Rows.boot_isinstance (pa_cons (pv 0) (pa_cons (pe_bltn (v := .ty "int") (by rfl) T.int (by decide +kernel) rfl) pa_nil)))
      (pe_one (pe_not (pe_callB call_isi (by rfl) T.isi PyProof.Rows.boot_isinstance (pa_cons (pv 0) (pa_cons (pe_bltn (v := .ty "bool") (by rfl) T.bool (by decide +kernel) rfl) pa_nil))))))), ?_⟩
    refine ⟨_, rfl, v, .ty "int", .type (tyD d), .type "int", _, rfl, .ty _, dp_ty hd, kit_ty (kit_int d), _, rfl, ?_⟩
    have e : ∀ a b : Bool, (isD "int" d = (a && !b)) → (a = (isD "int" d || isD "bool" d)) → (b = isD "bool" d) → True := fun _ _ _ _ _ => trivial
    cases h1 : isD "int" d with
    | true =>
      have h2 : isD "bool" d = false := by obtain ⟨i, rfl⟩ := isD_int h1; rfl
      refine iteT ⟨_, rfl, v, .ty "bool", .type (tyD d), .type "bool", _, rfl, .ty _, dp_ty hd, kit_ty (kit_bool d), _, rfl, ?_⟩
      rw [h2]; rw [h1] at k; exact k
    | false =>
      rw [h1] at k
      cases h2 : isD "bool" d with
      | true =>
        refine iteT ⟨_, rfl, v, .ty "bool", .type (tyD d), .type "bool", _, rfl, .ty _, dp_ty hd, kit_ty (kit_bool d), _, rfl, ?_⟩
        rw [h2]; exact k
      | false => exact iteF k
/-- what the small defs need -/
structure TxN (K : PySem.W.Frag) (mg : Str → Option Value) (P : Program) (w : World) (base : Heap) : Prop extends TxM K mg where
  whole : Has P w K mg base "is_whole_number" 1 ["value"] (spWhole K)
  numb : Has P w K mg base "is_number" 2 ["value"] (spNumb K)
  within_ : Has P w K mg base "is_number_within" 3 ["value", "most"] (spWithin K)
  name : Has P w K mg base "is_name" 1 ["value"] (spName K)
theorem scNb : FnScope ["value"] ["value"] (defScope sNumb) := ⟨rfl, rfl, rfl, by decide +kernel, rfl, by decide +kernel, by decide +kernel⟩
theorem ok_numb {f : Addr} {fd : FuncData} (F : Fun K "is_number" "is_number" sNumb f fd) (hw : Has P w K mg base "is_whole_number" 1 ["value"] (spWhole K)) : FnOk P w K mg base CX0 2 f fd ["value"] (spNumb K) := by
  obtain ⟨g, gd, mG, kG, bG, GG⟩ := hw
  refine F.ok scNb (fun vs H Q E h => ?_) (fun cdv A outer s H vs Q E hr h => ?_)
  · obtain ⟨v, d, rfl, _⟩ := h; rfl
  · obtain ⟨v, d, rfl, hd, k⟩ := h
    refine ⟨_, pss_one (ps_ret (pe_and (pe_call GG hr (by rfl) mG kG bG .nil pass0 (pa_cons (pv 0) pa_nil)) (pe_one (pe_cmpR op_ge (pv 0) pe_int (nomark _))))), ?_⟩
    refine ⟨_, rfl, v, d, rfl, hd, _, rfl, ?_⟩
    cases h1 : isD "int" d with
    | true =>
      obtain ⟨i, rfl⟩ := isD_int h1
      cases hd
      refine iteT ⟨_, rfl, _, _, rfl, rfl, ?_⟩
      exact k
    | false =>
      have e : posD d = false := by cases d <;> first | rfl | (exact absurd h1 (by simp [isD, tyD]))
      rw [e] at k
      exact iteF k
theorem scWi : FnScope ["value", "most"] ["value", "most"] (defScope sWithin) := ⟨rfl, rfl, rfl, by decide +kernel, rfl, by decide +kernel, by decide +kernel⟩
theorem ok_within {f : Addr} {fd : FuncData} (F : Fun K "is_number_within" "is_number_within" sWithin f fd) (hw : Has P w K mg base "is_number" 2 ["value"] (spNumb K)) : FnOk P w K mg base CX0 3 f fd ["value", "most"] (spWithin K) := by
  obtain ⟨g, gd, mG, kG, bG, GG⟩ := hw
  refine F.ok scWi (fun vs H Q E h => ?_) (fun cdv A outer s H vs Q E hr h => ?_)
  · obtain ⟨v, d, m, rfl, _⟩ := h; rfl
  · obtain ⟨v, d, m, rfl, hd, k⟩ := h
    refine ⟨_, pss_one (ps_ret (pe_and (pe_call GG hr (by rfl) mG kG bG .nil pass0 (pa_cons (pv 0) pa_nil)) (pe_one (pe_cmpR op_le (pv 0) (pv 1) (nomark _))))), ?_⟩
    refine ⟨_, rfl, v, d, rfl, hd, _, rfl, ?_⟩
    cases h1 : posD d with
    | true =>
      obtain ⟨i, rfl⟩ : ∃ i, d = .int i := by cases d <;> first | exact ⟨_, rfl⟩ | (exact absurd h1 (by simp [posD]))
      cases hd
      have e : numD (.int i) m = decide (i ≤ m) := by
        show (decide (0 ≤ i) && decide (i ≤ m)) = _
        rw [(show decide (0 ≤ i) = true from h1), Bool.true_and]
      rw [e] at k
      exact iteT ⟨_, rfl, _, rfl, _, _, rfl, rfl, k⟩
    | false =>
      have e : numD d m = false := by
        cases d <;> first | rfl | skip
        rename_i i
        show (decide (0 ≤ i) && decide (i ≤ m)) = false
        rw [(show decide (0 ≤ i) = false from h1), Bool.false_and]
      rw [e] at k
      exact iteF k
theorem scNs : FnScope ["values", "value"] ["values"] (defScope sNames) := ⟨rfl, rfl, rfl, by decide +kernel, rfl, by decide +kernel, by decide +kernel⟩
theorem ok_names {f : Addr} {fd : FuncData} (F : Fun K "are_names" "are_names" sNames f fd) (T : TxN K mg P w base) : FnOk P w K mg base CX0 2 f fd ["values"] (spNames K) := by
  obtain ⟨g, gd, mG, kG, bG, GG⟩ := T.name
  refine F.ok scNs (fun vs H Q E h => ?_) (fun cdv A outer s H vs Q E hr h => ?_)
  · obtain ⟨a, xs, ds, rfl, _⟩ := h; rfl
  · obtain ⟨a, xs, ds, rfl, ha, hd, hz, hn, k⟩ := h
    refine ⟨_, pss_one (ps_ret (pe_callB (cr_all rfl) (by rfl) T.all PyProof.Rows.boot_all (pa_cons (pe_lc (own := [("value", 1)]) (g := gName 1) (tt := tYes) rfl scNs.nd (pi_tup (pv 0))
        (blkOk_by (N := ["values", "value"]) (sc := defScope sNames) (by decide +kernel)) (fun _ _ _ _ _ => pg_name (i := 1) scNs.nd rfl (Or.inl rfl)) (fun _ _ _ _ _ => pts_nil)
        (fun _ _ _ _ _ => pe_call GG hr (by rfl) mG kG bG .nil pass0 (pa_cons (pv 1) pa_nil))) pa_nil))), ?_⟩
    have hl := dpAll_len hd
    refine ⟨_, rfl, a, rfl, ⟨_, ha⟩, fun D hD => ?_⟩
    have off : Off D (fun i acc (_ : Hp) => acc = (ds.take i).map fun d => V.bl (nameD d)) := fun _ _ _ _ _ _ _ z => z
    refine lc_fil walk_tup hD (fun i acc _ => acc = (ds.take i).map fun d => V.bl (nameD d)) (by simp) (fun H' s' => sqT_up ha s') ?_ ?_
    · rintro i v acc H2 H3 hi s2 e2 rfl ⟨rfl, hv⟩
      obtain ⟨d, hdi, hdv⟩ := dpAll_get hd hv
      refine ⟨rfl, tt_yes ?_⟩
      refine ⟨_, rfl, v, d, rfl, dp_up s2 hdv, fun s e => hz s (e ▸ List.mem_of_getElem? hdi), fun H4 s4 => ?_⟩
      refine put_of hD off s2 e2 s4 ?_ (by rw [List.take_add_one, hdi, List.map_append]; rfl)
      rw [List.length_map, List.length_take]
      rw [sizeLine_eq]
      omega
    · rintro acc H2 s2 e2 rfl
      refine ⟨D, ds.map nameD, rfl, SqL.of (by rw [e2, hl, List.take_length, List.map_map]; rfl), ?_⟩
      have e : (ds.map nameD).all id = ds.all nameD := by rw [List.all_map]; rfl
      rw [e]
      exact k _ s2
end
end Rd

namespace Rd
open PySem PySem.Spec PyProof.Rows L2 Tq Dn Dc
/-- all texts of a tuple's data are short, and it has few items -/
def Mod_ (d : PyData) : Prop := ∀ ds, d = .tuple ds → Small ds ∧ ds.length ≤ 100
def spLine (K : PySem.W.Frag) : Sp := fun vs H Q _ => ∃ v m, vs = [v, .int m] ∧
  ((∃ d, Dp K H v d ∧ SeqAt.shaped d = true ∧ Mod_ d ∧ ∀ H', Same H H' → Q (.bl (lineD d m)) H') ∨ (TyX K H v (.type "dict") ∧ Q (.bl false) H))
structure TxL (K : PySem.W.Frag) (mg : Str → Option Value) (P : Program) (w : World) (base : Heap) : Prop extends TxN K mg P w base where
  names : Has P w K mg base "are_names" 2 ["values"] (spNames K)
theorem cut13 (xs : List V) : cutV xs (some 1) (some 3) = (xs.drop (min 1 xs.length)).take (min 3 xs.length - min 1 xs.length) := by
  unfold cutV
  rw [show HT.sIx xs.length 0 (some (1 : Int)) = min 1 xs.length from HT.sIx_nat _ _ 1, show HT.sIx xs.length xs.length (some (3 : Int)) = min 3 xs.length from HT.sIx_nat _ _ 3]
theorem cut1 (xs : List V) : cutV xs (some 1) none = (xs.drop (min 1 xs.length)).take (xs.length - min 1 xs.length) := by
  unfold cutV
  rw [show HT.sIx xs.length 0 (some (1 : Int)) = min 1 xs.length from HT.sIx_nat _ _ 1, HT.sIx_none]
theorem shaped_str {x : Str} (h : PyData.strOk x = true) : SeqAt.shaped (.str x) = true := by
  show (PyData.canLay0 (.str x) && decide (PyData.depth (.str x) ≤ 64)) = true
  simp [PyData.canLay0, PyData.depth, h]
theorem shaped_go : SeqAt.shaped (.str "go") = true := shaped_str w_ok.1
theorem shaped_if : SeqAt.shaped (.str "if") = true := shaped_str w_ok.2.1
theorem lay_rl : PyData.canLayAll0 [.str "read", .str "look"] = true := by simp [PyData.canLayAll0, PyData.canLay0, w_ok.2.2.1, w_ok.2.2.2]
theorem eqVN {n m : Nat} : decide (V.int (n : Int) = V.int (m : Int)) = decide (n = m) := by
  by_cases h : n = m
  · rw [h]; simp
  · rw [decide_eq_false h, decide_eq_false fun e => h (by have := V.int.inj e; omega)]
section
variable {P : Program} {w : World} {K : PySem.W.Frag} {mg : Str → Option Value} {base : Heap}
theorem scLi : FnScope ["value", "many", "word"] ["value", "many"] (defScope sLine) := ⟨rfl, rfl, rfl, by decide +kernel, rfl, by decide +kernel, by decide +kernel⟩
theorem ok_line {f : Addr} {fd : FuncData} (F : Fun K "is_line" "is_line" sLine f fd) (T : TxL K mg P w base) : FnOk P w K mg base CX0 4 f fd ["value", "many"] (spLine K) := by
  obtain ⟨g, gd, mG, kG, bG, GG⟩ := T.within_
  obtain ⟨n, nd, mN, kN, bN, GN⟩ := T.names
  refine F.ok scLi (fun vs H Q E h => ?_) (fun cdv A outer s H vs Q E hr h => ?_)
  · obtain ⟨v, m, rfl, _⟩ := h; rfl
  · obtain ⟨v, m, rfl, h⟩ := h
    have hu := hr.units
    have hu65 : (A.deeper (envOfC (Str.ofString "is_line") (defScope sLine) s.heap.objs.size f cdv)).units + 65 < cLine := by have := hr.un; omega
    have hr2 := hr.mono (show 2 ≤ 3 by decide)
    refine ⟨_, pss_cons (ps_if (PW.pt (pw_or (pt_not (pt_val (pe_callB call_isi (by rfl) T.isi PyProof.Rows.boot_isinstance (pa_cons (pv 0) (pa_cons (pe_bltn (v := .ty "tuple") (by rfl) T.tuple PyProof.Rows.boot_tuple rfl) pa_nil)))))
        (pw_or1 (pt_cmpR op_lt (pe_callB call_len_seq (by rfl) T.len PySem.boot_len (pa_cons (pv 0) pa_nil)) pe_int (nomark _))))) (pss_one (ps_ret pe_bl)) pss_nil)
      (pss_cons (ps_set (i := 2) scLi.nd rfl (Or.inl rfl) (pe_ix ix_tup (pv 0) pe_int (fun _ _ => rfl)))
      (pss_cons (ps_if (pt_cmpR (op_eqD hu) (pv 2) pe_str (nomark _)) (pss_one (ps_ret (pe_and (pe_cmpR op_eq (pe_callB call_len_seq (by rfl) T.len PySem.boot_len (pa_cons (pv 0) pa_nil)) pe_int (nomark _))
        (pe_one (pe_call GG hr (by rfl) mG kG bG .nil pass0 (pa_cons (pe_ix ix_tup (pv 0) pe_int (fun _ _ => rfl)) (pa_cons (pv 1) pa_nil))))))) pss_nil)
      (pss_cons (ps_if (pt_cmpR (op_eqD hu) (pv 2) pe_str (nomark _)) (pss_one (ps_ret (pe_and (pe_cmpR op_eq (pe_callB call_len_seq (by rfl) T.len PySem.boot_len (pa_cons (pv 0) pa_nil)) pe_int (nomark _))
        (pe_and (pe_call GN hr2 (by rfl) mN kN bN .nil pass0 (pa_cons (pe_slice sl_tup (pv 0) (po_some pe_int) (po_some pe_int)) pa_nil))
        (pe_one (pe_call GG hr (by rfl) mG kG bG .nil pass0 (pa_cons (pe_ix ix_tup (pv 0) pe_int (fun _ _ => rfl)) (pa_cons (pv 1) pa_nil)))))))) pss_nil)
      (pss_one (ps_ret (pe_and (pe_cmpR (op_inDT hu65) (pv 2) (pe_tup (pa_cons pe_str (pa_cons pe_str pa_nil))) (by rfl))
        (pe_and (pe_cmpR op_eq (pe_callB call_len_seq (by rfl) T.len PySem.boot_len (pa_cons (pv 0) pa_nil)) pe_int (nomark _))
        (pe_one (pe_call GN hr2 (by rfl) mN kN bN .nil pass0 (pa_cons (pe_slice sl_tup (pv 0) (po_some pe_int) po_none) pa_nil)))))))))), ?_⟩
    rcases h.symm with ⟨ty, k⟩ | ⟨d, hd, hs, hm, k⟩
    · refine ⟨_, rfl, v, .ty "tuple", .type "dict", .type "tuple", false, rfl, .ty _, ty, kit_ty (by decide +kernel), _, rfl, ?_⟩
      exact iteT (iteT k)
    refine ⟨_, rfl, v, .ty "tuple", .type (tyD d), .type "tuple", isD "tuple" d, rfl, .ty _, dp_ty hd, kit_ty (kit_tup d), _, rfl, ?_⟩
    cases h1 : isD "tuple" d with
    | false =>
      refine iteT (iteT ?_)
      have e : lineD d m = false := by cases d <;> first | rfl | (exact absurd h1 (by simp [isD, tyD]))
      have := k H (Same.refl H)
      rw [e] at this
      exact this
    | true =>
      obtain ⟨ds, rfl⟩ := isD_tup h1
      obtain ⟨hz, hn⟩ := hm ds rfl
      cases hd with
      | @tup a xs _ ha hds =>
        have hl := dpAll_len hds
        refine iteF ?_
        refine ⟨_, rfl, a, _, rfl, .inr ha, _, _, rfl, rfl, _, rfl, ?_⟩
        have e0 : decide ((xs.length : Int) < 2) = decide (ds.length < 2) := by rw [hl]; simp; omega
        rw [e0]
        refine ite2 (fun h2 => ?_) (fun h2 => ?_)
        · have e : lineD (.tuple ds) m = false := by show (if ds.length < 2 then false else _) = false; rw [if_pos (of_decide_eq_true h2)]
          have := k H (Same.refl H)
          rw [e] at this
          exact this
        · have h2 : 2 ≤ ds.length := by have := of_decide_eq_false (by simpa using h2 : decide (ds.length < 2) = false); omega
          have e : lineD (.tuple ds) m = lineT ds m := by show (if ds.length < 2 then false else _) = _; rw [if_neg (by omega)]
          rw [e] at k
          obtain ⟨x0, hx0⟩ : ∃ x, xs[0]? = some x := ⟨xs[0], List.getElem?_eq_getElem (by omega)⟩
          obtain ⟨x1, hx1⟩ : ∃ x, xs[1]? = some x := ⟨xs[1], List.getElem?_eq_getElem (by omega)⟩
          obtain ⟨d0, hd0, p0⟩ := dpAll_get hds hx0
          obtain ⟨d1, hd1, p1⟩ := dpAll_get hds hx1
          have s0 := shaped_at hs hd0
          have g0 : ds.getD 0 .none = d0 := by rw [List.getD_eq_getElem?_getD, hd0]; rfl
          have g1 : ds.getD 1 .none = d1 := by rw [List.getD_eq_getElem?_getD, hd1]; rfl
          have ln : ∀ m : Nat, decide (V.int (xs.length : Int) = V.int (m : Int)) = decide (ds.length = m) := fun m => by rw [hl]; exact eqVN
          refine ⟨_, rfl, a, _, _, x0, rfl, rfl, ha, atI_nat (j := 0) hx0, ?_⟩
          refine ⟨_, rfl, d0, _, p0, .str _, s0, shaped_go, _, rfl, ite2 (fun c1 => ?_) (fun c1 => ?_)⟩
          · have L : lineT ds m = (decide (ds.length = 2) && numD d1 m) := by unfold lineT; rw [g0, if_pos c1, g1]
            rw [L] at k
            refine ⟨_, rfl, a, _, rfl, .inr ha, rfl, _, rfl, ?_⟩
            rw [show decide (V.int (xs.length : Int) = V.int 2) = decide (ds.length = 2) from ln 2]
            refine ite2 (fun c2 => ?_) (fun c2 => ?_)
            · refine ⟨_, rfl, a, _, _, x1, rfl, rfl, ha, atI_nat (j := 1) hx1, _, rfl, x1, d1, m, rfl, p1, ?_⟩
              have := k H (Same.refl H)
              rwa [c2, Bool.true_and] at this
            · have := k H (Same.refl H)
              rwa [Bool.not_eq_true _ |>.mp c2, Bool.false_and] at this
          refine ⟨_, rfl, d0, _, p0, .str _, s0, shaped_if, _, rfl, ite2 (fun c2 => ?_) (fun c2 => ?_)⟩
          · have L : lineT ds m = (decide (ds.length = 4) && ((((ds.drop 1).take 2).all nameD) && numD (ds.getD 3 .none) m)) := by unfold lineT; rw [g0, if_neg c1, if_pos c2]
            rw [L] at k
            refine ⟨_, rfl, a, _, rfl, .inr ha, rfl, _, rfl, ?_⟩
            rw [show decide (V.int (xs.length : Int) = V.int 4) = decide (ds.length = 4) from ln 4]
            refine ite2 (fun c3 => ?_) (fun c3 => ?_)
            · have h4 : ds.length = 4 := of_decide_eq_true c3
              obtain ⟨x3, hx3⟩ : ∃ x, xs[3]? = some x := ⟨xs[3], List.getElem?_eq_getElem (by omega)⟩
              obtain ⟨d3, hd3, p3⟩ := dpAll_get hds hx3
              have g3 : ds.getD 3 .none = d3 := by rw [List.getD_eq_getElem?_getD, hd3]; rfl
              have ct : cutV xs (some 1) (some 3) = (xs.drop 1).take 2 := by rw [cut13, hl, h4]; rfl
              refine ⟨_, rfl, _, rfl, _, rfl, a, _, rfl, ha, ?_, fun p np => ?_⟩
              · rw [show HT.sIx xs.length 0 (some (1 : Int)) = min 1 xs.length from HT.sIx_nat _ _ 1, hl, h4]
                exact fun z => absurd z.1 (by decide)
              · rw [ct]
                have sn := same_new (o := HO.tup ((xs.drop 1).take 2)) np
                refine ⟨p, _, (ds.drop 1).take 2, rfl, SqT.of upd_same, dpAll_up sn (dpAll_take 2 (dpAll_drop 1 hds)), fun s hs => hz s (List.mem_of_mem_drop (List.mem_of_mem_take hs)), by rw [List.length_take]; omega, fun H' s' => ?_⟩
                have s2 := sn.trans s'
                refine ⟨_, rfl, ite2 (fun c4 => ?_) (fun c4 => ?_)⟩
                · refine ⟨_, rfl, a, _, _, x3, rfl, rfl, sqT_up ha s2, atI_nat (j := 3) hx3, _, rfl, x3, d3, m, rfl, dp_up s2 p3, ?_⟩
                  have := k H' s2
                  rwa [c3, c4, g3, Bool.true_and, Bool.true_and] at this
                · have := k H' s2
                  rwa [c3, Bool.not_eq_true _ |>.mp c4, Bool.false_and, Bool.and_false] at this
            · have := k H (Same.refl H)
              rwa [Bool.not_eq_true _ |>.mp c3, Bool.false_and] at this
          · have L : lineT ds m = (([PyData.str "read", PyData.str "look"].any fun e => PyData.eqv e d0) && (decide (ds.length = 3) && (ds.drop 1).all nameD)) := by unfold lineT; rw [g0, if_neg c1, if_neg c2]; rfl
            rw [L] at k
            refine ⟨_, rfl, (by show 2 ≤ sizeLine; decide), fun t nt => ?_⟩
            have sn := same_new (o := HO.tup [V.str "read", V.str "look"]) nt
            refine ⟨d0, [.str "read", .str "look"], dp_up sn p0, .tup (SqT.of upd_same) (.cons (.str _) (.cons (.str _) .nil)), s0, lay_rl, _, rfl, ?_⟩
            rw [Bool.bne_false]
            refine ite2 (fun c3 => ?_) (fun c3 => ?_)
            · refine ⟨_, rfl, a, _, rfl, .inr (sqT_up ha sn), rfl, _, rfl, ?_⟩
              rw [show decide (V.int (xs.length : Int) = V.int 3) = decide (ds.length = 3) from ln 3]
              refine ite2 (fun c4 => ?_) (fun c4 => ?_)
              · have h3 : ds.length = 3 := of_decide_eq_true c4
                have ct : cutV xs (some 1) none = xs.drop 1 := by rw [cut1, hl, h3, List.take_of_length_le (by rw [List.length_drop, hl, h3]; decide)]; rfl
                refine ⟨_, rfl, _, rfl, a, _, rfl, sqT_up ha sn, ?_, fun p np => ?_⟩
                · rw [show HT.sIx xs.length 0 (some (1 : Int)) = min 1 xs.length from HT.sIx_nat _ _ 1, hl, h3]
                  exact fun z => absurd z.1 (by decide)
                · rw [ct]
                  have sp := same_new (o := HO.tup (xs.drop 1)) np
                  refine ⟨p, _, ds.drop 1, rfl, SqT.of upd_same, dpAll_up (sn.trans sp) (dpAll_drop 1 hds), fun s hs => hz s (List.mem_of_mem_drop hs), by rw [List.length_drop]; omega, fun H' s' => ?_⟩
                  have := k H' ((sn.trans sp).trans s')
                  rwa [c3, c4, Bool.true_and, Bool.true_and] at this
              · have := k _ sn
                rwa [c3, Bool.not_eq_true _ |>.mp c4, Bool.false_and, Bool.and_false] at this
            · have := k _ sn
              rwa [Bool.not_eq_true _ |>.mp c3, Bool.false_and] at this
end
end Rd

namespace Rd
open PySem PySem.Spec PyProof.Rows L2 Tq Dn Dc
abbrev RowsL := List (Addr × Ln)
/-- a tuple of such lines stands at L -/
def LinesAt (K : PySem.W.Frag) (H : Hp) (L : Addr) (rs : RowsL) : Prop := SqT K H L (rs.map fun r => .ref r.1) ∧ ∀ r ∈ rs, SqT K H r.1 r.2.vs
theorem LinesAt.up {K : PySem.W.Frag} {H H' : Hp} {L : Addr} {rs : RowsL} (h : LinesAt K H L rs) (s : Same H H') : LinesAt K H' L rs := ⟨sqT_up h.1 s, fun r hr => sqT_up (h.2 r hr) s⟩
theorem ln_dp {K : PySem.W.Frag} {H : Hp} {a : Addr} {l : Ln} (h : SqT K H a l.vs) : Dp K H (.ref a) l.d := by
  cases l with
  | go n => exact .tup h (.cons (.str _) (.cons (.int _) .nil))
  | ift t p n => exact .tup h (.cons (.str _) (.cons (.str _) (.cons (.str _) (.cons (.int _) .nil))))
  | look t p => exact .tup h (.cons (.str _) (.cons (.str _) (.cons (.str _) .nil)))
  | read t p => exact .tup h (.cons (.str _) (.cons (.str _) (.cons (.str _) .nil)))
theorem lns_dp {K : PySem.W.Frag} {H : Hp} : ∀ {rs : RowsL}, (∀ r ∈ rs, SqT K H r.1 r.2.vs) → DpAll K H (rs.map fun r => .ref r.1) ((rs.map Prod.snd).map Ln.d)
  | [], _ => .nil
  | r :: rs, h => .cons (ln_dp (h r List.mem_cons_self)) (lns_dp fun q hq => h q (.tail _ hq))
theorem LinesAt.dp {K : PySem.W.Frag} {H : Hp} {L : Addr} {rs : RowsL} (h : LinesAt K H L rs) : Dp K H (.ref L) (dls (rs.map Prod.snd)) := .tup h.1 (lns_dp h.2)
/-- a tuple of these pairs stands at p -/
def PairsAt (K : PySem.W.Frag) (H : Hp) (p : Addr) (ps : List (List Str)) : Prop := ∃ rs : List (Row Str), rs.map Prod.snd = ps ∧ SqT K H p (rs.map fun r => .ref r.1) ∧ TupsX K H rs
theorem tupsX_up {K : PySem.W.Frag} {H H' : Hp} {rs : List (Row Str)} (h : TupsX K H rs) (s : Same H H') : TupsX K H' rs := fun r hr => sqT_up (h r hr) s
theorem PairsAt.up {K : PySem.W.Frag} {H H' : Hp} {p : Addr} {ps : List (List Str)} (h : PairsAt K H p ps) (s : Same H H') : PairsAt K H' p ps :=
  let ⟨rs, e, a, b⟩ := h; ⟨rs, e, sqT_up a s, tupsX_up b s⟩
theorem strs_dp {K : PySem.W.Frag} {H : Hp} : ∀ k : List Str, DpAll K H (k.map V.str) (k.map PyData.str)
  | [] => .nil
  | x :: k => .cons (.str x) (strs_dp k)
theorem pairs_dp {K : PySem.W.Frag} {H : Hp} : ∀ {rs : List (Row Str)}, TupsX K H rs → DpAll K H (rs.map fun r => .ref r.1) ((rs.map Prod.snd).map pD)
  | [], _ => .nil
  | r :: rs, h => .cons (.tup (h r List.mem_cons_self) (strs_dp _)) (pairs_dp fun q hq => h q (.tail _ hq))
theorem PairsAt.dp {K : PySem.W.Frag} {H : Hp} {p : Addr} {ps : List (List Str)} (h : PairsAt K H p ps) : Dp K H (.ref p) (pDs ps) := by
  obtain ⟨rs, rfl, a, b⟩ := h
  exact .tup a (pairs_dp b)
def spAscX (K : PySem.W.Frag) : Sp := fun vs H Q _ => ∃ (l : Addr) (ks : List (Row Str)), vs = [.ref l] ∧ SqL K H l (ks.map fun r => V.ref r.1) ∧ TupsX K H ks ∧ ks.length < 64 ∧ (∀ r ∈ ks, r.2 ≠ []) ∧
  ∀ H' p ps, Same H H' → H p = none → Asc (ks.map Prod.snd) ps → PairsAt K H' p ps → Q (.ref p) H'
def spAscS (K : PySem.W.Frag) : Sp := fun vs H Q _ => ∃ (l : Addr) (ks : List Str), vs = [.ref l] ∧ SqL K H l (ks.map V.str) ∧ ks.length < 64 ∧
  ∀ H' p ts, Same H H' → H p = none → AscS ks ts → ts.length ≤ ks.length → H' p = some (.tup (ts.map V.str)) → Q (.ref p) H'
def spPairs (K : PySem.W.Frag) : Sp := fun vs H Q _ => ∃ (L W : Addr) (rs : RowsL) (ws : List Str), vs = [.ref L, .ref W] ∧ LinesAt K H L rs ∧ SqT K H W (ws.map V.str) ∧ ("go" : Str) ∉ ws ∧ rs.length < 64 ∧
  ∀ H' p ps, Same H H' → H p = none → Asc (keysOf ws (rs.map Prod.snd)) ps → PairsAt K H' p ps → Q (.ref p) H'
section
variable {P : Program} {w : World} {K : PySem.W.Frag} {mg : Str → Option Value} {base : Heap}
theorem scAs : FnScope ["values"] ["values"] (defScope sAsc) := ⟨rfl, rfl, rfl, by decide +kernel, rfl, by decide +kernel, by decide +kernel⟩
theorem ok_ascX {f : Addr} {fd : FuncData} (F : Fun K "ascending" "ascending" sAsc f fd) (T : TxM K mg) : FnOk P w K mg base CX0 1 f fd ["values"] (spAscX K) := by
  refine F.ok scAs (fun vs H Q E h => ?_) (fun cdv A outer s H vs Q E hr h => ?_)
  · obtain ⟨l, ks, rfl, _⟩ := h; rfl
  · obtain ⟨l, ks, rfl, hl, hk, few, ne, k⟩ := h
    refine ⟨_, pss_one (ps_ret (pe_callTy call_tuple_of (by rfl) T.tuple PyProof.Rows.boot_tuple (pa_cons (pe_callB (cr_sortX rfl) (by rfl) T.sorted PyProof.Rows.boot_sorted (pa_cons (pe_callTy (cr_setX rfl hr.units) (by rfl) T.set PyProof.Rows.boot_set (pa_cons (pv 0) pa_nil)) pa_nil)) pa_nil))), ?_⟩
    refine ⟨_, rfl, l, ks, rfl, hl, hk, few, fun a L na hof hto => ?_⟩
    have s1 := same_new (o := SetX P w a L) na
    refine ⟨a, L, rfl, upd_same, fun r hr => sqT_up (hk r (hof r hr)) s1, fun r hr => ne r (hof r hr), fun L' p pm few' up np => ?_⟩
    have s2 := s1.trans (same_new (o := HO.lst (L'.map fun r => V.ref r.1)) np)
    refine ⟨p, _, rfl, .inl ⟨SqL.of upd_same, fun q nq => ?_⟩⟩
    have s3 := s2.trans (same_new (o := HO.tup (L'.map fun r => V.ref r.1)) nq)
    refine k _ q (L'.map Prod.snd) s3 (s2.free nq) ⟨?_, fun x => ?_⟩ ⟨L', rfl, SqT.of upd_same, fun r hr => sqT_up (hk r (hof r (pm.mem_iff.mp hr))) s3⟩
    · rw [List.pairwise_map] at up ⊢; exact up
    · rw [(pm.map Prod.snd).mem_iff]
      constructor
      · intro z
        obtain ⟨r, hr, rfl⟩ := List.mem_map.mp z
        exact List.mem_map_of_mem (hof r hr)
      · intro z
        obtain ⟨r, hr, rfl⟩ := List.mem_map.mp z
        exact hto r hr
theorem ok_ascS {f : Addr} {fd : FuncData} (F : Fun K "ascending" "ascending" sAsc f fd) (T : TxM K mg) : FnOk P w K mg base CX0 1 f fd ["values"] (spAscS K) := by
  refine F.ok scAs (fun vs H Q E h => ?_) (fun cdv A outer s H vs Q E hr h => ?_)
  · obtain ⟨l, ks, rfl, _⟩ := h; rfl
  · obtain ⟨l, ks, rfl, hl, few, k⟩ := h
    refine ⟨_, pss_one (ps_ret (pe_callTy call_tuple_of (by rfl) T.tuple PyProof.Rows.boot_tuple (pa_cons (pe_callB (cr_sortT rfl) (by rfl) T.sorted PyProof.Rows.boot_sorted (pa_cons (pe_callTy (cr_setT rfl) (by rfl) T.set PyProof.Rows.boot_set (pa_cons (pv 0) pa_nil)) pa_nil)) pa_nil))), ?_⟩
    refine ⟨_, rfl, l, ks, rfl, hl, few, fun a L na hm hn => ?_⟩
    have s1 := same_new (o := SetT P w a L) na
    refine ⟨a, L, rfl, upd_same, by omega, fun L' p pm up np => ?_⟩
    have s2 := s1.trans (same_new (o := HO.lst (L'.map V.str)) np)
    refine ⟨p, _, rfl, .inl ⟨SqL.of upd_same, fun q nq => ?_⟩⟩
    exact k _ q L' (s2.trans (same_new nq)) (s2.free nq) ⟨up, fun x => by rw [pm.mem_iff, hm]⟩ (by rw [pm.length_eq]; exact hn) upd_same
theorem inV_strs (x : Str) : ∀ ws : List Str, inV (.str x) (ws.map V.str) = ws.contains x
  | [] => rfl
  | y :: ws => by
    have ih := inV_strs x ws
    show (eqV (.str y) (.str x) || inV (.str x) (ws.map V.str)) = _
    rw [ih, List.contains_cons]
    congr 1
    show (y == x) = (x == y)
    exact BEq.comm
theorem flat_strs : ∀ ws : List Str, (ws.map V.str).all flatV = true
  | [] => rfl
  | _ :: ws => flat_strs ws
theorem ln_word (l : Ln) : l.vs[0]? = some (.str l.word) := by cases l <;> rfl
theorem ln_cut {l : Ln} (h : l.word ≠ "go") : cutV l.vs (some 1) (some 3) = l.key.map V.str := by
  cases l with
  | go n => exact absurd rfl h
  | ift t p n => rw [cut13]; rfl
  | look t p => rw [cut13]; rfl
  | read t p => rw [cut13]; rfl
theorem ln_part {l : Ln} : ¬ (HT.sIx l.vs.length 0 (some 1) = 0 ∧ HT.sIx l.vs.length l.vs.length (some 3) = l.vs.length) := by
  rw [show HT.sIx l.vs.length 0 (some (1 : Int)) = min 1 l.vs.length from HT.sIx_nat _ _ 1]
  intro z
  have := z.1
  cases l <;> simp [Ln.vs] at this
theorem ln_key {l : Ln} (h : l.word ≠ "go") : l.key ≠ [] := by cases l <;> first | exact absurd rfl h | exact fun z => nomatch z
structure TxP (K : PySem.W.Frag) (mg : Str → Option Value) (P : Program) (w : World) (base : Heap) : Prop extends TxL K mg P w base where
  line : Has P w K mg base "is_line" 4 ["value", "many"] (spLine K)
  ascX : Has P w K mg base "ascending" 1 ["values"] (spAscX K)
  ascS : Has P w K mg base "ascending" 1 ["values"] (spAscS K)
theorem scPa : FnScope ["lines", "words", "line"] ["lines", "words"] (defScope sPairs) := ⟨rfl, rfl, rfl, by decide +kernel, rfl, by decide +kernel, by decide +kernel⟩
theorem ok_pairs {f : Addr} {fd : FuncData} (F : Fun K "pairs_of" "pairs_of" sPairs f fd) (T : TxP K mg P w base) : FnOk P w K mg base CX0 2 f fd ["lines", "words"] (spPairs K) := by
  obtain ⟨g, gd, mG, kG, bG, GG⟩ := T.ascX
  refine F.ok scPa (fun vs H Q E h => ?_) (fun cdv A outer s H vs Q E hr h => ?_)
  · obtain ⟨L, W, rs, ws, rfl, _⟩ := h; rfl
  · obtain ⟨L, W, rs, ws, rfl, hL, hW, hg, few, k⟩ := h
    refine ⟨_, pss_one (ps_ret (pe_call GG hr (by rfl) mG kG bG .nil pass0 (pa_cons (pe_lc (own := [("line", 2)]) (g := gName 2) (tt := tTest (tOp (rIn K false) (tOp (rIxT K) (tVar 2) (tC (.int 0))) (tVar 1))) (te := tSl (rSlT K) (tVar 2) (tPart (tC (.int 1))) (tPart (tC (.int 3)))) rfl scPa.nd (pi_tup (pv 0))
        (blkOk_by (N := ["lines", "words", "line"]) (sc := defScope sPairs) (by decide +kernel)) (fun _ _ _ _ _ => pg_name (i := 2) scPa.nd rfl (Or.inl rfl))
        (fun _ _ _ _ _ => pts_one (pt_cmpR op_in_seq (pe_ix ix_tup (pv 2) pe_int (fun _ _ => rfl)) (pv 1) (by rfl)))
        (fun _ _ _ _ _ => pe_slice sl_tup (pv 2) (po_some pe_int) (po_some pe_int))) pa_nil))), ?_⟩
    refine ⟨_, rfl, L, rfl, ⟨_, hL.1⟩, fun D hD => ?_⟩
    have off : Off D (fun i acc H' => ∃ ks : List (Row Str), acc = (ks.map fun r => V.ref r.1) ∧ TupsX K H' ks ∧ ks.map Prod.snd = keysOf ws ((rs.take i).map Prod.snd)) :=
      fun i acc l H2 H3 e kp ⟨ks, z1, z2, z3⟩ => ⟨ks, z1, fun r hr => off_seq e kp (z2 r hr), z3⟩
    refine lc_fil walk_tup hD (fun i acc H' => ∃ ks : List (Row Str), acc = (ks.map fun r => V.ref r.1) ∧ TupsX K H' ks ∧ ks.map Prod.snd = keysOf ws ((rs.take i).map Prod.snd)) ⟨[], rfl, fun r z => (by cases z), rfl⟩ (fun H' s' => sqT_up hL.1 s') ?_ ?_
    · rintro i v acc H2 H3 hi s2 e2 ⟨ks, rfl, hks, ek⟩ ⟨rfl, hv⟩
      rw [List.getElem?_map] at hv
      obtain ⟨r, hri, rfl⟩ := Option.map_eq_some_iff.mp hv
      have hr := sqT_up (hL.2 r (List.mem_of_getElem? hri)) s2
      have nx : (rs.take (i + 1)).map Prod.snd = (rs.take i).map Prod.snd ++ [r.2] := by rw [List.take_add_one, hri, List.map_append]; rfl
      have kx : keysOf ws ((rs.take (i + 1)).map Prod.snd) = keysOf ws ((rs.take i).map Prod.snd) ++ keysOf ws [r.2] := by rw [nx]; unfold keysOf; rw [List.filter_append, List.map_append]
      refine ⟨rfl, ?_⟩
      refine ⟨_, rfl, r.1, _, _, _, rfl, rfl, hr, atI_nat (j := 0) (ln_word r.2), _, rfl, W, _, rfl, .inr (sqT_up hW s2), rfl, flat_strs ws, _, rfl, ?_⟩
      show (if inV (.str r.2.word) (ws.map V.str) = true then _ else _)
      rw [inV_strs]
      refine ite2 (fun c => ?_) (fun c => ?_)
      · have hw : r.2.word ≠ "go" := fun e => hg (by rw [← e]; exact List.contains_iff_mem.mp c)
        refine ⟨_, rfl, _, rfl, _, rfl, r.1, _, rfl, hr, ln_part, fun p np => ?_⟩
        rw [ln_cut hw]
        have sn := same_new (o := HO.tup (r.2.key.map V.str)) np
        refine put_of hD off s2 e2 sn ?_ ⟨ks ++ [(p, r.2.key)], by rw [List.map_append]; rfl, fun q hq => ?_, ?_⟩
        · rw [List.length_map]
          have h1 : ks.length ≤ i := by
            have h2 := congrArg List.length ek
            rw [List.length_map] at h2
            rw [h2]
            unfold keysOf
            rw [List.length_map]
            refine Nat.le_trans (List.length_filter_le _ _) ?_
            rw [List.length_map, List.length_take]
            omega
          rw [List.length_map] at hi
          rw [sizeLine_eq]; omega
        · rcases List.mem_append.mp hq with z | z
          · exact sqT_up (hks q z) sn
          · rw [List.mem_singleton.mp z]; exact SqT.of upd_same
        · rw [List.map_append, ek, kx]
          congr 1
          show [r.2.key] = ([r.2].filter fun l => ws.contains l.word).map Ln.key
          rw [List.filter_cons_of_pos (by exact c)]; rfl
      · refine fil_of s2 e2 (Same.refl _) ⟨ks, rfl, hks, ?_⟩
        rw [ek, kx]
        show _ = _ ++ ([r.2].filter fun l => ws.contains l.word).map Ln.key
        rw [List.filter_cons_of_neg (by exact c)]
        simp
    · rintro acc H2 s2 e2 ⟨ks, rfl, hks, ek⟩
      rw [List.length_map, List.take_length] at ek
      refine ⟨D, ks, rfl, SqL.of e2, hks, ?_, fun r hr => ?_, fun H' p ps s' np hA hP => ?_⟩
      · have h2 := congrArg List.length ek
        rw [List.length_map] at h2
        rw [h2]
        unfold keysOf
        rw [List.length_map]
        refine Nat.lt_of_le_of_lt (List.length_filter_le _ _) ?_
        rw [List.length_map]; exact few
      · have : r.2 ∈ keysOf ws (rs.map Prod.snd) := by rw [← ek]; exact List.mem_map_of_mem hr
        obtain ⟨l, hl, e⟩ := List.mem_map.mp this
        obtain ⟨_, hl2⟩ := List.mem_filter.mp hl
        rw [← e]
        exact ln_key fun z => hg (by rw [← z]; exact List.contains_iff_mem.mp hl2)
      · rw [ek] at hA
        exact k H' p ps (s2.trans s') (s2.free np) hA hP
end
end Rd

namespace Rd
open PySem PySem.Spec PyProof.Rows L2 Tq Dn Dc
abbrev cReader : Stmt := top 46
abbrev sInit : Stmt := inClass cReader 0
abbrev sOf : Stmt := inClass cReader 1
abbrev sReading : Stmt := inClass cReader 2
/-- what a def with a star parameter behind n others promises -/
def spStar (n : Nat) (sp : Sp) : Sp := fun vs H Q E => ∃ ws rest, vs = ws ++ rest ∧ ws.length = n ∧ rest.length ≤ sizeLine ∧ ∀ p, H p = Option.none → sp (ws ++ [V.ref p]) (upd H p (.tup rest)) Q E
section
variable {P : Program} {w : World} {K : PySem.W.Frag} {mg : Str → Option Value} {base : Heap}
theorem okStar {x qual : Str} {st : Stmt} {f : Addr} {fd : FuncData} {N ps : List Str} {pv : Str} {k : Nat} {sp : Sp} (F : Fun K x qual st f fd) (S : FnScope N (ps ++ [pv]) (defScope st))
    (hb : ∀ (kV doc pm : Value) (an : Option Addr) (cdv ct : Value) (us rest : List Value), us.length = ps.length → bindArgs (PySem.W.fnOf x qual (defArgs st) (defBody st) (defScope st) .none kV doc pm an cdv ct) ⟨us ++ rest, []⟩ = (newTuple rest >>= fun t => pure (ps.zip us ++ [(pv, t)])))
    (hbody : ∀ (cdv : Value) (A : Around) (outer : List Env) (s : Shared) (H : Hp) (vs : List V) (Q : VK) (E : XK), Room k (A.deeper (envOfC qual (defScope st) s.heap.objs.size f cdv)) → sp vs H Q E →
      ∃ t, PSs (cxOf CX0 P w K mg base N qual (defScope st) f cdv A outer s H E).nox (defBody st) t ∧ t { nx := fun _ H' => Q .non H', rt := Q } (start N vs) H) : FnR P w K mg base CX0 (k + 1) f (spStar ps.length sp) := by
  obtain ⟨oc, od, kV, doc, pm, an, cdv, ct, osl, rfl, lk, hcd⟩ := F.ex
  refine StX.fn_star lk hcd S StX.cxUp_none (hb kV doc pm an cdv ct) fun A outer s H vs Q E hr hsp => ?_
  obtain ⟨t, h, q⟩ := hbody cdv A outer s H vs Q E hr hsp
  exact ⟨t, h.nox, q⟩
/-- the lines make a reader -/
structure RdOk (rs : RowsL) : Prop where
  few : rs.length ≤ 16
  fine : ∀ r ∈ rs, r.2.fine rs.length = true
  six : ∀ ps, Asc (keysOf ["if"] (rs.map Prod.snd)) ps → ps.length ≤ 6
abbrev rdF (L T : Addr) : List (Str × V) := [("_lines", .ref L), ("_tested", .ref T)]
/-- a reader of these lines stands at r -/
def RdAt (K : PySem.W.Frag) (C : Addr) (H : Hp) (r : Addr) (rs : RowsL) : Prop := ∃ dx L T ps, H r = some (.ins C dx (rdF L T)) ∧ LinesAt K H L rs ∧ Asc (keysOf ["if"] (rs.map Prod.snd)) ps ∧ PairsAt K H T ps
theorem RdAt.up {C : Addr} {H H' : Hp} {r : Addr} {rs : RowsL} (h : RdAt K C H r rs) (s : Same H H') : RdAt K C H' r rs :=
  let ⟨dx, L, T, ps, e, a, b, c⟩ := h; ⟨dx, L, T, ps, s _ _ e, a.up s, b, c.up s⟩
def spInit (K : PySem.W.Frag) (C : Addr) : Sp := fun vs H Q _ => ∃ (x dx L : Addr) (rs : RowsL), vs = [.ref x, .ref L] ∧ H x = some (.ins C dx []) ∧ LinesAt K H L rs ∧ RdOk rs ∧
  ∀ H' T ps, Keep x H H' → H' x = some (.ins C dx (rdF L T)) → Asc (keysOf ["if"] (rs.map Prod.snd)) ps → PairsAt K H' T ps → Q .non H'
def spOf (K : PySem.W.Frag) (C : Addr) : Sp := fun vs H Q _ => ∃ (L : Addr) (rs : RowsL), vs = [.ref C, .ref L] ∧ LinesAt K H L rs ∧ RdOk rs ∧ ∀ H' r, Same H H' → H r = none → RdAt K C H' r rs → Q (.ref r) H'
/-- what the class and the module give -/
structure TxR0 (K : PySem.W.Frag) (mg : Str → Option Value) (P : Program) (w : World) (base : Heap) (C : Addr) : Prop extends TxP K mg P w base where
  cl : Cls K C
  nL : NoAttr K C "_lines"
  nT : NoAttr K C "_tested"
  mgC : mg "Reader" = some (.ref C)
  mxL : ∃ t, mg "MAX_LINES" = some (.int 16 t)
  mxT : ∃ t, mg "MAX_TESTED" = some (.int 6 t)
  pairs : Has P w K mg base "pairs_of" 2 ["lines", "words"] (spPairs K)
theorem fine_mod {l : Ln} {m : Nat} (h : l.fine m = true) : Mod_ l.d := by
  have sz : ∀ x : Str, nameS x = true → x.cps.size < sizeLine := fun x hx => by
    unfold nameS at hx
    simp only [Bool.and_eq_true, decide_eq_true_eq] at hx
    have : x.cps.size ≤ 8 := hx.1.2
    rw [sizeLine_eq]; omega
  have wd : ∀ x : Str, x.cps.size ≤ 8 → x.cps.size < sizeLine := fun x hx => by rw [sizeLine_eq]; omega
  rintro ds ⟨⟩
  refine ⟨fun s hs => ?_, by cases l <;> simp [Ln.ds]⟩
  cases l with
  | go n => simp [Ln.ds] at hs; subst hs; exact wd _ (by decide)
  | ift t p n =>
    simp only [Ln.fine, Bool.and_eq_true] at h
    simp [Ln.ds] at hs
    rcases hs with rfl | rfl | rfl
    · exact wd _ (by decide)
    · exact sz _ h.1
    · exact sz _ h.2.1
  | look t p =>
    simp only [Ln.fine, Bool.and_eq_true] at h
    simp [Ln.ds] at hs
    rcases hs with rfl | rfl | rfl
    · exact wd _ (by decide)
    · exact sz _ h.1
    · exact sz _ h.2
  | read t p =>
    simp only [Ln.fine, Bool.and_eq_true] at h
    simp [Ln.ds] at hs
    rcases hs with rfl | rfl | rfl
    · exact wd _ (by decide)
    · exact sz _ h.1
    · exact sz _ h.2
theorem k_lt : ¬ (("_lines" : Str) = "_tested") := by decide +kernel
theorem rd_flds (L T : Addr) : putF "_tested" (.ref T) (putF "_lines" (.ref L) []) = rdF L T := by
  show (if ("_lines" : Str) = "_tested" then _ else _) = _
  rw [if_neg k_lt]; rfl
theorem rd_lines (L T : Addr) : (rdF L T).lookup ("_lines" : Str) = some (V.ref L) := by rw [← rd_flds, lookup_putF, if_neg (fun e => k_lt e), lookup_putF, if_pos rfl]
theorem rd_tested (L T : Addr) : (rdF L T).lookup ("_tested" : Str) = some (V.ref T) := by rw [← rd_flds, lookup_putF, if_pos rfl]
/-- an instance changes: sequences are kept -/
theorem off_ins {D a C dx : Addr} {fs : List (Str × V)} {H H' : Hp} {xs : List V} (hD : H D = some (.ins C dx fs)) (k : Keep D H H') (h : SqT K H a xs) : SqT K H' a xs := by
  rcases h with (h | ⟨o, h⟩) | h
  · exact .inl (.inl (k a _ (fun e => by subst e; rw [hD] at h; cases h) h))
  · exact .inl (.inr ⟨o, k a _ (fun e => by subst e; rw [hD] at h; cases h) h⟩)
  · exact .inr h
theorem LinesAt.off {D C dx L : Addr} {fs : List (Str × V)} {H H' : Hp} {rs : RowsL} (hD : H D = some (.ins C dx fs)) (k : Keep D H H') (h : LinesAt K H L rs) : LinesAt K H' L rs := ⟨off_ins hD k h.1, fun r hr => off_ins hD k (h.2 r hr)⟩
theorem PairsAt.off {D C dx p : Addr} {fs : List (Str × V)} {H H' : Hp} {ps : List (List Str)} (hD : H D = some (.ins C dx fs)) (k : Keep D H H') (h : PairsAt K H p ps) : PairsAt K H' p ps :=
  let ⟨rs, e, a, b⟩ := h; ⟨rs, e, off_ins hD k a, fun r hr => off_ins hD k (b r hr)⟩
theorem fine_shaped {l : Ln} {m : Nat} (h : l.fine m = true) : SeqAt.shaped l.d = true := ln_shaped (fine_safe h)
theorem scIn : FnScope ["self", "lines", "line"] ([("self" : Str)] ++ [("lines" : Str)]) (defScope sInit) := ⟨rfl, rfl, rfl, by decide +kernel, rfl, by decide +kernel, by decide +kernel⟩
/-- len of a tuple -/
def rLenT (K : PySem.W.Frag) : List V → Hp → VK → Prop := fun xs H Q => ∃ p ys, xs = [.ref p] ∧ SqT K H p ys ∧ Q (.int (ys.length : Int)) H
theorem call_lenT {X : Cx} : CallR X (.builtin "len") (rLenT X.K) := by
  intro pins s σ H xs us Q I r h
  obtain ⟨p, ys, e, h1, h2⟩ := h
  exact call_len_seq pins s σ H xs us Q I r ⟨p, ys, e, .inr h1, h2⟩
theorem ok_init {C f : Addr} {fd : FuncData} (F : Fun K "__init__" "Reader.__init__" sInit f fd) (T : TxR0 K mg P w base C) : FnR P w K mg base CX0 5 f (spStar 1 (spInit K C)) := by
  obtain ⟨g, gd, mG, kG, bG, GG⟩ := T.line
  obtain ⟨q, qd, mQ, kQ, bQ, GQ⟩ := T.pairs
  obtain ⟨tl, mL⟩ := T.mxL
  obtain ⟨tt, mT⟩ := T.mxT
  refine okStar (ps := ["self"]) (pv := "lines") F scIn (fun kV doc pm an cdv ct => StX.bind_star1 (B := fun us => bindArgs _ ⟨us, []⟩) (p1 := "self") (pv := "lines") (fun a => rfl) (fun a r rs => rfl)) (fun cdv A outer s H vs Q E hr h => ?_)
  obtain ⟨x, dx, L, rs, rfl, hx, hL, ok, k⟩ := h
  have hr2 := hr.mono (show 2 ≤ 4 by decide)
  refine ⟨_, pss_cons (ps_if (pt_cmpR op_gt (pe_callB call_lenT (by rfl) T.len PySem.boot_len (pa_cons (pv 1) pa_nil)) (pe_glob (v := .int 16) (by rfl) mL ⟨_, rfl⟩) (nomark _)) (pss_one ps_never) pss_nil)
    (pss_cons (ps_if (pt_not (pt_val (pe_callB (cr_all rfl) (by rfl) T.all PyProof.Rows.boot_all (pa_cons (pe_lc (own := [("line", 2)]) (g := gName 2) (tt := tYes) (te := tCall (spLine K) [] E0 (tCons (tVar 2) (tCons (tCB (rLenT K) (tCons (tVar 1) tNil)) tNil))) rfl scIn.nd (pi_tup (pv 1))
        (blkOk_by (N := ["self", "lines", "line"]) (sc := defScope sInit) (by decide +kernel)) (fun _ _ _ _ _ => pg_name (i := 2) scIn.nd rfl (Or.inl rfl)) (fun _ _ _ _ _ => pts_nil)
        (fun _ _ _ _ _ => pe_call GG hr (by rfl) mG kG bG .nil pass0 (pa_cons (pv 2) (pa_cons (pe_callB call_lenT (by rfl) T.len PySem.boot_len (pa_cons (pv 1) pa_nil)) pa_nil)))) pa_nil)))) (pss_one ps_never) pss_nil)
    (pss_cons (ps_fld (pv 0) (pv 1) rfl)
    (pss_cons (ps_fld (pv 0) (pe_call GQ hr2 (by rfl) mQ kQ bQ .nil pass0 (pa_cons (pv 1) (pa_cons (pe_tup (pa_cons pe_str pa_nil)) pa_nil))) rfl)
    (pss_one (ps_if (pt_cmpR op_gt (pe_callB call_lenT (by rfl) T.len PySem.boot_len (pa_cons (pe_fld (pv 0) rfl) pa_nil)) (pe_glob (v := .int 6) (by rfl) mT ⟨_, rfl⟩) (nomark _)) (pss_one ps_never) pss_nil))))), ?_⟩
  refine ⟨_, rfl, L, _, rfl, hL.1, _, _, rfl, rfl, _, rfl, ?_⟩
  refine ite2 (fun z => absurd (of_decide_eq_true z) (by rw [List.length_map]; have := ok.few; omega)) (fun _ => ?_)
  refine ⟨_, rfl, L, rfl, ⟨_, hL.1⟩, fun D hD => ?_⟩
  have off : Off D (fun i acc (_ : Hp) => acc = (rs.take i).map fun _ => V.bl true) := fun _ _ _ _ _ _ _ z => z
  refine lc_fil walk_tup hD (fun i acc _ => acc = (rs.take i).map fun _ => V.bl true) (by simp) (fun H' s' => sqT_up hL.1 s') ?_ ?_
  · rintro i v acc H2 H3 hi s2 e2 rfl ⟨rfl, hv⟩
    rw [List.getElem?_map] at hv
    obtain ⟨r, hri, rfl⟩ := Option.map_eq_some_iff.mp hv
    have hr := sqT_up (hL.2 r (List.mem_of_getElem? hri)) s2
    have fr := ok.fine r (List.mem_of_getElem? hri)
    refine ⟨rfl, tt_yes ?_⟩
    refine ⟨_, rfl, _, rfl, L, _, rfl, sqT_up hL.1 s2, _, _, rfl, .inl ⟨r.2.d, ln_dp hr, fine_shaped fr, fine_mod fr, fun H4 s4 => ?_⟩⟩
    refine put_of hD off s2 e2 s4 ?_ ?_
    · rw [List.length_map, List.length_take, sizeLine_eq]; have := ok.few; omega
    · rw [List.length_map, fine_line fr, List.take_add_one, hri, List.map_append]; rfl
  · rintro acc H2 s2 e2 rfl
    refine ⟨D, rs.map fun _ => true, rfl, SqL.of (by rw [e2, List.length_map, List.take_length, List.map_map]; rfl), ?_⟩
    refine ⟨_, rfl, ?_⟩
    show (if (!((rs.map fun _ => true).all id)) = true then _ else _)
    rw [show ((rs.map fun _ => true).all id) = true by rw [List.all_map]; exact List.all_eq_true.mpr fun _ _ => rfl]
    refine iteF ?_
    have hx2 := s2 _ _ hx
    have kx : Keep x H2 (upd H2 x (.ins C dx (putF "_lines" (.ref L) []))) := keep_upd
    refine ⟨_, rfl, _, rfl, x, C, dx, [], rfl, hx2, T.cl, T.nL, (by show 0 < 1000; decide), ?_⟩
    have hL3 := (hL.up s2).off hx2 kx
    refine ⟨_, rfl, (by show 1 ≤ sizeLine; decide), fun t nt => ?_⟩
    have st := same_new (o := HO.tup [V.str "if"]) nt
    refine ⟨L, t, rs, ["if"], rfl, hL3.up st, SqT.of upd_same, (by decide +kernel), by have := ok.few; omega, fun H' p ps s' np hA hP => ?_⟩
    have hx4 := s' _ _ (st _ _ (show upd H2 x (.ins C dx (putF "_lines" (.ref L) [])) x = _ from upd_same))
    have k5 : Keep x H' (upd H' x (.ins C dx (putF "_tested" (.ref p) (putF "_lines" (.ref L) [])))) := keep_upd
    refine ⟨_, rfl, x, C, dx, _, rfl, hx4, T.cl, T.nT, (by show 1 < 1000; decide), ?_⟩
    rw [rd_flds] at k5 ⊢
    have hP5 := hP.off hx4 k5
    obtain ⟨prs, ep, hp1, hp2⟩ := id hP5
    refine ⟨_, rfl, x, C, dx, _, _, rfl, upd_same, T.cl, T.nT, rd_tested L p, p, _, rfl, hp1, _, _, rfl, rfl, _, rfl, ?_⟩
    refine ite2 (fun z => absurd (of_decide_eq_true z) (by have h6 := ok.six ps hA; rw [← ep, List.length_map] at h6; rw [List.length_map]; omega)) (fun _ => ?_)
    exact k _ p ps ((((same_keep s2).trans kx).trans (same_keep (st.trans s'))).trans k5) upd_same hA hP5
end
end Rd

namespace Rd
open PySem PySem.Spec PyProof.Rows L2 Tq Dn Dc
/-- a classmethod of the class at C, with its promise -/
abbrev HasC (P : Program) (w : World) (K : PySem.W.Frag) (mg : Str → Option Value) (base : Heap) (C : Addr) (m : Str) (k : Nat) (sp : Sp) : Prop :=
  ∃ mc p g, ClX.CRead K C mc ∧ ClX.CMet K C mc m p g ∧ FnR P w K mg base CX0 k g sp
def spReading (K : PySem.W.Frag) (C : Addr) : Sp := fun vs H Q _ => ∃ (t : Str) (a : Addr) (ps : List Str), vs = [.ref C, .str t, .ref a] ∧ SqT K H a (ps.map V.str) ∧ nameS t = true ∧ (∀ p ∈ ps, nameS p = true) ∧ ps.length ≤ 16 ∧
  ∀ H' r rs, Same H H' → H r = none → rs.map Prod.snd = ps.map (Ln.read t) → RdAt K C H' r rs → Q (.ref r) H'
structure TxR1 (K : PySem.W.Frag) (mg : Str → Option Value) (P : Program) (w : World) (base : Heap) (C : Addr) : Prop extends TxR0 K mg P w base C where
  made_ : ∃ f, Mk K C f ∧ FnR P w K mg base CX0 5 f (spStar 1 (spInit K C))
section
variable {P : Program} {w : World} {K : PySem.W.Frag} {mg : Str → Option Value} {base : Heap}
theorem plainR {k : Nat} {f : Addr} {fd : FuncData} {ps : List Str} {sp : Sp} (F : FnOk P w K mg base CX0 k f fd ps sp) (hb : Binds K fd ps []) : FnR P w K mg base CX0 k f sp :=
  (F.raw hb .nil).imp fun vs H Q E h => by rw [List.append_nil]; exact h
/-- a reader just made -/
theorem rd_new {C : Addr} {H' : Hp} {x dx L T : Addr} {rs : RowsL} {ps : List (List Str)} (e : H' x = some (.ins C dx (rdF L T))) (hL : LinesAt K H' L rs) (hA : Asc (keysOf ["if"] (rs.map Prod.snd)) ps) (hP : PairsAt K H' T ps) : RdAt K C H' x rs :=
  ⟨dx, L, T, ps, e, hL, hA, hP⟩
theorem scOf : FnScope ["cls", "lines"] ["cls", "lines"] (defScope sOf) := ⟨rfl, rfl, rfl, by decide +kernel, rfl, by decide +kernel, by decide +kernel⟩
theorem made_reader {C : Addr} {H : Hp} {Q : VK} {L : Addr} {rs : RowsL} (hL : ∀ r ∈ rs, SqT K H r.1 r.2.vs) (ok : RdOk rs) (k : ∀ H' r, Same H H' → H r = none → RdAt K C H' r rs → Q (.ref r) H') :
    ∀ x dx, H x = Option.none → H dx = Option.none → dx ≠ x → spStar 1 (spInit K C) (V.ref x :: (rs.map fun r => V.ref r.1)) (upd (upd H dx (.own x)) x (.ins C dx [])) (fun v H2 => v = .non ∧ Q (.ref x) H2) E0 := by
  intro x dx nx nd ne
  have s1 : Same H (upd (upd H dx (.own x)) x (.ins C dx [])) := same_to nx (same_new nd)
  refine ⟨[.ref x], _, rfl, rfl, by rw [List.length_map, sizeLine_eq]; have := ok.few; omega, fun p np => ?_⟩
  have s2 := same_new (o := HO.tup (rs.map fun r => V.ref r.1)) np
  refine ⟨x, dx, p, rs, rfl, s2 _ _ upd_same, ⟨SqT.of upd_same, fun r hr => sqT_up (hL r hr) (s1.trans s2)⟩, ok, fun H' T ps kp e hA hP => ⟨rfl, ?_⟩⟩
  have hx0 : upd (upd (upd H dx (.own x)) x (.ins C dx [])) p (HO.tup (rs.map fun r => V.ref r.1)) x = some (.ins C dx []) := s2 _ _ upd_same
  refine k H' x (fun b o hb => ?_) nx (rd_new e (LinesAt.off hx0 kp ⟨SqT.of upd_same, fun r hr => sqT_up (hL r hr) (s1.trans s2)⟩) hA hP)
  exact kp b o (ne_of_none hb nx) ((s1.trans s2) b o hb)
theorem ok_of {C f : Addr} {fd : FuncData} (F : Fun K "of" "Reader.of" sOf f fd) (T : TxR1 K mg P w base C) : FnOk P w K mg base CX0 7 f fd ["cls", "lines"] (spOf K C) := by
  obtain ⟨g, M, G⟩ := T.made_
  refine F.ok scOf (fun vs H Q E h => ?_) (fun cdv A outer s H vs Q E hr h => ?_)
  · obtain ⟨L, rs, rfl, _⟩ := h; rfl
  · obtain ⟨L, rs, rfl, hL, ok, k⟩ := h
    refine ⟨_, pss_cons (ps_if (pt_not (pt_val (pe_callB call_isi (by rfl) T.isi PyProof.Rows.boot_isinstance (pa_cons (pv 1) (pa_cons (pe_bltn (v := .ty "tuple") (by rfl) T.tuple PyProof.Rows.boot_tuple rfl) pa_nil))))) (pss_one ps_never) pss_nil)
      (pss_one (ps_ret (pe_makeS (i := 0) M G hr pass0 rfl (Or.inl rfl) (pv 1)))), ?_⟩
    refine ⟨_, rfl, .ref L, .ty "tuple", .type "tuple", .type "tuple", true, rfl, .ty _, dp_ty hL.dp, kit_ty (by decide +kernel), _, rfl, iteF ?_⟩
    exact ⟨rfl, _, rfl, L, _, rfl, .inl hL.1, made_reader (L := L) hL.2 ok k⟩
structure TxR2 (K : PySem.W.Frag) (mg : Str → Option Value) (P : Program) (w : World) (base : Heap) (C : Addr) : Prop extends TxR1 K mg P w base C where
  of_ : HasC P w K mg base C "of" 7 (spOf K C)
theorem keys_reads (t : Str) : ∀ ps : List Str, keysOf ["if"] (ps.map (Ln.read t)) = []
  | [] => rfl
  | p :: ps => by
    have ih := keys_reads t ps
    unfold keysOf at ih ⊢
    rw [List.map_cons, List.filter_cons_of_neg (a := Ln.read t p) (p := fun l => [("if" : Str)].contains l.word) (show ¬ ([("if" : Str)].contains ("read" : Str)) = true by decide +kernel)]
    exact ih
theorem asc_nil {ps : List (List Str)} (h : Asc [] ps) : ps = [] := by
  cases ps with
  | nil => rfl
  | cons p ps => exact absurd ((h.mem p).mp List.mem_cons_self) List.not_mem_nil
theorem reads_ok {t : Str} {ps : List Str} {rs : RowsL} (e : rs.map Prod.snd = ps.map (Ln.read t)) (ht : nameS t = true) (hp : ∀ p ∈ ps, nameS p = true) (few : ps.length ≤ 16) : RdOk rs := by
  have hl : rs.length = ps.length := by have := congrArg List.length e; simpa using this
  refine ⟨by omega, fun r hr => ?_, fun qs hq => ?_⟩
  · have : r.2 ∈ ps.map (Ln.read t) := by rw [← e]; exact List.mem_map_of_mem hr
    obtain ⟨p, h1, h2⟩ := List.mem_map.mp this
    rw [← h2]
    show (nameS t && nameS p) = true
    rw [ht, hp p h1]; rfl
  · rw [e, keys_reads] at hq
    rw [asc_nil hq]; decide
end
end Rd

namespace Rd
open PySem PySem.Spec PyProof.Rows L2 Tq Dn Dc
abbrev sLines : Stmt := inClass cReader 3
abbrev sTested : Stmt := inClass cReader 4
abbrev sPrs : Stmt := inClass cReader 5
abbrev sPlain : Stmt := inClass cReader 6
abbrev sReadings : Stmt := inClass cReader 7
abbrev sGet : Stmt := inClass cReader 14
abbrev sHas : Stmt := inClass cReader 15
abbrev sLen : Stmt := inClass cReader 17
abbrev sEq : Stmt := inClass cReader 18
abbrev sStr : Stmt := inClass cReader 19
abbrev sNeed : Stmt := inClass cReader 20
abbrev lnsOf (rs : RowsL) : List Ln := rs.map Prod.snd
def spPrs (K : PySem.W.Frag) (C : Addr) : Sp := fun vs H Q _ => ∃ (r : Addr) (rs : RowsL), vs = [.ref r] ∧ RdAt K C H r rs ∧ RdOk rs ∧ ∀ H' p ps, Same H H' → H p = none → Asc (keysOf ["read", "look", "if"] (lnsOf rs)) ps → PairsAt K H' p ps → Q (.ref p) H'
def spPlain (K : PySem.W.Frag) (C : Addr) : Sp := fun vs H Q _ => ∃ (r : Addr) (rs : RowsL), vs = [.ref r] ∧ RdAt K C H r rs ∧ RdOk rs ∧ ∀ H', Same H H' → Q (.bl ((lnsOf rs).all fun l => decide (l.word = "read"))) H'
def spLen (K : PySem.W.Frag) (C : Addr) : Sp := fun vs H Q _ => ∃ (r : Addr) (rs : RowsL), vs = [.ref r] ∧ RdAt K C H r rs ∧ Q (.int (rs.length : Int)) H
/-- what isinstance asks of the class -/
structure TxI (K : PySem.W.Frag) (C : Addr) : Prop where
  ha : PySem.W.findIn K (.ref C) "__class__" = some (some (.builtin "object.__class__"))
  hn : PySem.W.specialIn K (.builtin "object.__class__") "__get__" = some (some (.builtin "getset_descriptor.__get__"))
  htk : PySem.W.takesIn K (.builtin "object.__class__") = some true
  hm : PySem.W.mroIn K C (.type "object") = some true
  self : PySem.W.kitOne K (.ref C) (.ref C) = some true
  no : ∀ t ∈ tys, PySem.W.kitOne K (.type t) (.ref C) = some false
/-- another value than a reader, and no instance -/
def NoRd (K : PySem.W.Frag) (H : Hp) (v : V) : Prop := ∃ t, t ∈ tys ∧ TyX K H v (.type t)
theorem dp_no {K : PySem.W.Frag} {H : Hp} {v : V} {d : PyData} (h : Dp K H v d) : NoRd K H v := ⟨_, mem_ty d, dp_ty h⟩
def spEqR (K : PySem.W.Frag) (C : Addr) : Sp := fun vs H Q _ => ∃ (r : Addr) (rs : RowsL) (v : V), vs = [.ref r, v] ∧ RdAt K C H r rs ∧ RdOk rs ∧
  ((∃ b ss, v = .ref b ∧ RdAt K C H b ss ∧ RdOk ss ∧ Q (.bl (decide (lnsOf rs = lnsOf ss))) H) ∨ (NoRd K H v ∧ Q (.bl false) H))
def spHas (K : PySem.W.Frag) (C : Addr) : Sp := fun vs H Q _ => ∃ (r : Addr) (rs : RowsL) (v : V), vs = [.ref r, v] ∧ RdAt K C H r rs ∧ RdOk rs ∧
  ((∃ d, Dp K H v d ∧ SeqAt.shaped d = true ∧ Mod_ d ∧ ∀ H', Same H H' → Q (.bl (lineD d rs.length && (lnsOf rs).any fun l => PyData.eqv l.d d)) H') ∨ (TyX K H v (.type "dict") ∧ Q (.bl false) H))
def rdText (n m : Nat) : Str := (((("reader of " : Str) ++ toString (n : Int)) ++ (" lines, " : Str)) ++ toString (m : Int)) ++ (" tested" : Str)
def spStr (K : PySem.W.Frag) (C : Addr) : Sp := fun vs H Q _ => ∃ (r : Addr) (rs : RowsL), vs = [.ref r] ∧ RdAt K C H r rs ∧ RdOk rs ∧ ∀ ps, Asc (keysOf ["if"] (lnsOf rs)) ps → Q (.str (rdText rs.length ps.length)) H
section
variable {P : Program} {w : World} {K : PySem.W.Frag} {mg : Str → Option Value} {base : Heap}
theorem sc1 {st : Stmt} (h : FnScope ["self"] ["self"] (defScope st)) : FnScope ["self"] ["self"] (defScope st) := h
theorem scLs : FnScope ["self"] ["self"] (defScope sLines) := ⟨rfl, rfl, rfl, by decide +kernel, rfl, by decide +kernel, by decide +kernel⟩
theorem scTs : FnScope ["self"] ["self"] (defScope sTested) := ⟨rfl, rfl, rfl, by decide +kernel, rfl, by decide +kernel, by decide +kernel⟩
theorem ok_lines {C f : Addr} {fd : FuncData} (F : Fun K "lines" "Reader.lines" sLines f fd) (T : TxR0 K mg P w base C) : FnOk P w K mg base CX0 1 f fd ["self"] (getSp C "_lines") := by
  refine F.ok scLs (fun vs H Q E h => ?_) (fun cdv A outer s H vs Q E hr h => ?_)
  · obtain ⟨a, dx, fs, v, rfl, _⟩ := h; rfl
  · obtain ⟨a, dx, fs, v, rfl, ea, l, q⟩ := h
    exact ⟨_, pss_one (ps_ret (pe_fld (pv 0) rfl)), ⟨_, rfl, a, C, dx, fs, v, rfl, ea, T.cl, T.nL, l, q⟩⟩
theorem ok_tested {C f : Addr} {fd : FuncData} (F : Fun K "tested" "Reader.tested" sTested f fd) (T : TxR0 K mg P w base C) : FnOk P w K mg base CX0 1 f fd ["self"] (getSp C "_tested") := by
  refine F.ok scTs (fun vs H Q E h => ?_) (fun cdv A outer s H vs Q E hr h => ?_)
  · obtain ⟨a, dx, fs, v, rfl, _⟩ := h; rfl
  · obtain ⟨a, dx, fs, v, rfl, ea, l, q⟩ := h
    exact ⟨_, pss_one (ps_ret (pe_fld (pv 0) rfl)), ⟨_, rfl, a, C, dx, fs, v, rfl, ea, T.cl, T.nT, l, q⟩⟩
theorem scPs : FnScope ["self"] ["self"] (defScope sPrs) := ⟨rfl, rfl, rfl, by decide +kernel, rfl, by decide +kernel, by decide +kernel⟩
theorem ok_prs {C f : Addr} {fd : FuncData} (F : Fun K "pairs" "Reader.pairs" sPrs f fd) (T : TxR0 K mg P w base C) : FnOk P w K mg base CX0 3 f fd ["self"] (spPrs K C) := by
  obtain ⟨q, qd, mQ, kQ, bQ, GQ⟩ := T.pairs
  refine F.ok scPs (fun vs H Q E h => ?_) (fun cdv A outer s H vs Q E hr h => ?_)
  · obtain ⟨r, rs, rfl, _⟩ := h; rfl
  · obtain ⟨r, rs, rfl, ⟨dx, L, TT, ps, e, hL, _⟩, ok, k⟩ := h
    refine ⟨_, pss_one (ps_ret (pe_call GQ hr (by rfl) mQ kQ bQ .nil pass0 (pa_cons (pe_fld (pv 0) rfl) (pa_cons (pe_tup (pa_cons pe_str (pa_cons pe_str (pa_cons pe_str pa_nil)))) pa_nil)))), ?_⟩
    refine ⟨_, rfl, r, C, dx, _, _, rfl, e, T.cl, T.nL, rd_lines L TT, (by show 3 ≤ sizeLine; decide), fun t nt => ?_⟩
    have st := same_new (o := HO.tup [V.str "read", V.str "look", V.str "if"]) nt
    exact ⟨L, t, rs, ["read", "look", "if"], rfl, hL.up st, SqT.of upd_same, (by decide +kernel), by have := ok.few; omega, fun H' p qs s' np hA hP => k H' p qs (st.trans s') (st.free np) hA hP⟩
theorem scPl : FnScope ["self", "line"] ["self"] (defScope sPlain) := ⟨rfl, rfl, rfl, by decide +kernel, rfl, by decide +kernel, by decide +kernel⟩
theorem scLe : FnScope ["self"] ["self"] (defScope sLen) := ⟨rfl, rfl, rfl, by decide +kernel, rfl, by decide +kernel, by decide +kernel⟩
theorem ok_len {C f : Addr} {fd : FuncData} (F : Fun K "__len__" "Reader.__len__" sLen f fd) (T : TxR0 K mg P w base C) : FnOk P w K mg base CX0 1 f fd ["self"] (spLen K C) := by
  refine F.ok scLe (fun vs H Q E h => ?_) (fun cdv A outer s H vs Q E hr h => ?_)
  · obtain ⟨r, rs, rfl, _⟩ := h; rfl
  · obtain ⟨r, rs, rfl, ⟨dx, L, TT, ps, e, hL, _⟩, k⟩ := h
    refine ⟨_, pss_one (ps_ret (pe_callB call_lenT (by rfl) T.len PySem.boot_len (pa_cons (pe_fld (pv 0) rfl) pa_nil))), ?_⟩
    refine ⟨_, rfl, r, C, dx, _, _, rfl, e, T.cl, T.nL, rd_lines L TT, L, _, rfl, hL.1, ?_⟩
    rw [List.length_map]; exact k
theorem lns_safe {rs : RowsL} (ok : RdOk rs) : ∀ l ∈ lnsOf rs, l.safe := fun l hl => by
  obtain ⟨r, hr, rfl⟩ := List.mem_map.mp hl
  exact fine_safe (ok.fine r hr)
theorem scEq : FnScope ["self", "other"] ["self", "other"] (defScope sEq) := ⟨rfl, rfl, rfl, by decide +kernel, rfl, by decide +kernel, by decide +kernel⟩
theorem ok_eq {C f : Addr} {fd : FuncData} (F : Fun K "__eq__" "Reader.__eq__" sEq f fd) (T : TxR0 K mg P w base C) (I : TxI K C) : FnOk P w K mg base CX0 1 f fd ["self", "other"] (spEqR K C) := by
  refine F.ok scEq (fun vs H Q E h => ?_) (fun cdv A outer s H vs Q E hr h => ?_)
  · obtain ⟨r, rs, v, rfl, _⟩ := h; rfl
  · obtain ⟨r, rs, v, rfl, ⟨dx, L, TT, ps, e, hL, _⟩, ok, k⟩ := h
    refine ⟨_, pss_one (ps_ret (pe_and (pe_callB call_isi (by rfl) T.isi PyProof.Rows.boot_isinstance (pa_cons (pv 1) (pa_cons (pe_glob (v := .ref C) (by rfl) T.mgC rfl) pa_nil)))
      (pe_one (pe_cmpR (op_eqD hr.units) (pe_fld (pv 0) rfl) (pe_fld (pv 1) rfl) (nomark _))))), ?_⟩
    rcases k with ⟨b, ss, rfl, ⟨dx2, L2, TT2, ps2, e2, hL2, _⟩, ok2, k⟩ | ⟨⟨t, ht, ty⟩, k⟩
    · refine ⟨_, rfl, .ref b, .ref C, .ref C, .ref C, true, rfl, .own C, .base (.ins e2 T.cl I.ha I.hn I.htk I.hm), I.self, _, rfl, iteT ?_⟩
      refine ⟨_, rfl, r, C, dx, _, _, rfl, e, T.cl, T.nL, rd_lines L TT, _, rfl, b, C, dx2, _, _, rfl, e2, T.cl, T.nL, rd_lines L2 TT2, ?_⟩
      refine ⟨_, _, hL.dp, hL2.dp, dls_shaped (lns_safe ok), dls_shaped (lns_safe ok2), ?_⟩
      rw [dls_eqv]
      exact k
    · exact ⟨_, rfl, v, .ref C, .type t, .ref C, false, rfl, .own C, ty, I.no t ht, _, rfl, iteF k⟩
theorem scHa : FnScope ["self", "x"] ["self", "x"] (defScope sHas) := ⟨rfl, rfl, rfl, by decide +kernel, rfl, by decide +kernel, by decide +kernel⟩
theorem scSt : FnScope ["self"] ["self"] (defScope sStr) := ⟨rfl, rfl, rfl, by decide +kernel, rfl, by decide +kernel, by decide +kernel⟩
theorem num_few : ∀ n : Nat, n < 17 → (toString (n : Int) : Str).length ≤ 2 ∧ (n : Int).natAbs.log2 < 1920 := by decide +kernel
theorem app_len (x y : Str) : (x ++ y).length = x.length + y.length := by
  show (x.cps ++ y.cps).size = _
  rw [Array.size_append]; rfl
theorem emp_app (x : Str) : Str.empty ++ x = x := by
  show Str.mk (Str.empty.cps ++ x.cps) = x
  have : Str.empty.cps = #[] := rfl
  rw [this, Array.empty_append]
theorem ok_str {C f : Addr} {fd : FuncData} (F : Fun K "__str__" "Reader.__str__" sStr f fd) (T : TxR0 K mg P w base C) : FnOk P w K mg base CX0 1 f fd ["self"] (spStr K C) := by
  refine F.ok scSt (fun vs H Q E h => ?_) (fun cdv A outer s H vs Q E hr h => ?_)
  · obtain ⟨r, rs, rfl, _⟩ := h; rfl
  · obtain ⟨r, rs, rfl, ⟨dx, L, TT, ps, e, hL, hA, hP⟩, ok, k⟩ := h
    refine ⟨_, pss_one (ps_ret (pe_joined (.cons pe_str (.cons (pe_fmt (pe_callB call_lenT (by rfl) T.len PySem.boot_len (pa_cons (pe_fld (pv 0) rfl) pa_nil))) (.cons pe_str (.cons (pe_fmt (pe_callB call_lenT (by rfl) T.len PySem.boot_len (pa_cons (pe_fld (pv 0) rfl) pa_nil))) (.cons pe_str .nil))))))), ?_⟩
    have n1 := num_few rs.length (by have := ok.few; omega)
    have n2 := num_few ps.length (by have := ok.six ps hA; omega)
    obtain ⟨prs, ep, hp1, hp2⟩ := id hP
    have el : (prs.map fun r => V.ref r.1).length = ps.length := by rw [← ep, List.length_map, List.length_map]
    have l1 : (("reader of " : Str)).length = 10 := by decide +kernel
    have l2 : ((" lines, " : Str)).length = 8 := by decide +kernel
    have l3 : ((" tested" : Str)).length = 7 := by decide +kernel
    refine ⟨_, rfl, by rw [emp_app, l1, sizeLine_eq]; omega, _, rfl, r, C, dx, _, _, rfl, e, T.cl, T.nL, rd_lines L TT, L, _, rfl, hL.1, .inr ⟨_, rfl, by rw [List.length_map]; exact n1.2, _, rfl, ?_, ?_⟩⟩
    · rw [emp_app, app_len, List.length_map, l1, sizeLine_eq]; omega
    · refine ⟨_, rfl, ?_, _, rfl, r, C, dx, _, _, rfl, e, T.cl, T.nT, rd_tested L TT, TT, _, rfl, hp1, .inr ⟨_, rfl, by rw [el]; exact n2.2, _, rfl, ?_, ?_⟩⟩
      · rw [emp_app, app_len, app_len, List.length_map, l1, l2, sizeLine_eq]; omega
      · rw [emp_app, app_len, app_len, app_len, el, List.length_map, l1, l2, sizeLine_eq]; omega
      · refine ⟨_, rfl, ?_, ?_⟩
        · rw [emp_app, app_len, app_len, app_len, app_len, el, List.length_map, l1, l2, l3, sizeLine_eq]; omega
        · rw [emp_app, el, List.length_map]
          exact k ps hA
end
end Rd

/-! The set of the items of a tuple, all of them tuples of texts. -/
namespace Tq
open PySem PySem.Spec PyProof.Rows L2
section
variable {P : Program} {w : World} {κ : Type} [DecidableEq κ] {kd : KeyKind P w κ} {A : Around} {E : Value → Shared → Prop} {s : Shared}
/-- set(l), l a tuple of such tuples -/
theorem call_setTu (M : Mild kd) {l : Addr} {items : Array Value} (ks : List (Row κ)) {Q : Value → Shared → Prop} (hh : A.handled = none) (hl : IsTup s.heap l items) (hi : items.toList = ks.map fun r => Value.ref r.1) (mem : Are kd s.heap ks)
    (few : ks.length < 64) (hu : A.units + 3 < cLine)
    (q : ∀ (h' : Heap) (tk : Nat) L es ep t, Lies kd h' s.heap.objs.size L es ep t → Held ks ks.length L → (∀ b o, s.heap.get? b = some o → h'.get? b = some o) → Q (.ref s.heap.objs.size) { s with heap := h', toks := tk }) :
    wpAny (model P w) A (call (.type "set") [.ref l]) Q E s := by
  have hn : items.size = ks.length := by rw [← Array.length_toList, hi, List.length_map]
  generalize hS : s.heap.objs.size = S at q ⊢
  have free : ∀ b, S ≤ b → s.heap.get? b = none := fun b hb => Heap.get?_none_of_le (hS ▸ hb)
  have lS : l < S := by obtain ⟨o, ho, _⟩ := hl; exact hS ▸ Heap.lt_size ho
  obtain ⟨c, tl, mro⟩ := F.called_set.mro
  have f1 := F.called_set.made
  have f2 := F.called_set.sub
  have f3 := F.called_set.notType
  have f4 := F.called_set.canCreate
  have f5 := F.typeCall_set_1 (.ref l)
  refine wpAny_call (codeAny_of_tree ?_)
  show wpAny _ _ (callAny (.type "set") _) _ _ _
  refine wpAny_pure ⟨Code.quiet_builtin _ (by decide +kernel), codeAny_builtin F.entry_type_call ?_⟩
  rw [Around.under_plain (weight_type_call_type "set" [.ref l] []) rfl]
  repeat (any_goals (first | assumption | wp_step))
  refine codeAny_mono (code_set_led1 (.ref l) (E := E) (Q₁ := fun obj s₁ => obj = .ref S ∧ s₁ = { s with heap := s.heap.push (newSet w) }) ⟨by rw [hS], rfl⟩) fun r s₁ hr => ?_
  match r, hr with
  | .error e, hr => exact hr
  | .ok (.ret obj), hr =>
    obtain ⟨rfl, rfl⟩ := hr
    have at0 : (s.heap.push (newSet w)).get? S = some (newSet w) := hS ▸ Heap.get?_push_size _ rfl
    have ty : Shared.TypeIs { s with heap := s.heap.push (newSet w) } (.ref S) "set" := ⟨_, at0, rfl⟩
    have g1 := F.called_set.init.lookup
    have g2 := F.called_set.init.bind (.ref S)
    repeat (any_goals (first | assumption | wp_step))
    refine codeAny_mono (codeAny_call_builtin (R := wants (fun r s₂ => r = .none ∧ ∃ h' tk L es ep t, s₂ = { s with heap := h', toks := tk } ∧ Lies kd h' S L es ep t ∧ Held ks ks.length L ∧ (∀ b o, s.heap.get? b = some o → h'.get? b = some o)) E)
      F.called_set.init.plain F.entry_set_init (check_set_init_1 ty ?_)) fun r₂ s₂ hr₂ => ?_
    · obtain ⟨ol, hol, hcl, nl, hdl⟩ := hl
      obtain ⟨cl, di, da, sl⟩ := ol
      simp only at hcl hdl
      subst hcl hdl
      have ol1 : (s.heap.push (newSet w)).get? l = some { cls := .type "tuple", dict := di, data := .seq items nl, slots := sl } := Heap.get?_push_of_some _ hol
      have l1 : IsTup (s.heap.push (newSet w)) l items := ⟨_, ol1, rfl, nl, rfl⟩
      have b1 := F.sub_tuple_set
      have b2 := F.sub_tuple_frozenset
      have b3 : (Value.type "tuple" == Value.type "dict") = false := by decide
      unfold Builtin.«set.__init__» noKeywords Builtin.Frozenset.updateFrom
      generalize hPI : pyIter = PI
      wp_walk
      subst hPI
      refine wpAny_pyIter_tuple l1 (wpAny_bind (wpAny_runValue ?_))
      have sz : (s.heap.push (newSet w)).objs.size = S + 1 := by rw [size_push', hS]
      have vals : ∀ (i : Nat) (v : Value), items[i]? = some v → ∃ r, ks[i]? = some r ∧ v = .ref r.1 := fun i v e => by
        have e2 : (ks.map fun r => Value.ref r.1)[i]? = some v := by rw [← hi, Array.getElem?_toList]; exact e
        rw [List.getElem?_map] at e2
        cases h : ks[i]? with
        | none => rw [h] at e2; cases e2
        | some r => rw [h] at e2; exact ⟨r, rfl, (Option.some.inj e2).symm⟩
      refine all_in M ((Walks.tuple (A := A.in1.in1.in1) (by simp [hh]) (s.heap.push (newSet w)).objs.size l (by rw [sz]; exact Nat.ne_of_lt (Nat.lt_succ_of_lt lS)) items).toS) S
        (by rw [sz]; simp; exact Nat.ne_of_gt lS) ks hn few vals s.heap mem (free S (Nat.le_refl _)) (fun b hb => free b (by rw [List.mem_singleton.mp hb, sz]; exact Nat.le_succ _)) hu s.gens s.drawn s.os ?fin
        (items.size - 0) 0 _ rfl (Nat.zero_le _) ⟨⟨_, Heap.get?_push_size _ rfl, rfl, rfl⟩, l1.push _⟩ (fun b o e => Heap.get?_push_of_some _ (Heap.get?_push_of_some _ e))
        ⟨[], #[], 0, _, lies_new (Heap.get?_push_of_some _ at0), ⟨fun r z => (by cases z), fun r z => (by simp at z), Nat.le_refl _⟩⟩ rfl rfl rfl
      case fin =>
        intro s' L es ep t T H keep eg ed eo
        obtain ⟨h', g, d, tk, os⟩ := s'
        simp only at eg ed eo
        subst eg ed eo
        refine wpAny_pure ?_
        show wpAny _ _ (ret Value.none) _ _ _
        exact wpAny_pure ⟨rfl, h', tk, L, es, ep, t, rfl, T, hn ▸ H, keep⟩
    · match r₂, hr₂ with
      | .error e, hr₂ => exact hr₂
      | .ok (.ret r), hr₂ =>
        obtain ⟨rfl, h', tk, L, es, ep, t, rfl, T, H, keep⟩ := hr₂
        repeat (any_goals (first | assumption | wp_step))
        exact q _ _ _ _ _ _ T H keep
end
section
variable {X : Cx}
/-- set(t), t a tuple -/
def rSetXT (K : PySem.W.Frag) (P : Program) (w : World) : List V → Hp → VK → Prop := fun xs H Q => ∃ (l : Addr) (ks : List (Row Str)), xs = [V.ref l] ∧ SqT K H l (ks.map fun r => V.ref r.1) ∧ TupsX K H ks ∧ ks.length < 64 ∧
  ∀ a L, H a = none → (∀ r ∈ L, r ∈ ks) → (∀ r ∈ ks, r.2 ∈ L.map Prod.snd) → Q (.ref a) (upd H a (SetX P w a L))
theorem cr_setXT (hc : X.calm = true) (hu : X.A.units + 64 < cLine) : CallR X (.type "set") (rSetXT X.K X.prog X.w) := by
  intro pins s σ H xs us Q I r h
  obtain ⟨l, ks, rfl, hl, hk, few, q⟩ := h
  rw [Vals.ref1 r]
  obtain ⟨its, rv, pl, _⟩ := I.tuple hl
  refine call_setTu (P := X.prog) (w := X.w) (mild_str _ _) ks (I.ok.hd hc) pl (by simpa using refs_of rv) (fun r hr => isX_of I (hk r hr)) few (by omega) fun h' tk L es ep t T Hd keep => ?_
  refine ⟨.ref s.heap.objs.size, upd H s.heap.objs.size (SetX X.prog X.w s.heap.objs.size L), I.laid (t' := tk) keep (Nat.le_refl _) (setX_new ⟨es, ep, t, T⟩), rfl, q _ L (I.hok.fresh (Nat.le_refl _)) Hd.of fun r hr => Hd.to r ?_⟩
  rw [List.take_length]; exact hr
end
end Tq

/-! Sets of texts by a comprehension, and how many they have -/
namespace Tq
open PySem PySem.Spec PyProof.Rows L2 PpSet
section
variable {X : Cx}
theorem addT_ok {pins : List (Addr × Obj)} {σ : L2.St} {H : Hp} {s : Shared} {E : Value → Shared → Prop} {D : Addr} {L : List Str} {y : Str} {u : Tok} {Q : Value → Shared → Prop} (I : Inv X pins σ H s) (hD : H D = some (SetT X.prog X.w D L)) (room : L.length + 1 < scanBound)
    (h : ∀ L', Onto y L L' → ∀ s', Inv X pins σ (upd H D (SetT X.prog X.w D L')) s' → Q .none s') : wpAny (model X.prog X.w) X.A (call (.builtin "set.add") [.ref D, .str y u]) Q E s := by
  obtain ⟨es, ep, t, T⟩ : ∃ es ep t, Txts X.prog X.w s.heap D L es ep t := (I.hok D _ hD).1
  obtain ⟨o, ho, hex, _⟩ := id T.obj
  have ty : s.TypeIs (.ref D) "set" := ⟨o, ho, hex.1⟩
  refine wpAny_call_entry F.slot_set_add ty F.entry_set_add ?_ (F.args_set_add_2 _ _)
  unfold Builtin.«set.add» Builtin.Frozenset.oneOther
  simp only [List.isEmpty_nil, bind_assoc]
  unfold Builtin.Frozenset.addrOf setAdd
  refine wpAny_bind (wpAny_pure ?_); try dsimp only
  refine wpAny_bind (wpAny_pure ?_); try dsimp only
  refine wpAny_bind (wpAny_holding (wpAny_bind ((sk X.prog X.w).pyHash (strKind_is _ _ _ _) ?_)))
  refine txt_in (s := { s with toks := s.toks + 1 }) T room fun b h' L' es' ep' t' sb T' on => ?_
  show wpAny _ _ (ret Value.none) _ _ _
  refine wpAny_pure ⟨_, rfl, ?_⟩
  have he : ∃ u, h'.get? D = some u := let ⟨o, ho, _⟩ := T'.obj; ⟨o, ho⟩
  exact h L' on _ (I.write (e := D) (t' := s.toks + 1) (by rw [hD]; trivial) (.inl rfl) (fun b u hb hu => (sb.2 b hb).trans hu) he (setT_new ⟨es', ep', t', T'⟩))
/-- len of a set of texts -/
theorem call_lenTx : CallR X (.builtin "len") (fun xs H Q => ∃ a L, xs = [V.ref a] ∧ H a = some (SetT X.prog X.w a L) ∧ Q (.int L.length) H) := by
  intro pins s σ H xs us Q I r h
  obtain ⟨a, L, rfl, ha, q⟩ := h
  rw [Vals.ref1 r]
  obtain ⟨es, ep, t, T⟩ : ∃ es ep t, Txts X.prog X.w s.heap a L es ep t := (I.hok a _ ha).1
  obtain ⟨o, ho, hex, hd⟩ := id T.obj
  have e := T.len
  refine call_len_set ho hex hd T.fit (by have := T.few; unfold scanBound at this; omega) ?_
  rw [e]
  exact ⟨.int L.length, H, I.kept (t' := s.toks + 1 + 1) (fun _ _ z => z), ⟨_, rfl⟩, q⟩
/-- {elt for target in iter if ..}, elt a text: D the new set -/
def tSt (P : Program) (w : World) (wi : TI) (g : TG) (tt : TT) (te : TE) (vs : List Nat) : TE := fun σ H Q => wi σ H fun J H1 => ∀ D, H1 D = none → ∃ W : Nat → Nat → Hp → Prop, (∃ m, W 0 m (upd H1 D (SetT P w D []))) ∧ ∀ i m H, W i m H →
  (J.stop i H ∧ Q (.ref D) H) ∨ (J.go i H ∧ ∃ Nx : Hp → Prop, (∀ H', Nx H' → ∃ m', m' < m ∧ W (i + 1) m' H') ∧ ∀ x H', J.yld i H x H' → g x (wipe σ vs) H' fun σ2 H2 => wipe σ2 vs = wipe σ vs ∧ tt σ2 H2 fun b H3 =>
    if b = true then te σ2 H3 fun y H4 => ∃ (k : Str) (L : List Str), y = .str k ∧ H4 D = some (SetT P w D L) ∧ L.length + 1 < scanBound ∧ (∀ L', Onto k L L' → Nx (upd H4 D (SetT P w D L'))) else Nx H3)
/-- a new empty set of texts on the heap -/
def emptySet (X : Cx) : Obj := { cls := .type "set", dict := none, data := .set #[] 0 (.fresh 0 0 (!X.w.params.followText "set-order")) }
theorem Inv.emptySet {pins : List (Addr × Obj)} {σ : L2.St} {H : Hp} {s : Shared} (I : Inv X pins σ H s) : Inv X pins σ (upd H s.heap.objs.size (SetT X.prog X.w s.heap.objs.size [])) { s with heap := s.heap.push (Tq.emptySet X) } :=
  I.laid (t' := s.toks) (fun _ _ => Heap.get?_push_of_some _) (Nat.le_refl _) (setT_new ⟨_, _, _, txts_new (Heap.get?_push_size _ rfl)⟩)
/-- the iterator's objects are as they were: so is the iterator -/
theorem keepTn {P : Program} {w : World} {K : PySem.W.Frag} {tg : Expr} {J : It} {fp : List Addr} {it : Addr} {tn : Nat → Heap → Prop} {i : Nat} {h h' : Heap} (T : Turn P w K tg J fp it tn) (st : tn i h) (k : ∀ b o, h.get? b = some o → h'.get? b = some o) : tn i h' :=
  T.keep _ _ _ st fun b _ o e => k b o e
theorem fpPush {pins : List (Addr × Obj)} {H : Hp} {Ob : HO} {s : Shared} {P : Program} {w : World} {K : PySem.W.Frag} {tg : Expr} {J : It} {fp : List Addr} {it : Addr} {tn : Nat → Heap → Prop} {i : Nat} {o : Obj} (T : Turn P w K tg J fp it tn) (st : tn i s.heap) (f : ∀ b ∈ fp, FpOk X pins H b) :
    ∀ b ∈ fp, FpOk X pins (upd H s.heap.objs.size Ob) b ∧ b < (s.heap.push o).objs.size := fun b hb => by
  obtain ⟨_, e, _⟩ := T.obj _ _ st b hb
  have lt := Heap.lt_size e
  rw [Heap.size_push]
  refine ⟨⟨(upd_ne (Nat.ne_of_lt lt)).trans (f b hb).1, (f b hb).2⟩, Nat.lt_succ_of_lt lt⟩
/-- a block's own iterator, met in the block -/
theorem blkFp {s0 : Shared} {H0 : Hp} {scope : Scope} {ce : Env} {fp : List Addr} {σ : L2.St} {H : Hp} {s : Shared} (I : Inv (X.blk s0 H0 scope ce fp) [] σ H s) (n : ∀ b ∈ fp, H b = none) : ∀ b ∈ fp, FpOk (X.blk s0 H0 scope ce fp) [] H b := by
  intro b hb
  have x := I.ok.exf b hb
  refine ⟨n b hb, x.1, I.ok.exfs b hb, Or.inl hb, fun y c e => x.2 y c e, ?_⟩
  intro p hp
  cases (show p ∈ ([] : List (Addr × Obj)) ++ [] from hp)
/-- what holds between two turns -/
structure Btw (Y : Cx) (σ0 : L2.St) (fp : List Addr) (tn : Nat → Heap → Prop) (W : Nat → Nat → Hp → Prop) (n : Nat) (s : Shared) (i : Nat) (H : Hp) : Prop where
  inv : Inv Y [] σ0 H s
  it : tn i s.heap
  off : ∀ b ∈ fp, H b = none
  wit : W i n H
/-- a turn is over: the block's variables are unbound again -/
theorem Btw.next {s0 : Shared} {H0 : Hp} {scope : Scope} {ce : Env} {fp : List Addr} {σ σ8 : L2.St} {vs : List Nat} {tn : Nat → Heap → Prop} {W : Nat → Nat → Hp → Prop} {n i : Nat} {h7 : Heap} {s' : Shared} {H' : Hp} {tg : Expr} {J : It} {it : Addr} {P : Program} {w : World} {K : PySem.W.Frag}
    (T : Turn P w K tg J fp it tn) (st7 : tn (i + 1) h7) (hw : wipe σ8 vs = wipe σ vs) (I : Inv (X.blk s0 H0 scope ce fp) ([] ++ pinsAt fp h7) σ8 H' s') (nx : ∃ m, m < n ∧ W (i + 1) m H') : ∃ m, m < n ∧ ∃ i H, Btw (X.blk s0 H0 scope ce fp) (wipe σ vs) fp tn W m s' i H := by
  obtain ⟨m, lt, w'⟩ := nx
  have same : ∀ b ∈ fp, ∀ o, h7.get? b = some o → s'.heap.get? b = some o ∧ H' b = none := by
    intro b hb o e
    have pin := I.pin (b, o) (List.mem_append_right _ (List.mem_append_right _ (mem_pinsAt hb e)))
    exact ⟨pin.1, pin.2.1⟩
  have len : (wipe σ vs).length = σ8.length := (congrArg List.length hw).symm.trans (wipe_length _ _)
  refine ⟨m, lt, i + 1, H', ⟨(Inv.unpinned (pins := []) I).weak len ?_, T.keep _ _ _ st7 fun b hb o e => (same b hb o e).1, ?_, w'⟩⟩
  · intro j v e
    exact (wipe_some (hw ▸ e)).1
  · intro b hb
    obtain ⟨o, e, _⟩ := T.obj _ _ st7 b hb
    exact (same b hb o e).2
/-- the walk of a set of texts -/
theorem st_walk {Qf : Result → Shared → Prop} {s0 : Shared} {H0 : Hp} {scope : Scope} {ce : Env} {fp : List Addr} {σ : L2.St} {vs : List Nat} {tn : Nat → Heap → Prop} {W : Nat → Nat → Hp → Prop} {elt tg iter : Expr} {ifs : List Expr} {pos : Pos} {J : It} {it D : Addr} {g : TG} {tt : TT} {te : TE} {Qr : Hp → Prop} {m0 i0 : Nat} {H : Hp} {s4 : Shared}
    (hc : X.calm = true) (T : Turn X.prog X.w X.K tg J fp it tn) (pg : PG (X.blk s0 H0 scope ce fp) tg g) (pt : PTs (X.blk s0 H0 scope ce fp) ifs tt) (pe : PE (X.blk s0 H0 scope ce fp) elt te)
    (turn : ∀ i m H, W i m H → (J.stop i H ∧ Qr H) ∨ (J.go i H ∧ ∃ Nx : Hp → Prop, (∀ H', Nx H' → ∃ m', m' < m ∧ W (i + 1) m' H') ∧ ∀ x H', J.yld i H x H' → g x (wipe σ vs) H' fun σ2 H2 => wipe σ2 vs = wipe σ vs ∧ tt σ2 H2 fun b H3 =>
      if b = true then te σ2 H3 fun y H4 => ∃ (k : Str) (L : List Str), y = .str k ∧ H4 D = some (SetT X.prog X.w D L) ∧ L.length + 1 < scanBound ∧ (∀ L', Onto k L L' → Nx (upd H4 D (SetT X.prog X.w D L'))) else Nx H3))
    (out : ∀ H s, Inv (X.blk s0 H0 scope ce fp) [] (wipe σ vs) H s → Qr H → Qf (.ok .next) s)
    (b0 : Btw (X.blk s0 H0 scope ce fp) (wipe σ vs) fp tn W m0 s4 i0 H) : codeAny (model X.prog X.w) X.A (.compLoop (.SetComp elt [⟨tg, iter, ifs, 0⟩] scope pos) 0 (.ref it) (.ref D) ce) Qf s4 := by
  refine compLoopS_any (fun n s' => ∃ i H', Btw (X.blk s0 H0 scope ce fp) (wipe σ vs) fp tn W n s' i H') ?_ m0 ⟨i0, H, b0⟩
  rintro n s5 ⟨i, H5, b⟩
  obtain ⟨stop, q⟩ | ⟨go, Nx, dec, step⟩ := turn i n H5 b.wit
  · exact thnF (T.done (X.blk s0 H0 scope ce fp) rfl rfl rfl hc i [] s5 _ H5 (fun _ _ => False) b.inv (blkFp b.inv b.off) b.it stop) fun r s6 ⟨e, I⟩ => by
      subst e
      exact out H5 s6 I q
  refine thnF (T.item (X.blk s0 H0 scope ce fp) rfl rfl rfl hc i [] s5 _ H5 (fun _ _ => False) b.inv (blkFp b.inv b.off) b.it go) fun r s6 ⟨u, e, h6⟩ => ?_
  subst e
  refine thnF h6 fun _ s7 ⟨x, H7, I7, r7, y7, st7, n7⟩ => ?_
  refine thnF (pg.run _ s7 _ H7 x u _ (I7.pinned (blkFp I7 n7) (T.obj _ _ st7)) r7 (step x H7 y7)) fun _ s8 ⟨σ8, H8, I8, hw, q8⟩ => ?_
  refine thnF (pt.run _ s8 σ8 H8 _ I8 q8) fun c s9 ⟨H9, I9, q9⟩ => ?_
  have fin := fun {s' : Shared} {H' : Hp} (I' : Inv (X.blk s0 H0 scope ce fp) ([] ++ pinsAt fp s7.heap) σ8 H' s') (nx : Nx H') => Btw.next (vs := vs) (σ := σ) (W := W) (n := n) T st7 hw I' (dec H' nx)
  revert q9
  cases c
  · exact fun q9 => fin I9 q9
  · intro q9
    refine thnF (pe.run _ s9 σ8 H9 _ I9 q9) fun z s10 ⟨yv, H10, I10, r10, k, L, ey, hD, room, nx⟩ => ?_
    cases ey
    obtain ⟨u, rfl⟩ : ∃ t, z = Value.str k t := r10
    exact addT_ok (X := X.blk s0 H0 scope ce fp) I10 hD room fun L' on s11 I11 => fin I11 (nx L' on)
/-- the comprehension, whatever comes after it -/
theorem st_core {pins : List (Addr × Obj)} {s : Shared} {σ : L2.St} {H : Hp} {Q : VK} {elt tg iter : Expr} {ifs : List Expr} {scope : Scope} {own : List (PySem.Str × Nat)} {pos pos' : Pos} {wi : TI} {g : TG} {tt : TT} {te : TE} {use : Option (Value → Sem Unit)} {Qf : Value → Shared → Prop}
    (hc : X.calm = true) (hN : X.N.Nodup) (I : Inv X pins σ H s) (hi : PI X tg iter wi) (ok : BlkOk X.N X.env.scope scope own)
    (hg : ∀ (s : Shared) (H : Hp) (C : Addr) (cl : List (PySem.Str × Addr)) (fp : List Addr), PG (X.blk s H scope (compEnvC scope cl C X.env) fp) tg g) (ht : ∀ (s : Shared) (H : Hp) (C : Addr) (cl : List (PySem.Str × Addr)) (fp : List Addr), PTs (X.blk s H scope (compEnvC scope cl C X.env) fp) ifs tt)
    (he : ∀ (s : Shared) (H : Hp) (C : Addr) (cl : List (PySem.Str × Addr)) (fp : List Addr), PE (X.blk s H scope (compEnvC scope cl C X.env) fp) elt te) (hs : ∀ x, foldedSetIterable iter X.env x = pure x)
    (h : tSt X.prog X.w wi g tt te (own.map (·.2)) σ H Q)
    (hRR : ∀ D C s' m H', Inv X pins σ H' s' → Q (.ref D) H' → s'.heap.Ns C m → FpOk X pins H' C → compPost (model X.prog X.w) X.A X.xe use Qf (.ref D) C (.ok .next) s') :
    wpAny (model X.prog X.w) X.A (comprehension (.SetComp elt [⟨tg, iter, ifs, 0⟩] scope pos) scope X.env pos' (PySem.newSet (.type "set")) false (eval iter X.env) use) Qf X.xe s := by
  have cells : ∀ y ∈ scope.names, y.2 = .free → ∃ c, X.env.cells.lookup y.1 = some c := by
    intro y hy e
    cases ok.free y hy e with
    | inl k => exact I.ok.has _ (.inl k)
    | inr k => exact I.ok.has _ (.inr k)
  refine wpAny_comprehension_free (use := use) rfl hs (closure_ok cells) ok.kind (fun y hy e => by rw [ok.uniq y hy, e]) (thn (hi.run pins s σ H _ I h) fun _ s1 hx => thn hx ?_)
  rintro _ s2 ⟨it, fp, tn, J, H2, rfl, I2, T, st2, f2, q⟩
  refine newSet_ok (newEnv_comp ?_)
  obtain ⟨W, ⟨m0, w0⟩, turn⟩ := q s2.heap.objs.size (I2.hok.fresh (Nat.le_refl _))
  have I3 := Inv.emptySet I2
  have f3 := fpPush (Ob := SetT X.prog X.w s2.heap.objs.size []) (o := emptySet X) T st2 f2
  have st3 : tn 0 (s2.heap.push (emptySet X)) := keepTn T st2 fun _ _ => Heap.get?_push_of_some _
  have I4 := block_start I3 ok hN f3
  -- the block's frame
  generalize hce : compEnvC scope (cellsFrom ((s2.heap.push (emptySet X)).objs.size + 1) scope.names (cloFrom X.env.cells scope.names [])) (s2.heap.push (emptySet X)).objs.size X.env = ce at I4
  have eL : ce.locals = (s2.heap.push (emptySet X)).objs.size := by subst hce; rfl
  have loop : codeAny (model X.prog X.w) X.A (.compLoop (.SetComp elt [⟨tg, iter, ifs, 0⟩] scope pos) 0 (.ref it) (.ref s2.heap.objs.size) ce) (compPost (model X.prog X.w) X.A X.xe use Qf (.ref s2.heap.objs.size) (s2.heap.push (emptySet X)).objs.size)
      { s2 with heap := pushCells ((s2.heap.push (emptySet X)).push { cls := .type "dict", data := .dict #[] }) scope.names } := by
    refine st_walk (i0 := 0) hc T (hce ▸ hg _ _ _ _ _) (hce ▸ ht _ _ _ _ _) (hce ▸ he _ _ _ _ _) turn (fun H6 s6 I6 qq => ?_) ⟨I4, keepTn T st3 fun _ _ e => pushCells_keeps _ _ _ _ (Heap.get?_push_of_some _ e), fun b hb => (f3 b hb).1.1, w0⟩
    have off : H6 ce.locals = none := I6.free
    obtain ⟨m, ns, _⟩ := I6.loc
    refine hRR _ _ s6 m H6 (I3.call' (ch := fp) I6.os I6.base I6.hok I6.bare fun b hb => ?_) qq (eL ▸ ns) (I3.fpOk (Nat.le_refl _) (eL ▸ off))
    obtain ⟨_, f1, f2, f3, f4, f5⟩ := (f3 b hb).1
    exact ⟨f3, f1, f4, f5⟩
  subst hce
  exact codeAny_compStart_set loop (T.self X.A 0 _ _ _ (keepTn T st3 fun _ _ e => pushCells_keeps _ _ _ _ (Heap.get?_push_of_some _ e)) loop)
/-- as a value -/
theorem pe_st {elt tg iter : Expr} {ifs : List Expr} {scope : Scope} {own : List (Str × Nat)} {pos : Pos} {wi : TI} {g : TG} {tt : TT} {te : TE} (hc : X.calm = true) (hN : X.N.Nodup) (hi : PI X tg iter wi) (ok : BlkOk X.N X.env.scope scope own)
    (hg : ∀ (s : Shared) (H : Hp) (C : Addr) (cl : List (Str × Addr)) (fp : List Addr), PG (X.blk s H scope (compEnvC scope cl C X.env) fp) tg g) (ht : ∀ (s : Shared) (H : Hp) (C : Addr) (cl : List (Str × Addr)) (fp : List Addr), PTs (X.blk s H scope (compEnvC scope cl C X.env) fp) ifs tt)
    (he : ∀ (s : Shared) (H : Hp) (C : Addr) (cl : List (Str × Addr)) (fp : List Addr), PE (X.blk s H scope (compEnvC scope cl C X.env) fp) elt te) (hs : ∀ x, foldedSetIterable iter X.env x = pure x := by intro _; rfl) :
    PE X (.SetComp elt [⟨tg, iter, ifs, 0⟩] scope pos) (tSt X.prog X.w wi g tt te (own.map (·.2))) := by
  refine ⟨fun pins s σ H Q I h => ?_⟩; rw [eval_SetComp]
  refine st_core hc hN I hi ok hg ht he hs h fun D C s' m H' I' q hn ⟨f0, f1, f2, f3, f4, f5⟩ => ⟨m, hn, fun h'' sb => ?_⟩
  exact ⟨.ref D, H', I'.turned (t' := s'.toks) (fun b o hb e => (sb.2 b hb).trans e) f0 f1 f3 f4 f5, rfl, q⟩
end
end Tq

/-! Movers: whether what they are made of is right (of right things) -/
namespace Rd
open PySem PySem.Spec PyProof.Rows L2 Tq Dn Dc
abbrev sParts : Stmt := top 3
abbrev sIsAsc : Stmt := top 4
abbrev sIsOne : Stmt := top 21
abbrev sSomeP : Stmt := top 22
abbrev sPlaces : Stmt := top 23
abbrev sPair : Stmt := top 24
abbrev sBond : Stmt := top 25
abbrev sSteps : Stmt := top 26
abbrev sTable : Stmt := top 27
abbrev sTables : Stmt := top 28
abbrev sBonds : Stmt := top 29
/-- a table's placements: names and their parts, as the dict has them -/
abbrev PlR := List (Str × Addr × List Str)
abbrev prP (r : Str × Addr × List Str) : Key × V := (Sum.inr r.1, V.ref r.2.1)
abbrev plOf (rs : PlR) : List (Str × List Str) := rs.map fun r => (r.1, r.2.2)
abbrev Prs := List (Str × Str)
abbrev prL (ps : Prs) : List (List Str) := ps.map fun p => [p.1, p.2]
structure Tb where
  nm : Str
  pl : List (Str × List Str)
  st : Prs
def PlAt (K : PySem.W.Frag) (H : Hp) (d : Addr) (pl : List (Str × List Str)) : Prop := ∃ rs : PlR, H d = some (.dK (rs.map prP)) ∧ (∀ r ∈ rs, SqT K H r.2.1 (r.2.2.map V.str)) ∧ plOf rs = pl
def TbAt (K : PySem.W.Frag) (H : Hp) (a : Addr) (t : Tb) : Prop := ∃ d q, SqT K H a [.str t.nm, .ref d, .ref q] ∧ PlAt K H d t.pl ∧ PairsAt K H q (prL t.st)
def TbsAt (K : PySem.W.Frag) (H : Hp) (L : Addr) (rs : List (Addr × Tb)) : Prop := SqT K H L (rs.map fun r => .ref r.1) ∧ ∀ r ∈ rs, TbAt K H r.1 r.2
def BsAt (K : PySem.W.Frag) (H : Hp) (L : Addr) (rs : List (Addr × Prs)) : Prop := SqT K H L (rs.map fun r => .ref r.1) ∧ ∀ r ∈ rs, PairsAt K H r.1 (prL r.2)
structure OkParts (ps : List Str) : Prop where
  lo : 2 ≤ ps.length
  hi : ps.length ≤ 4
  nm : ∀ p ∈ ps, nameS p = true
  up : ps.Pairwise fun x y => sg1 x < sg1 y
structure OkSome (ps q : List Str) : Prop where
  len : q.length ≤ 64
  of : ∀ x ∈ q, x ∈ ps
  up : q.Pairwise fun x y => sg1 x < sg1 y
structure OkPl (ps : List Str) (pl : List (Str × List Str)) : Prop where
  lo : 1 ≤ pl.length
  hi : pl.length ≤ 6
  nm : ∀ p ∈ pl, nameS p.1 = true
  dif : (pl.map Prod.fst).Nodup
  parts : ∀ p ∈ pl, OkSome ps p.2
structure OkPrs (a b : List (Str × List Str)) (st : Prs) : Prop where
  len : st.length < 64
  one : ∀ p ∈ st, p.1 ∈ a.map Prod.fst
  two : ∀ p ∈ st, p.2 ∈ b.map Prod.fst
structure OkTb (ps : List Str) (t : Tb) : Prop where
  nm : nameS t.nm = true
  pl : OkPl ps t.pl
  st : OkPrs t.pl t.pl t.st
  dif : ∀ p ∈ t.st, p.1 ≠ p.2
structure OkTbs (ps : List Str) (ts : List Tb) : Prop where
  lo : 1 ≤ ts.length
  hi : ts.length ≤ 3
  tb : ∀ t ∈ ts, OkTb ps t
  dif : (ts.map Tb.nm).Nodup
section
variable {K : PySem.W.Frag} {H H' : Hp}
theorem PlAt.up {d : Addr} {pl : List (Str × List Str)} (h : PlAt K H d pl) (s : Same H H') : PlAt K H' d pl := let ⟨rs, a, b, c⟩ := h; ⟨rs, s _ _ a, fun r hr => sqT_up (b r hr) s, c⟩
theorem TbAt.up {a : Addr} {t : Tb} (h : TbAt K H a t) (s : Same H H') : TbAt K H' a t := let ⟨d, q, a, b, c⟩ := h; ⟨d, q, sqT_up a s, b.up s, c.up s⟩
theorem TbsAt.up {L : Addr} {rs : List (Addr × Tb)} (h : TbsAt K H L rs) (s : Same H H') : TbsAt K H' L rs := ⟨sqT_up h.1 s, fun r hr => (h.2 r hr).up s⟩
theorem BsAt.up {L : Addr} {rs : List (Addr × Prs)} (h : BsAt K H L rs) (s : Same H H') : BsAt K H' L rs := ⟨sqT_up h.1 s, fun r hr => (h.2 r hr).up s⟩
/-- while a thing is locked all else stands; behind it all stands -/
theorem lock_same {d : Addr} {od : Obj} {u : HO} (e : H d = some u) (s : Same (upd H d (.frz od u)) H') : Same H (upd H' d u) := fun b o h => by
  by_cases z : b = d
  · subst z; rw [upd_same]; exact e.symm.trans h
  · rw [upd_ne z]; exact s b o (by rw [upd_ne z]; exact h)
end
theorem name_sz {x : Str} (h : nameS x = true) : x.cps.size < sizeLine := by
  unfold nameS at h
  simp only [Bool.and_eq_true, decide_eq_true_eq] at h
  have : x.cps.size ≤ 8 := h.1.2
  rw [sizeLine_eq]; omega
theorem all_rep (n : Nat) : (List.replicate n true).all id = true := by simp
theorem rep_snoc {α : Type} (n : Nat) (x : α) : List.replicate n x ++ [x] = List.replicate (n + 1) x := (List.replicate_succ').symm
theorem pl_val {rs : PlR} (nd : ((plOf rs).map Prod.fst).Nodup) {i : Nat} {r : Str × Addr × List Str} (h : rs[i]? = some r) : valV (rs.map prP) (Sum.inr r.1 : Key) = some (.ref r.2.1) := by
  induction rs generalizing i with
  | nil => simp at h
  | cons x xs ih =>
    have nd : (x.1 :: (plOf xs).map Prod.fst).Nodup := nd
    rw [List.nodup_cons] at nd
    cases i with
    | zero =>
      obtain rfl : x = r := Option.some.inj h
      exact valV_pos rfl
    | succ j =>
      have hj : xs[j]? = some r := h
      show valV (prP x :: xs.map prP) _ = _
      rw [valV_neg]
      · exact ih nd.2 hj
      · intro z
        refine nd.1 ?_
        rw [show x.1 = r.1 from Sum.inr.inj z]
        exact List.mem_map_of_mem (f := Prod.fst) (List.mem_map_of_mem (f := fun r : Str × Addr × List Str => (r.1, r.2.2)) (List.mem_of_getElem? hj))
theorem pl_has {rs : PlR} {x : Str} (h : x ∈ (plOf rs).map Prod.fst) : (valV (rs.map prP) (Sum.inr x : Key)).isSome = true := by
  rw [← valV_any, List.any_map]
  rw [List.map_map] at h
  obtain ⟨r, hr, e⟩ := List.mem_map.mp h
  exact List.any_eq_true.mpr ⟨r, hr, decide_eq_true (congrArg Sum.inr e)⟩
theorem sqT_ty {K : PySem.W.Frag} {H : Hp} {a : Addr} {xs : List V} (h : SqT K H a xs) : TyX K H (.ref a) (.type "tuple") := by
  rcases h with (h | ⟨o, h⟩) | ⟨o, its, n, h1, h2, _⟩
  · exact .base (.tup h)
  · exact .fTuple h
  · exact .kTuple h1 h2
/-- while a dict is locked its tuples are read as before -/
theorem sqT_lock {K : PySem.W.Frag} {H : Hp} {d b : Addr} {od : Obj} {kvs : List (Key × V)} {u : HO} {xs : List V} (hd : H d = some (.dK kvs)) (h : SqT K H b xs) : SqT K (upd H d (.frz od u)) b xs := by
  have ne : ∀ {o : HO}, H b = some o → (∀ ks, o ≠ .dK ks) → upd H d (.frz od u) b = some o := fun h n => by
    rw [upd_ne (fun z => by rw [z, hd] at h; cases h; exact n _ rfl)]; exact h
  rcases h with (h | ⟨o, h⟩) | h
  · exact .inl (.inl (ne h fun _ z => by cases z))
  · exact .inl (.inr ⟨o, ne h fun _ z => by cases z⟩)
  · exact .inr h
/-! the set of the texts that a walk gives -/
def FilT (P : Program) (w : World) (H1 : Hp) (D : Addr) (ks : List Str) (i : Nat) (H : Hp) : Prop := Same H1 H ∧ ∃ L, H D = some (SetT P w D L) ∧ HeldS ks i L
def PutT (P : Program) (w : World) (H1 : Hp) (D : Addr) (ks : List Str) (i : Nat) (y : V) (H4 : Hp) : Prop := ∃ (k : Str) (L : List Str), y = .str k ∧ H4 D = some (SetT P w D L) ∧ L.length + 1 < scanBound ∧ ∀ L', Onto k L L' → FilT P w H1 D ks (i + 1) (upd H4 D (SetT P w D L'))
theorem putT_of {P : Program} {w : World} {H1 H : Hp} {D : Addr} {ks : List Str} {i : Nat} {k : Str} {L : List Str} (nD : H1 D = none) (s : Same H1 H) (e : H D = some (SetT P w D L)) (h : HeldS ks i L) (hk : ks[i]? = some k) (few : i < 64) : PutT P w H1 D ks i (.str k) H :=
  ⟨k, L, rfl, e, by have := h.le; unfold scanBound; omega, fun L' on => ⟨same_to nD s, L', upd_same, h.next hk on⟩⟩
theorem st_fil {P : Program} {w : World} {J : It} {n : Nat} {G : Hp → Prop} {Y : Nat → Hp → V → Hp → Prop} (Wk : Walk J n G Y) {g : TG} {tt : TT} {te : TE} {vs : List Nat} {σ : L2.St} {H1 : Hp} {D : Addr} {Qd : Hp → Prop} (nD : H1 D = none) (ks : List Str) (hG : ∀ H, Same H1 H → G H)
    (hs : ∀ i x L H H', i < n → Same H1 H → H D = some (SetT P w D L) → HeldS ks i L → Y i H x H' → g x (wipe σ vs) H' fun σ2 H2 => wipe σ2 vs = wipe σ vs ∧ tt σ2 H2 fun b H3 =>
      if b = true then te σ2 H3 fun y H4 => PutT P w H1 D ks i y H4 else FilT P w H1 D ks (i + 1) H3)
    (hd : ∀ L H, Same H1 H → H D = some (SetT P w D L) → HeldS ks n L → Qd H) :
    ∃ W : Nat → Nat → Hp → Prop, (∃ m, W 0 m (upd H1 D (SetT P w D []))) ∧ ∀ i m H, W i m H →
      (J.stop i H ∧ Qd H) ∨ (J.go i H ∧ ∃ Nx : Hp → Prop, (∀ H', Nx H' → ∃ m', m' < m ∧ W (i + 1) m' H') ∧ ∀ x H', J.yld i H x H' → g x (wipe σ vs) H' fun σ2 H2 => wipe σ2 vs = wipe σ vs ∧ tt σ2 H2 fun b H3 =>
        if b = true then te σ2 H3 fun y H4 => ∃ (k : Str) (L : List Str), y = .str k ∧ H4 D = some (SetT P w D L) ∧ L.length + 1 < scanBound ∧ (∀ L', Onto k L L' → Nx (upd H4 D (SetT P w D L'))) else Nx H3) := by
  refine ⟨fun i m H => m = n - i ∧ i ≤ n ∧ FilT P w H1 D ks i H, ⟨n, rfl, Nat.zero_le _, same_new nD, [], upd_same, fun k => by simp, Nat.le_refl _⟩, ?_⟩
  rintro i m H ⟨rfl, hi, s, L, e, h⟩
  by_cases lt : i < n
  · exact .inr ⟨Wk.goes i H lt (hG H s), FilT P w H1 D ks (i + 1), fun H' p => ⟨n - (i + 1), by omega, rfl, lt, p⟩, fun x H' y => hs i x L H H' lt s e h (Wk.yields i H x H' lt (hG H s) y)⟩
  · obtain rfl : i = n := by omega
    exact .inl ⟨Wk.stops H (hG H s), hd L H s e h⟩
theorem nd_len {α : Type} [DecidableEq α] : ∀ {xs ys : List α}, xs.Nodup → (∀ x ∈ xs, x ∈ ys) → xs.length ≤ ys.length
  | [], _, _, _ => Nat.zero_le _
  | x :: xs, ys, nd, h => by
    obtain ⟨n1, n2⟩ := List.nodup_cons.mp nd
    have hx := h x List.mem_cons_self
    have ih := nd_len (xs := xs) (ys := ys.erase x) n2 fun z hz => by
      have hz2 := h z (.tail _ hz)
      exact (List.mem_erase_of_ne (fun e => n1 (by rw [← e]; exact hz))).mpr hz2
    rw [List.length_erase_of_mem hx] at ih
    have : 0 < ys.length := List.length_pos_of_mem hx
    rw [List.length_cons]; omega
theorem held_all {ks L : List Str} (nd : ks.Nodup) (h : HeldS ks ks.length L) : L.length = ks.length := by
  have a := nd_len nd fun k hk => (h.mem k).mpr (by rw [List.take_length]; exact hk)
  have b := h.le
  omega
def rLtS : R2 := fun x y H Q => ∃ i j, x = .str i ∧ y = .str j ∧ Q (.bl (decide (i.cps.toList < j.cps.toList))) H
def spIsAsc (K : PySem.W.Frag) : Sp := fun vs H Q _ => ∃ (a : Addr) (ks : List Str), vs = [.ref a] ∧ SqT K H a (ks.map V.str) ∧ ks.length ≤ 64 ∧ (ks.Pairwise fun x y => sg1 x < sg1 y) ∧ ∀ H', Same H H' → Q (.bl true) H'
def spParts (K : PySem.W.Frag) : Sp := fun vs H Q _ => ∃ (a : Addr) (ps : List Str), vs = [.ref a] ∧ SqT K H a (ps.map V.str) ∧ OkParts ps ∧ ∀ H', Same H H' → Q (.bl true) H'
/-- is_one_of: names are a tuple of texts or a dict of placements -/
def spIsOne (K : PySem.W.Frag) : Sp := fun vs H Q _ => ∃ (d : Addr) (pl : List (Str × List Str)) (x : Str), vs = [.ref d, .str x] ∧ PlAt K H d pl ∧ x ∈ pl.map Prod.fst ∧ Q (.bl true) H
def spSomeP (K : PySem.W.Frag) : Sp := fun vs H Q _ => ∃ (a b : Addr) (ps q : List Str), vs = [.ref a, .ref b] ∧ SqT K H a (ps.map V.str) ∧ SqT K H b (q.map V.str) ∧ OkSome ps q ∧ ∀ H', Same H H' → Q (.bl true) H'
def spPlaces (K : PySem.W.Frag) : Sp := fun vs H Q _ => ∃ (a d : Addr) (ps : List Str) (pl : List (Str × List Str)), vs = [.ref a, .ref d] ∧ SqT K H a (ps.map V.str) ∧ PlAt K H d pl ∧ OkPl ps pl ∧ ∀ H', Same H H' → Q (.bl true) H'
def spPair (K : PySem.W.Frag) : Sp := fun vs H Q _ => ∃ (d e a : Addr) (p1 p2 : List (Str × List Str)) (x y : Str), vs = [.ref d, .ref e, .ref a] ∧ PlAt K H d p1 ∧ PlAt K H e p2 ∧ SqT K H a [.str x, .str y] ∧ x ∈ p1.map Prod.fst ∧ y ∈ p2.map Prod.fst ∧ Q (.bl true) H
def spBond (K : PySem.W.Frag) : Sp := fun vs H Q _ => ∃ (d e a : Addr) (p1 p2 : List (Str × List Str)) (st : Prs), vs = [.ref d, .ref e, .ref a] ∧ PlAt K H d p1 ∧ PlAt K H e p2 ∧ PairsAt K H a (prL st) ∧ OkPrs p1 p2 st ∧ ∀ H', Same H H' → Q (.bl true) H'
def spSteps (K : PySem.W.Frag) : Sp := fun vs H Q _ => ∃ (d a : Addr) (pl : List (Str × List Str)) (st : Prs), vs = [.ref d, .ref a] ∧ PlAt K H d pl ∧ PairsAt K H a (prL st) ∧ OkPrs pl pl st ∧ (∀ p ∈ st, p.1 ≠ p.2) ∧ ∀ H', Same H H' → Q (.bl true) H'
def spTable (K : PySem.W.Frag) : Sp := fun vs H Q _ => ∃ (a b : Addr) (ps : List Str) (t : Tb), vs = [.ref a, .ref b] ∧ SqT K H a (ps.map V.str) ∧ TbAt K H b t ∧ OkTb ps t ∧ ∀ H', Same H H' → Q (.bl true) H'
def spTables (K : PySem.W.Frag) : Sp := fun vs H Q _ => ∃ (a b : Addr) (ps : List Str) (rs : List (Addr × Tb)), vs = [.ref a, .ref b] ∧ SqT K H a (ps.map V.str) ∧ TbsAt K H b rs ∧ OkTbs ps (rs.map Prod.snd) ∧ ∀ H', Same H H' → Q (.bl true) H'
section
variable {P : Program} {w : World} {K : PySem.W.Frag} {mg : Str → Option Value} {base : Heap}
theorem scIsAsc : FnScope ["values", "at"] ["values"] (defScope sIsAsc) := ⟨rfl, rfl, rfl, by decide +kernel, rfl, by decide +kernel, by decide +kernel⟩
theorem ok_isAsc {f : Addr} {fd : FuncData} (F : Fun K "is_ascending" "is_ascending" sIsAsc f fd) (T : TxM K mg) : FnOk P w K mg base CX0 1 f fd ["values"] (spIsAsc K) := by
  refine F.ok scIsAsc (fun vs H Q E h => ?_) (fun cdv A outer s H vs Q E hr h => ?_)
  · obtain ⟨a, ks, rfl, _⟩ := h; rfl
  · obtain ⟨a, ks, rfl, ha, few, up, k⟩ := h
    refine ⟨_, (pss_one (ps_ret (pe_callB (cr_all rfl) (by rfl) T.all PyProof.Rows.boot_all (pa_cons (pe_lc (own := [("at", 1)]) (g := gName 1) (tt := tYes) (te := tOp rLtS (tOp (rIxT K) (tVar 0) (tVar 1)) (tOp (rIxT K) (tVar 0) (tOp (rI0 fun i j => .int (i + j)) (tVar 1) (tC (.int 1))))) rfl scIsAsc.nd (pi_range1 (by rfl) T.range (pa_cons (pe_op op_sub (pe_callB call_lenT (by rfl) T.len PySem.boot_len (pa_cons (pv 0) pa_nil)) pe_int) pa_nil)) (blkOk_by (N := ["values", "at"]) (sc := defScope sIsAsc) (by decide +kernel)) (fun _ _ _ _ _ => pg_name (i := 1) scIsAsc.nd rfl (Or.inl rfl)) (fun _ _ _ _ _ => pts_nil) (fun _ _ _ _ _ => (pe_cmpR op_lt_str (pe_ix ix_tup (pv 0) (pv 1) (fun _ _ => rfl)) (pe_ix ix_tup (pv 0) (pe_op op_add (pv 1) pe_int) (fun _ _ => rfl)) (nomark _)))) pa_nil)))), ?_⟩
    refine ⟨_, rfl, a, _, rfl, ha, _, _, rfl, rfl, _, rfl, ?_, ?_, fun D hD => ?_⟩
    · rw [List.length_map]; omega
    · rw [List.length_map]; omega
    have off : Off D (fun i acc (_ : Hp) => acc = List.replicate i (V.bl true)) := fun _ _ _ _ _ _ _ z => z
    refine lc_fil walk_range hD (fun i acc _ => acc = List.replicate i (V.bl true)) rfl (fun _ _ => trivial) ?_ ?_
    · rintro i v acc H2 H3 hi s2 e2 rfl ⟨rfl, rfl⟩
      rw [List.length_map] at hi
      have hi2 : i + 1 < ks.length := by omega
      have h1 : ks[i]? = some ks[i] := List.getElem?_eq_getElem (by omega)
      have h2 : ks[i + 1]? = some ks[i + 1] := List.getElem?_eq_getElem hi2
      have lt := List.pairwise_iff_getElem.mp up i (i + 1) (by omega) hi2 (by omega)
      have at_ : ∀ {j : Nat} {x : Str}, ks[j]? = some x → (ks.map V.str)[j]? = some (V.str x) := fun h => by rw [List.getElem?_map, h]; rfl
      refine ⟨rfl, tt_yes ?_⟩
      refine ⟨_, rfl, _, rfl, a, _, _, _, rfl, rfl, sqT_up ha s2, (by rw [Int.zero_add]; exact atI_nat (at_ h1)), _, rfl, _, rfl, _, _, rfl, rfl, a, _, _, _, rfl, rfl, sqT_up ha s2, (by rw [Int.zero_add]; exact atI_nat (j := i + 1) (at_ h2)), _, _, rfl, rfl, ?_⟩
      rw [decide_eq_true (show ks[i].cps.toList < ks[i + 1].cps.toList from lt)]
      exact put_of hD off s2 e2 (Same.refl _) (by rw [List.length_replicate, sizeLine_eq]; omega) (rep_snoc _ _)
    · rintro acc H2 s2 e2 rfl
      exact ⟨D, List.replicate _ true, rfl, SqL.of (by rw [e2, List.map_replicate]), by rw [all_rep]; exact k _ s2⟩
theorem scParts : FnScope ["value", "part"] ["value"] (defScope sParts) := ⟨rfl, rfl, rfl, by decide +kernel, rfl, by decide +kernel, by decide +kernel⟩
theorem ok_parts {f : Addr} {fd : FuncData} (F : Fun K "is_parts" "is_parts" sParts f fd) (T : TxM K mg) (hN : Has P w K mg base "is_name" 1 ["value"] (spName K)) (hA : Has P w K mg base "is_ascending" 1 ["values"] (spIsAsc K)) : FnOk P w K mg base CX0 2 f fd ["value"] (spParts K) := by
  obtain ⟨fN, fdN, mN, kN, bN, GN⟩ := hN
  obtain ⟨fA, fdA, mA, kA, bA, GA⟩ := hA
  refine F.ok scParts (fun vs H Q E h => ?_) (fun cdv A outer s H vs Q E hr h => ?_)
  · obtain ⟨a, ps, rfl, _⟩ := h; rfl
  · obtain ⟨a, ps, rfl, ha, ok, k⟩ := h
    refine ⟨_, (pss_cons (ps_if (PW.pt (pw_or (pt_not (pt_val (pe_callB call_isi (by rfl) T.isi PyProof.Rows.boot_isinstance (pa_cons (pv 0) (pa_cons (pe_bltn (v := .ty "tuple") (by rfl) T.tuple PyProof.Rows.boot_tuple rfl) pa_nil))))) (pw_or1 (pt_not (pt_chain op_le op_le pe_int (pe_callB call_lenT (by rfl) T.len PySem.boot_len (pa_cons (pv 0) pa_nil)) pe_int))))) (pss_one (ps_ret pe_bl)) pss_nil)
      (pss_one (ps_ret (pe_and (pe_callB (cr_all rfl) (by rfl) T.all PyProof.Rows.boot_all (pa_cons (pe_lc (own := [("part", 1)]) (g := gName 1) (tt := tYes)  rfl scParts.nd (pi_tup (pv 0)) (blkOk_by (N := ["value", "part"]) (sc := defScope sParts) (by decide +kernel)) (fun _ _ _ _ _ => pg_name (i := 1) scParts.nd rfl (Or.inl rfl)) (fun _ _ _ _ _ => pts_nil) (fun _ _ _ _ _ => (pe_call GN hr (by rfl) mN kN bN .nil pass0 (pa_cons (pv 1) pa_nil)))) pa_nil)) (pe_one (pe_call GA hr (by rfl) mA kA bA .nil pass0 (pa_cons (pv 0) pa_nil))))))), ?_⟩
    refine ⟨_, rfl, .ref a, .ty "tuple", .type "tuple", .type "tuple", true, rfl, .ty _, sqT_ty ha, kit_ty (by decide +kernel), _, rfl, iteF ?_⟩
    have lo := ok.lo; have hi := ok.hi
    refine ⟨_, rfl, a, _, rfl, ha, _, _, rfl, rfl, _, rfl, ?_⟩
    rw [List.length_map, decide_eq_true (show (2 : Int) ≤ (ps.length : Int) by omega)]
    refine iteT ⟨_, _, rfl, rfl, _, rfl, ?_⟩
    rw [decide_eq_true (show (ps.length : Int) ≤ 4 by omega)]
    refine iteF ?_
    refine ⟨_, rfl, a, rfl, ⟨_, ha⟩, fun D hD => ?_⟩
    have off : Off D (fun i acc (_ : Hp) => acc = List.replicate i (V.bl true)) := fun _ _ _ _ _ _ _ z => z
    refine lc_fil walk_tup hD (fun i acc _ => acc = List.replicate i (V.bl true)) rfl (fun H' s' => sqT_up ha s') ?_ ?_
    · rintro i v acc H2 H3 hi2 s2 e2 rfl ⟨rfl, hv⟩
      rw [List.getElem?_map] at hv
      obtain ⟨x, hx, rfl⟩ := Option.map_eq_some_iff.mp hv
      have nx := ok.nm x (List.mem_of_getElem? hx)
      refine ⟨rfl, tt_yes ⟨_, rfl, _, .str x, rfl, .str x, (fun z e => by cases e; exact name_sz nx), fun H4 s4 => ?_⟩⟩
      rw [show nameD (.str x) = true from nx]
      exact put_of hD off s2 e2 s4 (by rw [List.length_replicate, sizeLine_eq]; rw [List.length_map] at hi2; omega) (rep_snoc _ _)
    · rintro acc H2 s2 e2 rfl
      refine ⟨D, List.replicate _ true, rfl, SqL.of (by rw [e2, List.map_replicate]), ?_⟩
      rw [all_rep]
      exact ⟨_, rfl, iteT ⟨_, rfl, a, ps, rfl, sqT_up ha s2, by omega, ok.up, fun H' s' => k _ (s2.trans s')⟩⟩
theorem scIsOne : FnScope ["names", "value"] ["names", "value"] (defScope sIsOne) := ⟨rfl, rfl, rfl, by decide +kernel, rfl, by decide +kernel, by decide +kernel⟩
theorem ok_isOne {f : Addr} {fd : FuncData} (F : Fun K "is_one_of" "is_one_of" sIsOne f fd) (T : TxM K mg) : FnOk P w K mg base CX0 1 f fd ["names", "value"] (spIsOne K) := by
  refine F.ok scIsOne (fun vs H Q E h => ?_) (fun cdv A outer s H vs Q E hr h => ?_)
  · obtain ⟨d, pl, x, rfl, _⟩ := h; rfl
  · obtain ⟨d, pl, x, rfl, ⟨rs, hd, _, rfl⟩, hx, k⟩ := h
    have hu := hr.units
    have hu1 := Nat.lt_of_le_of_lt (Nat.add_le_add_left (show 1 ≤ 64 by decide) _) hu
    refine ⟨_, (pss_one (ps_ret (pe_and (pe_callB call_isi (by rfl) T.isi PyProof.Rows.boot_isinstance (pa_cons (pv 1) (pa_cons (pe_bltn (v := .ty "str") (by rfl) T.str (by decide +kernel) rfl) pa_nil))) (pe_one (pe_cmp (pc_din hu1 (pv 1) (pv 0))))))), ?_⟩
    refine ⟨_, rfl, .str x, .ty "str", .type "str", .type "str", true, rfl, .ty _, .base (.str _), kit_ty (by decide +kernel), _, rfl, iteT ?_⟩
    refine ⟨_, rfl, _, rfl, d, _, rfl, DGet.k (k := Sum.inr x) hd, ?_⟩
    rw [pl_has hx]
    exact k
theorem scSomeP : FnScope ["parts", "value", "part"] ["parts", "value"] (defScope sSomeP) := ⟨rfl, rfl, rfl, by decide +kernel, rfl, by decide +kernel, by decide +kernel⟩
theorem ok_someP {f : Addr} {fd : FuncData} (F : Fun K "is_some_parts" "is_some_parts" sSomeP f fd) (T : TxM K mg) (hA : Has P w K mg base "is_ascending" 1 ["values"] (spIsAsc K)) : FnOk P w K mg base CX0 2 f fd ["parts", "value"] (spSomeP K) := by
  obtain ⟨fA, fdA, mA, kA, bA, GA⟩ := hA
  refine F.ok scSomeP (fun vs H Q E h => ?_) (fun cdv A outer s H vs Q E hr h => ?_)
  · obtain ⟨a, b, ps, q, rfl, _⟩ := h; rfl
  · obtain ⟨a, b, ps, q, rfl, ha, hb, ok, k⟩ := h
    have hu65 : (A.deeper (envOfC (Str.ofString "is_some_parts") (defScope sSomeP) s.heap.objs.size f cdv)).units + 65 < cLine := by have := hr.un; omega
    refine ⟨_, (pss_cons (ps_if (pt_not (pt_val (pe_callB call_isi (by rfl) T.isi PyProof.Rows.boot_isinstance (pa_cons (pv 1) (pa_cons (pe_bltn (v := .ty "tuple") (by rfl) T.tuple PyProof.Rows.boot_tuple rfl) pa_nil))))) (pss_one (ps_ret pe_bl)) pss_nil)
      (pss_one (ps_ret (pe_and (pe_callB (cr_all rfl) (by rfl) T.all PyProof.Rows.boot_all (pa_cons (pe_lc (own := [("part", 2)]) (g := gName 2) (tt := tYes) (te := tOp (rIn K false) (tVar 2) (tVar 0)) rfl scSomeP.nd (pi_tup (pv 1)) (blkOk_by (N := ["parts", "value", "part"]) (sc := defScope sSomeP) (by decide +kernel)) (fun _ _ _ _ _ => pg_name (i := 2) scSomeP.nd rfl (Or.inl rfl)) (fun _ _ _ _ _ => pts_nil) (fun _ _ _ _ _ => (pe_cmpR op_in_seq (pv 2) (pv 0) (by rfl)))) pa_nil)) (pe_one (pe_call GA hr (by rfl) mA kA bA .nil pass0 (pa_cons (pv 1) pa_nil))))))), ?_⟩
    refine ⟨_, rfl, .ref b, .ty "tuple", .type "tuple", .type "tuple", true, rfl, .ty _, sqT_ty hb, kit_ty (by decide +kernel), _, rfl, iteF ?_⟩
    refine ⟨_, rfl, b, rfl, ⟨_, hb⟩, fun D hD => ?_⟩
    have off : Off D (fun i acc (_ : Hp) => acc = List.replicate i (V.bl true)) := fun _ _ _ _ _ _ _ z => z
    refine lc_fil walk_tup hD (fun i acc _ => acc = List.replicate i (V.bl true)) rfl (fun H' s' => sqT_up hb s') ?_ ?_
    · rintro i v acc H2 H3 hi2 s2 e2 rfl ⟨rfl, hv⟩
      rw [List.getElem?_map] at hv
      obtain ⟨x, hx, rfl⟩ := Option.map_eq_some_iff.mp hv
      have hm := ok.of x (List.mem_of_getElem? hx)
      refine ⟨rfl, tt_yes ⟨_, rfl, _, rfl, a, _, rfl, .inr (sqT_up ha s2), rfl, flat_strs ps, ?_⟩⟩
      rw [if_neg (by decide), inV_strs, List.contains_iff_mem.mpr hm]
      exact put_of hD off s2 e2 (Same.refl _) (by rw [List.length_replicate, sizeLine_eq]; rw [List.length_map] at hi2; have := ok.len; omega) (rep_snoc _ _)
    · rintro acc H2 s2 e2 rfl
      refine ⟨D, List.replicate _ true, rfl, SqL.of (by rw [e2, List.map_replicate]), ?_⟩
      rw [all_rep]
      exact ⟨_, rfl, iteT ⟨_, rfl, b, q, rfl, sqT_up hb s2, ok.len, ok.up, fun H' s' => k _ (s2.trans s')⟩⟩
theorem scPlaces : FnScope ["parts", "value", "name"] ["parts", "value"] (defScope sPlaces) := ⟨rfl, rfl, rfl, by decide +kernel, rfl, by decide +kernel, by decide +kernel⟩
theorem ok_places {f : Addr} {fd : FuncData} (F : Fun K "is_placements" "is_placements" sPlaces f fd) (T : TxM K mg) (hM : ∃ t, mg "MAX_PLACEMENTS" = some (.int 6 t)) (hN : Has P w K mg base "is_name" 1 ["value"] (spName K)) (hS : Has P w K mg base "is_some_parts" 2 ["parts", "value"] (spSomeP K)) : FnOk P w K mg base CX0 3 f fd ["parts", "value"] (spPlaces K) := by
  obtain ⟨fN, fdN, mN, kN, bN, GN⟩ := hN
  obtain ⟨fS, fdS, mS, kS, bS, GS⟩ := hS
  obtain ⟨tM, mM⟩ := hM
  refine F.ok scPlaces (fun vs H Q E h => ?_) (fun cdv A outer s H vs Q E hr h => ?_)
  · obtain ⟨a, d, ps, pl, rfl, _⟩ := h; rfl
  · obtain ⟨a, d, ps, pl, rfl, ha, ⟨rs, hd, hq, rfl⟩, ok, k⟩ := h
    have hu := hr.units
    have hu1 := Nat.lt_of_le_of_lt (Nat.add_le_add_left (show 1 ≤ 64 by decide) _) hu
    have r1 := hr.mono (show 1 ≤ 2 by decide)
    refine ⟨_, (pss_cons (ps_if (PW.pt (pw_or (pt_not (pt_val (pe_callB call_isi (by rfl) T.isi PyProof.Rows.boot_isinstance (pa_cons (pv 1) (pa_cons (pe_bltn (v := .ty "dict") (by rfl) T.dict (by decide +kernel) rfl) pa_nil))))) (pw_or1 (pt_not (pt_chain op_le op_le pe_int (pe_callB call_lenD (by rfl) T.len PySem.boot_len (pa_cons (pv 1) pa_nil)) (pe_glob (v := .int 6) (by rfl) mM ⟨_, rfl⟩)))))) (pss_one (ps_ret pe_bl)) pss_nil)
      (pss_one (ps_ret (pe_callB (cr_all rfl) (by rfl) T.all PyProof.Rows.boot_all (pa_cons (pe_lock (pe_lc (own := [("name", 2)]) (g := gName 2) (tt := tYes)  rfl scPlaces.nd (pi_keys (pv 1)) (blkOk_by (N := ["parts", "value", "name"]) (sc := defScope sPlaces) (by decide +kernel)) (fun _ _ _ _ _ => pg_name (i := 2) scPlaces.nd rfl (Or.inl rfl)) (fun _ _ _ _ _ => pts_nil) (fun _ _ _ _ _ => (pe_and (pe_call GN r1 (by rfl) mN kN bN .nil pass0 (pa_cons (pv 2) pa_nil)) (pe_one (pe_call GS hr (by rfl) mS kS bS .nil pass0 (pa_cons (pv 0) (pa_cons (pe_dget hu1 (pv 1) (pv 2) (fun _ _ => rfl)) pa_nil)))))))) pa_nil))))), ?_⟩
    refine ⟨_, rfl, .ref d, .ty "dict", .type "dict", .type "dict", true, rfl, .ty _, .base (.dK hd), kit_ty (by decide +kernel), _, rfl, iteF ?_⟩
    have len : (rs.map prP).length = (plOf rs).length := by rw [List.length_map, List.length_map]
    have lo := ok.lo; have hi := ok.hi
    refine ⟨_, rfl, d, _, rfl, hd, _, _, rfl, rfl, _, rfl, ?_⟩
    rw [len, decide_eq_true (show (1 : Int) ≤ ((plOf rs).length : Int) by omega)]
    refine iteT ⟨_, _, rfl, rfl, _, rfl, ?_⟩
    rw [decide_eq_true (show ((plOf rs).length : Int) ≤ 6 by omega)]
    refine iteF ?_
    refine ⟨d, _, hd, trivial, fun od => ?_⟩
    refine ⟨_, rfl, d, od, rfl, .inl ⟨_, upd_same, fun D hD => ?_⟩⟩
    have nDd : D ≠ d := fun z => by rw [z, upd_same] at hD; cases hD
    have off : Off D (fun i acc (_ : Hp) => acc = List.replicate i (V.bl true)) := fun _ _ _ _ _ _ _ z => z
    refine lc_fil walk_keys hD (fun i acc _ => acc = List.replicate i (V.bl true)) rfl (fun H' s' => s' _ _ upd_same) ?_ ?_
    · rintro i v acc H2 H3 hi2 s2 e2 rfl ⟨rfl, kk, vv, hv, rfl⟩
      rw [List.getElem?_map] at hv
      obtain ⟨r, hr, e⟩ := Option.map_eq_some_iff.mp hv
      cases e
      have hm := List.mem_of_getElem? hr
      have hmp : (r.1, r.2.2) ∈ plOf rs := List.mem_map_of_mem (f := fun r : Str × Addr × List Str => (r.1, r.2.2)) hm
      have nx := ok.nm _ hmp
      have lift : ∀ {b : Addr} {xs : List V}, SqT K H b xs → SqT K H3 b xs := fun h => sqT_up (sqT_lock hd h) s2
      refine ⟨rfl, tt_yes ⟨_, rfl, _, .str r.1, rfl, .str r.1, (fun z e => by cases e; exact name_sz nx), fun H4 s4 => ?_⟩⟩
      rw [show nameD (.str r.1) = true from nx]
      refine ⟨_, rfl, iteT ?_⟩
      refine ⟨_, rfl, _, rfl, _, rfl, d, _, rfl, .inl ⟨_, Sum.inr r.1, .inr ⟨od, s4 _ _ (s2 _ _ upd_same)⟩, rfl, (pl_val ok.dif hr).symm⟩, ?_⟩
      refine ⟨a, r.2.1, ps, r.2.2, rfl, sqT_up (lift ha) s4, sqT_up (lift (hq r hm)) s4, ok.parts _ hmp, fun H5 s5 => ?_⟩
      exact put_of hD off s2 e2 (s4.trans s5) (by rw [List.length_replicate, sizeLine_eq]; omega) (rep_snoc _ _)
    · rintro acc H2 s2 e2 rfl
      refine ⟨s2 _ _ upd_same, D, List.replicate _ true, rfl, SqL.of (by rw [upd_ne nDd, e2, List.map_replicate]), ?_⟩
      rw [all_rep]
      exact k _ (lock_same hd s2)
theorem scPair : FnScope ["befores", "afters", "value"] ["befores", "afters", "value"] (defScope sPair) := ⟨rfl, rfl, rfl, by decide +kernel, rfl, by decide +kernel, by decide +kernel⟩
theorem ok_pair {f : Addr} {fd : FuncData} (F : Fun K "is_pair" "is_pair" sPair f fd) (T : TxM K mg) (hO : Has P w K mg base "is_one_of" 1 ["names", "value"] (spIsOne K)) : FnOk P w K mg base CX0 2 f fd ["befores", "afters", "value"] (spPair K) := by
  obtain ⟨fO, fdO, mO, kO, bO, GO⟩ := hO
  refine F.ok scPair (fun vs H Q E h => ?_) (fun cdv A outer s H vs Q E hr h => ?_)
  · obtain ⟨d, e, a, p1, p2, x, y, rfl, _⟩ := h; rfl
  · obtain ⟨d, e, a, p1, p2, x, y, rfl, h1, h2, ha, hx, hy, k⟩ := h
    have hu := hr.units
    have hu1 := Nat.lt_of_le_of_lt (Nat.add_le_add_left (show 1 ≤ 64 by decide) _) hu
    refine ⟨_, (pss_cons (ps_if (PW.pt (pw_or (pt_not (pt_val (pe_callB call_isi (by rfl) T.isi PyProof.Rows.boot_isinstance (pa_cons (pv 2) (pa_cons (pe_bltn (v := .ty "tuple") (by rfl) T.tuple PyProof.Rows.boot_tuple rfl) pa_nil))))) (pw_or1 (pt_cmpR op_ne (pe_callB call_lenT (by rfl) T.len PySem.boot_len (pa_cons (pv 2) pa_nil)) pe_int (nomark _))))) (pss_one (ps_ret pe_bl)) pss_nil)
      (pss_one (ps_ret (pe_and (pe_call GO hr (by rfl) mO kO bO .nil pass0 (pa_cons (pv 0) (pa_cons (pe_ix ix_tup (pv 2) pe_int (fun _ _ => rfl)) pa_nil))) (pe_one (pe_call GO hr (by rfl) mO kO bO .nil pass0 (pa_cons (pv 1) (pa_cons (pe_ix ix_tup (pv 2) pe_int (fun _ _ => rfl)) pa_nil)))))))), ?_⟩
    refine ⟨_, rfl, .ref a, .ty "tuple", .type "tuple", .type "tuple", true, rfl, .ty _, sqT_ty ha, kit_ty (by decide +kernel), _, rfl, iteF ?_⟩
    refine ⟨_, rfl, a, _, rfl, ha, rfl, _, rfl, ?_⟩
    refine iteF ?_
    refine ⟨_, rfl, _, rfl, a, _, _, _, rfl, rfl, ha, atI_nat (j := 0) rfl, d, p1, x, rfl, h1, hx, _, rfl, iteT ?_⟩
    exact ⟨_, rfl, _, rfl, a, _, _, _, rfl, rfl, ha, atI_nat (j := 1) rfl, e, p2, y, rfl, h2, hy, k⟩
theorem scBond : FnScope ["befores", "afters", "value", "pair"] ["befores", "afters", "value"] (defScope sBond) := ⟨rfl, rfl, rfl, by decide +kernel, rfl, by decide +kernel, by decide +kernel⟩
theorem ok_bond {f : Addr} {fd : FuncData} (F : Fun K "is_bond" "is_bond" sBond f fd) (T : TxM K mg) (hP : Has P w K mg base "is_pair" 2 ["befores", "afters", "value"] (spPair K)) : FnOk P w K mg base CX0 3 f fd ["befores", "afters", "value"] (spBond K) := by
  obtain ⟨fP, fdP, mP, kP, bP, GP⟩ := hP
  refine F.ok scBond (fun vs H Q E h => ?_) (fun cdv A outer s H vs Q E hr h => ?_)
  · obtain ⟨d, e, a, p1, p2, st, rfl, _⟩ := h; rfl
  · obtain ⟨d, e, a, p1, p2, st, rfl, h1, h2, ⟨rs, hrs, ha, hk⟩, ok, k⟩ := h
    refine ⟨_, (pss_one (ps_ret (pe_and (pe_callB call_isi (by rfl) T.isi PyProof.Rows.boot_isinstance (pa_cons (pv 2) (pa_cons (pe_bltn (v := .ty "tuple") (by rfl) T.tuple PyProof.Rows.boot_tuple rfl) pa_nil))) (pe_one (pe_callB (cr_all rfl) (by rfl) T.all PyProof.Rows.boot_all (pa_cons (pe_lc (own := [("pair", 3)]) (g := gName 3) (tt := tYes)  rfl scBond.nd (pi_tup (pv 2)) (blkOk_by (N := ["befores", "afters", "value", "pair"]) (sc := defScope sBond) (by decide +kernel)) (fun _ _ _ _ _ => pg_name (i := 3) scBond.nd rfl (Or.inl rfl)) (fun _ _ _ _ _ => pts_nil) (fun _ _ _ _ _ => (pe_call GP hr (by rfl) mP kP bP .nil pass0 (pa_cons (pv 0) (pa_cons (pv 1) (pa_cons (pv 3) pa_nil)))))) pa_nil)))))), ?_⟩
    refine ⟨_, rfl, .ref a, .ty "tuple", .type "tuple", .type "tuple", true, rfl, .ty _, sqT_ty ha, kit_ty (by decide +kernel), _, rfl, iteT ?_⟩
    refine ⟨_, rfl, a, rfl, ⟨_, ha⟩, fun D hD => ?_⟩
    have len : rs.length = st.length := by have := congrArg List.length hrs; rw [List.length_map, List.length_map] at this; exact this
    have off : Off D (fun i acc (_ : Hp) => acc = List.replicate i (V.bl true)) := fun _ _ _ _ _ _ _ z => z
    refine lc_fil walk_tup hD (fun i acc _ => acc = List.replicate i (V.bl true)) rfl (fun H' s' => sqT_up ha s') ?_ ?_
    · rintro i v acc H2 H3 hi2 s2 e2 rfl ⟨rfl, hv⟩
      rw [List.getElem?_map] at hv
      obtain ⟨r, hr, rfl⟩ := Option.map_eq_some_iff.mp hv
      have hm := List.mem_of_getElem? hr
      obtain ⟨p, hp, e2p⟩ : ∃ p ∈ st, [p.1, p.2] = r.2 := by
        have := List.mem_map_of_mem (f := Prod.snd) hm
        rw [hrs] at this
        exact List.mem_map.mp this
      have hq := hk r hm
      rw [← e2p] at hq
      refine ⟨rfl, tt_yes ⟨_, rfl, _, rfl, _, rfl, d, e, r.1, p1, p2, p.1, p.2, rfl, h1.up s2, h2.up s2, sqT_up hq s2, ok.one p hp, ok.two p hp, ?_⟩⟩
      exact put_of hD off s2 e2 (Same.refl _) (by rw [List.length_replicate, sizeLine_eq]; rw [List.length_map] at hi2; have := ok.len; omega) (rep_snoc _ _)
    · rintro acc H2 s2 e2 rfl
      refine ⟨D, List.replicate _ true, rfl, SqL.of (by rw [e2, List.map_replicate]), ?_⟩
      rw [all_rep]
      exact k _ s2
theorem scSteps : FnScope ["placements", "value", "pair"] ["placements", "value"] (defScope sSteps) := ⟨rfl, rfl, rfl, by decide +kernel, rfl, by decide +kernel, by decide +kernel⟩
theorem ok_steps {f : Addr} {fd : FuncData} (F : Fun K "is_steps" "is_steps" sSteps f fd) (T : TxM K mg) (hB : Has P w K mg base "is_bond" 3 ["befores", "afters", "value"] (spBond K)) : FnOk P w K mg base CX0 4 f fd ["placements", "value"] (spSteps K) := by
  obtain ⟨fB, fdB, mB, kB, bB, GB⟩ := hB
  refine F.ok scSteps (fun vs H Q E h => ?_) (fun cdv A outer s H vs Q E hr h => ?_)
  · obtain ⟨d, a, pl, st, rfl, _⟩ := h; rfl
  · obtain ⟨d, a, pl, st, rfl, h1, hA, ok, dif, k⟩ := h
    refine ⟨_, (pss_one (ps_ret (pe_and (pe_call GB hr (by rfl) mB kB bB .nil pass0 (pa_cons (pv 0) (pa_cons (pv 0) (pa_cons (pv 1) pa_nil)))) (pe_one (pe_callB (cr_all rfl) (by rfl) T.all PyProof.Rows.boot_all (pa_cons (pe_lc (own := [("pair", 2)]) (g := gName 2) (tt := tYes) (te := tOp rNe (tOp (rIxT K) (tVar 2) (tC (.int 0))) (tOp (rIxT K) (tVar 2) (tC (.int 1)))) rfl scSteps.nd (pi_tup (pv 1)) (blkOk_by (N := ["placements", "value", "pair"]) (sc := defScope sSteps) (by decide +kernel)) (fun _ _ _ _ _ => pg_name (i := 2) scSteps.nd rfl (Or.inl rfl)) (fun _ _ _ _ _ => pts_nil) (fun _ _ _ _ _ => (pe_cmpR op_ne (pe_ix ix_tup (pv 2) pe_int (fun _ _ => rfl)) (pe_ix ix_tup (pv 2) pe_int (fun _ _ => rfl)) (nomark _)))) pa_nil)))))), ?_⟩
    refine ⟨_, rfl, _, rfl, _, rfl, d, d, a, pl, pl, st, rfl, h1, h1, hA, ok, fun H1 s1 => ⟨_, rfl, iteT ?_⟩⟩
    obtain ⟨rs, hrs, ha, hk⟩ := hA.up s1
    refine ⟨_, rfl, a, rfl, ⟨_, ha⟩, fun D hD => ?_⟩
    have len : rs.length = st.length := by have := congrArg List.length hrs; rw [List.length_map, List.length_map] at this; exact this
    have off : Off D (fun i acc (_ : Hp) => acc = List.replicate i (V.bl true)) := fun _ _ _ _ _ _ _ z => z
    refine lc_fil walk_tup hD (fun i acc _ => acc = List.replicate i (V.bl true)) rfl (fun H' s' => sqT_up ha s') ?_ ?_
    · rintro i v acc H2 H3 hi2 s2 e2 rfl ⟨rfl, hv⟩
      rw [List.getElem?_map] at hv
      obtain ⟨r, hr, rfl⟩ := Option.map_eq_some_iff.mp hv
      have hm := List.mem_of_getElem? hr
      obtain ⟨p, hp, e2p⟩ : ∃ p ∈ st, [p.1, p.2] = r.2 := by
        have := List.mem_map_of_mem (f := Prod.snd) hm
        rw [hrs] at this
        exact List.mem_map.mp this
      have hq := hk r hm
      rw [← e2p] at hq
      refine ⟨rfl, tt_yes ⟨_, rfl, r.1, _, _, _, rfl, rfl, sqT_up hq s2, atI_nat (j := 0) rfl, _, rfl, r.1, _, _, _, rfl, rfl, sqT_up hq s2, atI_nat (j := 1) rfl, rfl, ?_⟩⟩
      rw [show (!decide (V.str p.1 = V.str p.2)) = true by rw [decide_eq_false (fun z => dif p hp (V.str.inj z))]; rfl]
      exact put_of hD off s2 e2 (Same.refl _) (by rw [List.length_replicate, sizeLine_eq]; rw [List.length_map] at hi2; have := ok.len; omega) (rep_snoc _ _)
    · rintro acc H2 s2 e2 rfl
      refine ⟨D, List.replicate _ true, rfl, SqL.of (by rw [e2, List.map_replicate]), ?_⟩
      rw [all_rep]
      exact k _ (s1.trans s2)
theorem scTable : FnScope ["parts", "value", "name", "placements", "steps"] ["parts", "value"] (defScope sTable) := ⟨rfl, rfl, rfl, by decide +kernel, rfl, by decide +kernel, by decide +kernel⟩
theorem ok_table {f : Addr} {fd : FuncData} (F : Fun K "is_table" "is_table" sTable f fd) (T : TxM K mg) (hN : Has P w K mg base "is_name" 1 ["value"] (spName K)) (hL : Has P w K mg base "is_placements" 3 ["parts", "value"] (spPlaces K)) (hS : Has P w K mg base "is_steps" 4 ["placements", "value"] (spSteps K)) : FnOk P w K mg base CX0 5 f fd ["parts", "value"] (spTable K) := by
  obtain ⟨fN, fdN, mN, kN, bN, GN⟩ := hN
  obtain ⟨fL, fdL, mL, kL, bL, GL⟩ := hL
  obtain ⟨fS, fdS, mS, kS, bS, GS⟩ := hS
  refine F.ok scTable (fun vs H Q E h => ?_) (fun cdv A outer s H vs Q E hr h => ?_)
  · obtain ⟨a, b, ps, t, rfl, _⟩ := h; rfl
  · obtain ⟨a, b, ps, t, rfl, ha, ⟨d, q, hb, hd, hq⟩, ok, k⟩ := h
    have r1 := hr.mono (show 1 ≤ 4 by decide)
    have r3 := hr.mono (show 3 ≤ 4 by decide)
    refine ⟨_, (pss_cons (ps_if (PW.pt (pw_or (pt_not (pt_val (pe_callB call_isi (by rfl) T.isi PyProof.Rows.boot_isinstance (pa_cons (pv 1) (pa_cons (pe_bltn (v := .ty "tuple") (by rfl) T.tuple PyProof.Rows.boot_tuple rfl) pa_nil))))) (pw_or1 (pt_cmpR op_ne (pe_callB call_lenT (by rfl) T.len PySem.boot_len (pa_cons (pv 1) pa_nil)) pe_int (nomark _))))) (pss_one (ps_ret pe_bl)) pss_nil)
      (pss_cons (ps_asg (pv 1) (pg_tup rfl (pgs_cons (pg_name (i := 2) scTable.nd rfl (.inl rfl)) (pgs_cons (pg_name (i := 3) scTable.nd rfl (.inl rfl)) (pgs_cons (pg_name (i := 4) scTable.nd rfl (.inl rfl)) pgs_nil)))))
      (pss_one (ps_ret (pe_and (pe_call GN r1 (by rfl) mN kN bN .nil pass0 (pa_cons (pv 2) pa_nil)) (pe_and (pe_call GL r3 (by rfl) mL kL bL .nil pass0 (pa_cons (pv 0) (pa_cons (pv 3) pa_nil))) (pe_one (pe_call GS hr (by rfl) mS kS bS .nil pass0 (pa_cons (pv 3) (pa_cons (pv 4) pa_nil)))))))))), ?_⟩
    refine ⟨_, rfl, .ref b, .ty "tuple", .type "tuple", .type "tuple", true, rfl, .ty _, sqT_ty hb, kit_ty (by decide +kernel), _, rfl, iteF ?_⟩
    refine ⟨_, rfl, b, _, rfl, hb, rfl, _, rfl, iteF ?_⟩
    refine ⟨_, rfl, b, _, rfl, hb, rfl, _, _, rfl, _, _, rfl, _, _, rfl, rfl, ?_⟩
    refine ⟨_, rfl, _, .str t.nm, rfl, .str t.nm, (fun z e => by cases e; exact name_sz ok.nm), fun H1 s1 => ?_⟩
    rw [show nameD (.str t.nm) = true from ok.nm]
    refine ⟨_, rfl, iteT ⟨_, rfl, _, rfl, a, d, ps, t.pl, rfl, sqT_up ha s1, hd.up s1, ok.pl, fun H2 s2 => ⟨_, rfl, iteT ?_⟩⟩⟩
    exact ⟨_, rfl, _, rfl, d, q, t.pl, t.st, rfl, hd.up (s1.trans s2), hq.up (s1.trans s2), ok.st, ok.dif, fun H3 s3 => k _ ((s1.trans s2).trans s3)⟩
theorem scTables : FnScope ["parts", "value", "table"] ["parts", "value"] (defScope sTables) := ⟨rfl, rfl, rfl, by decide +kernel, rfl, by decide +kernel, by decide +kernel⟩
theorem ok_tables {f : Addr} {fd : FuncData} (F : Fun K "is_tables" "is_tables" sTables f fd) (T : TxM K mg) (hM : ∃ t, mg "MAX_TABLES" = some (.int 3 t)) (hT : Has P w K mg base "is_table" 5 ["parts", "value"] (spTable K)) : FnOk P w K mg base CX0 6 f fd ["parts", "value"] (spTables K) := by
  obtain ⟨fT, fdT, mT, kT, bT, GT⟩ := hT
  obtain ⟨tM, mM⟩ := hM
  refine F.ok scTables (fun vs H Q E h => ?_) (fun cdv A outer s H vs Q E hr h => ?_)
  · obtain ⟨a, b, ps, rs, rfl, _⟩ := h; rfl
  · obtain ⟨a, b, ps, rs, rfl, ha, ⟨hb, hrs⟩, ok, k⟩ := h
    refine ⟨_, (pss_cons (ps_if (PW.pt (pw_or (pt_not (pt_chain op_le op_le pe_int (pe_callB call_lenT (by rfl) T.len PySem.boot_len (pa_cons (pv 1) pa_nil)) (pe_glob (v := .int 3) (by rfl) mM ⟨_, rfl⟩))) (pw_or1 (pt_not (pt_val (pe_callB (cr_all rfl) (by rfl) T.all PyProof.Rows.boot_all (pa_cons (pe_lc (own := [("table", 2)]) (g := gName 2) (tt := tYes)  rfl scTables.nd (pi_tup (pv 1)) (blkOk_by (N := ["parts", "value", "table"]) (sc := defScope sTables) (by decide +kernel)) (fun _ _ _ _ _ => pg_name (i := 2) scTables.nd rfl (Or.inl rfl)) (fun _ _ _ _ _ => pts_nil) (fun _ _ _ _ _ => (pe_call GT hr (by rfl) mT kT bT .nil pass0 (pa_cons (pv 0) (pa_cons (pv 2) pa_nil))))) pa_nil))))))) (pss_one (ps_ret pe_bl)) pss_nil)
      (pss_one (ps_ret (pe_cmpR op_eq (pe_callB call_lenTx (by rfl) T.len PySem.boot_len (pa_cons (pe_st (own := [("table", 2)]) (g := gName 2) (tt := tYes) (te := tOp (rIxT K) (tVar 2) (tC (.int 0))) rfl scTables.nd (pi_tup (pv 1)) (blkOk_by (N := ["parts", "value", "table"]) (sc := defScope sTables) (by decide +kernel)) (fun _ _ _ _ _ => pg_name (i := 2) scTables.nd rfl (Or.inl rfl)) (fun _ _ _ _ _ => pts_nil) (fun _ _ _ _ _ => (pe_ix ix_tup (pv 2) pe_int (fun _ _ => rfl)))) pa_nil)) (pe_callB call_lenT (by rfl) T.len PySem.boot_len (pa_cons (pv 1) pa_nil)) (nomark _))))), ?_⟩
    have lo := ok.lo; have hi := ok.hi
    rw [List.length_map] at lo hi
    refine ⟨_, rfl, b, _, rfl, hb, _, _, rfl, rfl, _, rfl, ?_⟩
    rw [List.length_map, decide_eq_true (show (1 : Int) ≤ (rs.length : Int) by omega)]
    refine iteT ⟨_, _, rfl, rfl, _, rfl, ?_⟩
    rw [decide_eq_true (show (rs.length : Int) ≤ 3 by omega)]
    refine iteF ?_
    refine ⟨_, rfl, b, rfl, ⟨_, hb⟩, fun D hD => ?_⟩
    have off : Off D (fun i acc (_ : Hp) => acc = List.replicate i (V.bl true)) := fun _ _ _ _ _ _ _ z => z
    refine lc_fil walk_tup hD (fun i acc _ => acc = List.replicate i (V.bl true)) rfl (fun H' s' => sqT_up hb s') ?_ ?_
    · rintro i v acc H2 H3 hi2 s2 e2 rfl ⟨rfl, hv⟩
      rw [List.getElem?_map] at hv
      obtain ⟨r, hr, rfl⟩ := Option.map_eq_some_iff.mp hv
      have hm := List.mem_of_getElem? hr
      refine ⟨rfl, tt_yes ⟨_, rfl, _, rfl, a, r.1, ps, r.2, rfl, sqT_up ha s2, (hrs r hm).up s2, ok.tb _ (List.mem_map_of_mem hm), fun H4 s4 => ?_⟩⟩
      exact put_of hD off s2 e2 s4 (by rw [List.length_replicate, sizeLine_eq]; rw [List.length_map] at hi2; omega) (rep_snoc _ _)
    · rintro acc H1 s1 e1 rfl
      refine ⟨D, List.replicate _ true, rfl, SqL.of (by rw [e1, List.map_replicate]), ?_⟩
      rw [all_rep]
      refine ⟨_, rfl, iteF ?_⟩
      refine ⟨_, rfl, b, rfl, ⟨_, sqT_up hb s1⟩, fun S hS => ?_⟩
      have nmk : ∀ {i : Nat} {r : Addr × Tb}, rs[i]? = some r → ((rs.map Prod.snd).map Tb.nm)[i]? = some r.2.nm := fun h => by rw [List.getElem?_map, List.getElem?_map, h]; rfl
      refine st_fil walk_tup hS ((rs.map Prod.snd).map Tb.nm) (fun H' s' => sqT_up (sqT_up hb s1) s') ?_ ?_
      · rintro i v L H2 H3 hi2 s2 e2 hh ⟨rfl, hv⟩
        rw [List.length_map] at hi2
        rw [List.getElem?_map] at hv
        obtain ⟨r, hr, rfl⟩ := Option.map_eq_some_iff.mp hv
        obtain ⟨d, q, hrt, _⟩ := hrs r (List.mem_of_getElem? hr)
        exact ⟨rfl, tt_yes ⟨_, rfl, r.1, _, _, _, rfl, rfl, sqT_up hrt (s1.trans s2), atI_nat (j := 0) rfl, putT_of hS s2 e2 hh (nmk hr) (by omega)⟩⟩
      · rintro L H2 s2 e2 hh
        rw [List.length_map] at hh
        refine ⟨S, L, rfl, e2, _, rfl, b, _, rfl, sqT_up hb (s1.trans s2), rfl, ?_⟩
        have el : L.length = rs.length := by
          have := held_all ok.dif (by rw [List.length_map, List.length_map]; exact hh)
          rw [this, List.length_map, List.length_map]
        rw [List.length_map, el, decide_eq_true rfl]
        exact k _ (s1.trans s2)
end
end Rd

namespace Rd
open PySem PySem.Spec PyProof.Rows L2 Tq Dn Dc
def rTupOf (K : PySem.W.Frag) : List V → Hp → VK → Prop := fun xs H Q => ∃ p ys, xs = [.ref p] ∧ SqL K H p ys ∧ ∀ l, H l = none → Q (.ref l) (upd H l (.tup ys))
theorem call_tupOf {X : Cx} : CallR X (.type "tuple") (rTupOf X.K) := by
  intro pins s σ H xs us Q I r h
  obtain ⟨p, ys, e, h1, h2⟩ := h
  exact call_tuple_of pins s σ H xs us Q I r ⟨p, ys, e, .inl ⟨h1, h2⟩⟩
end Rd

/-! Lists of data and of dicts with data: == and != of equal ones. -/
namespace PySem.SeqAt
open AutoSeq1 (wpAny_loadPart')
open MeetsSeq MeetsSeq2 MeetsSeq3
section
variable {prog : Program} {w : World}
theorem ne_go (l b : Addr) (xs ys : Array Value) (n m : Nat) (da db : Option Addr) (sa sb : Array (Option Value)) (hs : xs.size = ys.size) (k : Nat) :
    ∀ i : Nat, xs.size - i = k → MeetsIn prog w (Builtin.«list.__eq__.loop» ⟨[.ref l, .ref b, rawInt i, rawInt 3], []⟩)
      (fun A R s => s.heap.get? l = some { cls := .type "list", dict := da, data := .seq xs n, slots := sa } ∧ s.heap.get? b = some { cls := .type "list", dict := db, data := .seq ys m, slots := sb } ∧
        (∀ j (h1 : j < xs.size) (h2 : j < ys.size), EqP prog w A.in1 s xs[j] ys[j] true) ∧ R (.ok (.ret (.bool false))) s) := by
  induction k with
  | zero =>
    intro i hk A R s h
    obtain ⟨hp, g, d, tk, os⟩ := s; obtain ⟨hl, hb, he, h⟩ := h
    wp_walk using wpAny_loadPart' hl, wpAny_loadPart' hb
    have z1 : xs[((i : Nat) : Int).toNat]? = none := by simp; omega
    have z2 : ys[((i : Nat) : Int).toNat]? = none := by simp; omega
    rw [z1, z2]
    wp_walk using wpAny_loadPart' hl, wpAny_loadPart' hb
    show R (.ok (.ret (.bool (xs.size != ys.size)))) _
    rw [hs]
    simpa using h
  | succ k ih =>
    intro i hk A R s h
    obtain ⟨hp, g, d, tk, os⟩ := s; obtain ⟨hl, hb, he, h⟩ := h
    wp_walk using wpAny_loadPart' hl, wpAny_loadPart' hb
    have i1 : i < xs.size := by omega
    have i2 : i < ys.size := by omega
    have z1 : xs[((i : Nat) : Int).toNat]? = some xs[i] := by simp [i1]
    have z2 : ys[((i : Nat) : Int).toNat]? = some ys[i] := by simp [i2]
    rw [z1, z2]
    refine wpAny_bind (he i i1 i2 _ _ ?_)
    wp_walk
    rw [show ((i : Int) + 1) = ((i + 1 : Nat) : Int) by push_cast; rfl]
    exact ⟨plainId_quiet plain_eq_loop _, codeAny_builtin entry_eq_loop (by
      rw [Around.under_plainId plain_eq_loop _]
      exact ih (i + 1) (by omega) A R _ ⟨hl, hb, he, h⟩)⟩
theorem ne_lists {A : Around} {s : Shared} {l b : Addr} {xs ys : Array Value} (hl : s.heap.IsList l xs) (hb : s.heap.IsList b ys) (hs : xs.size = ys.size) (hu : A.units < cLine)
    (he : ∀ j (h1 : j < xs.size) (h2 : j < ys.size), EqP prog w A.in1 s xs[j] ys[j] true) (E Q : Value → Shared → Prop) (h : Q (.bool false) s) : wpAny (model prog w) A (richCompare .NotEq (.ref l) (.ref b)) Q E s := by
  obtain ⟨⟨cls, dd, data, sl⟩, ho, hc, n, hd⟩ := id hl
  obtain ⟨⟨cls2, dd2, data2, sl2⟩, ho2, hc2, n2, hd2⟩ := id hb
  simp only at hc hd hc2 hd2
  subst hc hd hc2 hd2
  have ta : s.TypeIs (.ref l) "list" := ⟨_, ho, rfl⟩
  have tb : s.TypeIs (.ref b) "list" := ⟨_, ho2, rfl⟩
  refine wpAny_richCompare_same_room (op := .NotEq) ta tb F.slot_list_ne (call_meetsIn F.slot_list_ne ta F.entry_list_ne (F.args_list_ne_2 _ _) (S := fun A R s => s.heap.get? l = some { cls := .type "list", dict := dd, data := .seq xs n, slots := sl } ∧
    s.heap.get? b = some { cls := .type "list", dict := dd2, data := .seq ys n2, slots := sl2 } ∧ (∀ j (h1 : j < xs.size) (h2 : j < ys.size), EqP prog w A.in1 s xs[j] ys[j] true) ∧ R (.ok (.ret (.bool false))) s) (fun A R s h => ?_)
    ⟨ho, ho2, he, show Value.bool false ≠ Value.notImplemented ∧ Q (.bool false) s from ⟨(fun x => nomatch x), h⟩⟩) hu
  obtain ⟨hp, g, d, tk, os⟩ := s; obtain ⟨hl, hb, he, h⟩ := h
  have f3 := AutoSeq1.sub_list_list
  have hne : ¬ (xs.size != ys.size) = true := by simp [hs]
  wp_walk using wpAny_loadPart' hl, wpAny_loadPart' hb
  exact ⟨plainId_quiet plain_eq_loop _, codeAny_builtin entry_eq_loop (by
    rw [Around.under_plainId plain_eq_loop _]
    exact ne_go l b xs ys n n2 dd dd2 sl sl2 hs _ 0 rfl A R _ ⟨hl, hb, he, h⟩)⟩
end
end PySem.SeqAt
namespace Dn
open PySem PySem.Spec PyProof.Rows L2
def DatEq (K : PySem.W.Frag) (H : Hp) (x y : V) : Prop := ∃ d e, Dp K H x d ∧ Dp K H y e ∧ SeqAt.shaped d = true ∧ SeqAt.shaped e = true ∧ PyData.eqv d e = true
def DicEq (K : PySem.W.Frag) (H : Hp) (x y : V) : Prop := ∃ a b ks ls, x = .ref a ∧ y = .ref b ∧ H a = some (.dK ks) ∧ H b = some (.dK ls) ∧ ks.length = ls.length ∧ ∀ p ∈ ks, ∃ u, valV ls p.1 = some u ∧ DatEq K H p.2 u
def ItEq (K : PySem.W.Frag) (H : Hp) (x y : V) : Prop := DatEq K H x y ∨ DicEq K H x y
section
variable {X : Cx} {pins : List (Addr × Obj)} {σ : L2.St} {H : Hp} {s : Shared} {A : Around}
theorem dat_run (I : Inv X pins σ H s) (hu : A.units + 64 < cLine) {x y : V} {v u : Value} (h : DatEq X.K H x y) (rx : RelV x v) (ry : RelV y u) : SeqAt.EqP X.prog X.w A s v u true := by
  obtain ⟨d, e, hd, he, sd, se, q⟩ := h
  obtain ⟨as, r1⟩ := Dp.reads I d x v hd rx
  obtain ⟨bs, r2⟩ := Dp.reads I e y u he ry
  have z := SeqAt.eqAt_reads d e A s v u as bs r1 r2 (SeqAt.canLay_of_shaped sd) (SeqAt.canLay_of_shaped se) (SeqAt.room_of_shaped sd hu)
  rw [q] at z
  exact z.eqP
theorem dic_rc (I : Inv X pins σ H s) (hu : A.units + 65 < cLine) {x y : V} {v u : Value} (h : DicEq X.K H x y) (rx : RelV x v) (ry : RelV y u) (E Q : Value → Shared → Prop) (q : Q (.bool true) s) : wpAny (model X.prog X.w) A (richCompare .Eq v u) Q E s := by
  obtain ⟨a, b, ks, ls, rfl, rfl, ha, hb, hl, hp⟩ := h
  cases (show v = Value.ref a from rx)
  cases (show u = Value.ref b from ry)
  obtain ⟨_, ya, va, ra, da⟩ := (show ObjOk X.prog X.w H s.heap a (.dK ks) from I.hok a _ ha)
  obtain ⟨_, yb, vb, rb, db⟩ := (show ObjOk X.prog X.w H s.heap b (.dK ls) from I.hok b _ hb)
  refine PySem.W.rcP_dicts (knd := mixKind X.prog X.w) (r := true) ya yb da db (by omega) (fun _ => hits_run (fun x y v u h => dat_run (A := A.in1) I (by show A.units + 1 + 64 < cLine; omega) h) rb ra hp) E Q ?_
  have e : va.length = vb.length := by rw [← ra.length, ← rb.length]; exact hl
  rw [show (va.length == vb.length && true) = true from by rw [e]; simp]
  exact q
theorem it_run (I : Inv X pins σ H s) (hu : A.units + 65 < cLine) {x y : V} {v u : Value} (h : ItEq X.K H x y) (rx : RelV x v) (ry : RelV y u) : SeqAt.EqP X.prog X.w A s v u true := by
  rcases h with h | h
  · exact dat_run I (by omega) h rx ry
  · have step := dic_rc I hu h rx ry
    obtain ⟨a, b, _, _, rfl, rfl, _⟩ := id h
    cases (show v = Value.ref a from rx)
    cases (show u = Value.ref b from ry)
    by_cases e : a = b
    · subst e; exact (SeqAt.EqAt.same _).eqP
    · exact SeqAt.eqP_refs e step
end
section
variable {X : Cx}
/-- two lists of items that are equal -/
def rLists (K : PySem.W.Frag) (b : Bool) : R2 := fun x y H Q => ∃ a c xs ys, x = .ref a ∧ y = .ref c ∧ SqL K H a xs ∧ SqL K H c ys ∧ Paired (ItEq K H) xs ys ∧ Q (.bl b) H
theorem op_eqLists (hu : X.A.units + 66 < cLine) : OpR X (compareOp .Eq) (rLists X.K true) := by
  intro pins s σ H x y v u Q I rx ry h
  obtain ⟨a, c, xs, ys, rfl, rfl, ha, hc, hp, q⟩ := h
  cases (show v = Value.ref a from rx)
  cases (show u = Value.ref c from ry)
  obtain ⟨us, r1, p1, _⟩ := I.list ha
  obtain ⟨ws, r2, p2, _⟩ := I.list hc
  have sz : us.toArray.size = ws.toArray.size := by rw [List.size_toArray, List.size_toArray, ← r1.length, ← r2.length]; exact Paired.length hp
  show wpAny _ _ (richCompare .Eq (.ref a) (.ref c)) _ _ _
  refine SeqAt.rcP_lists (e := fun _ => true) p1.isList p2.isList sz (by omega) (fun j h1 h2 => ?_) _ _ ?_
  · have k := items_run (P := X.prog) (w := X.w) (A := X.A.in1) (fun x y v u h => it_run (A := X.A.in1) I (by show X.A.units + 1 + 65 < cLine; omega) h) hp r1 r2 j (by simpa using h1) (by simpa using h2)
    simpa using k
  · rw [show ((List.range us.toArray.size).all fun _ => true) = true from List.all_eq_true.mpr fun _ _ => rfl]
    exact ⟨.bl true, H, I, rfl, q⟩
theorem op_neLists (hu : X.A.units + 66 < cLine) : OpR X (compareOp .NotEq) (rLists X.K false) := by
  intro pins s σ H x y v u Q I rx ry h
  obtain ⟨a, c, xs, ys, rfl, rfl, ha, hc, hp, q⟩ := h
  cases (show v = Value.ref a from rx)
  cases (show u = Value.ref c from ry)
  obtain ⟨us, r1, p1, _⟩ := I.list ha
  obtain ⟨ws, r2, p2, _⟩ := I.list hc
  have sz : us.toArray.size = ws.toArray.size := by rw [List.size_toArray, List.size_toArray, ← r1.length, ← r2.length]; exact Paired.length hp
  show wpAny _ _ (richCompare .NotEq (.ref a) (.ref c)) _ _ _
  refine SeqAt.ne_lists p1.isList p2.isList sz (by omega) (fun j h1 h2 => ?_) _ _ ⟨.bl false, H, I, rfl, q⟩
  have k := items_run (P := X.prog) (w := X.w) (A := X.A.in1) (fun x y v u h => it_run (A := X.A.in1) I (by show X.A.units + 1 + 65 < cLine; omega) h) hp r1 r2 j (by simpa using h1) (by simpa using h2)
  simpa using k
end
end Dn

/-! enumerate over a tuple -/
namespace Dn
open PySem PySem.Spec PyProof.Rows L2
section
variable {prog : Program} {w : World} {A : Around} {E : Value → Shared → Prop} {s : Shared}
theorem meets_enumT (t : Addr) (items : Array Value) : Meets (Builtin.«enumerate.__new__» ⟨[.type "enumerate", .ref t], []⟩) (fun _ R s => s.heap.IsTuple t items ∧
    R (.ok (.ret (.ref (s.heap.objs.size + 1)))) { s with heap := (s.heap.push { cls := .type "tuple_iterator", data := .fields #[.ref t, .int 0 0] }).push { cls := .type "enumerate", data := .fields #[.none, .bool false, .ref s.heap.objs.size, rawInt 0, .none, .none] } }) :=
  .of_wp fun prog w A R s h => by
    obtain ⟨hp, g, d, tk, os⟩ := s
    obtain ⟨h1, h⟩ := h
    have hsub := sub_enumerate
    have q1 : ∀ {A' : Around} {E : Value → Shared → Prop} {Q : Value → Shared → Prop}, Q (.ref hp.objs.size) ⟨hp.push { cls := .type "tuple_iterator", data := .fields #[.ref t, .int 0 0] }, g, d, tk, os⟩ → wpAny (model prog w) A' (pyIter (.ref t)) Q E ⟨hp, g, d, tk, os⟩ := fun q => wpAny_pyIter_tuple h1 q
    have e : ∀ o : Obj, (hp.push o).objs.size = hp.objs.size + 1 := fun o => Heap.size_push ..
    wp_walk
    refine wpAny_stack_any fun st => wpAny_pure ?_
    split
    · rename_i c _ _ _ _ _
      cases (c == Value.type "enumerate")
      · wp_walk using q1
        exact ⟨_, rfl, by rw [← e] at h; exact h⟩
      · wp_walk using q1
        exact ⟨_, rfl, by rw [← e] at h; exact h⟩
    · wp_walk using q1
      exact ⟨_, rfl, by rw [← e] at h; exact h⟩
theorem call_enumT {t : Addr} {items : Array Value} {Q : Value → Shared → Prop} (hT : s.heap.IsTuple t items)
    (h : ∀ h', IsEnum h' (s.heap.objs.size + 1) s.heap.objs.size 0 .none → h'.IsTupleIter s.heap.objs.size t 0 → (∀ b o, s.heap.get? b = some o → h'.get? b = some o) → Q (.ref (s.heap.objs.size + 1)) { s with heap := h' }) :
    wpAny (model prog w) A (call (.type "enumerate") [.ref t]) Q E s := by
  refine callType_new F.called_enumerate (by decide) (F.typeCall_enumerate_1 _) (F.newCall_enumerate_1 _) (fun obj => F.args_object_init_2 obj _) F.entry_enumerate_new (meets_enumT t items) ⟨hT, ?_⟩
  have hz : (s.heap.push { cls := .type "tuple_iterator", data := .fields #[.ref t, .int 0 0] }).objs.size = s.heap.objs.size + 1 := Heap.size_push ..
  have he : IsEnum ((s.heap.push { cls := .type "tuple_iterator", data := .fields #[.ref t, .int 0 0] }).push { cls := .type "enumerate", data := .fields #[.none, .bool false, .ref s.heap.objs.size, rawInt 0, .none, .none] }) (s.heap.objs.size + 1) s.heap.objs.size 0 .none := by
    have := Heap.get?_push_size (s.heap.push { cls := .type "tuple_iterator", data := .fields #[.ref t, .int 0 0] }) (o := { cls := .type "enumerate", data := .fields #[.none, .bool false, .ref s.heap.objs.size, rawInt 0, .none, .none] }) rfl
    rw [hz] at this; exact this
  exact ⟨⟨_, he, rfl⟩, h _ he ⟨_, Heap.get?_push_of_some _ (Heap.get?_push_size _ rfl), rfl, rfl⟩ fun b o x => Heap.get?_push_of_some _ (Heap.get?_push_of_some _ x)⟩
theorem enum_endT {e it l : Addr} {i : Nat} {c : Int} {items : Array Value} {old : Value} {Q : Option Value → Shared → Prop} (hh : A.handled = none) (he : IsEnum s.heap e it c old) (hit : s.heap.IsTupleIter it l i) (hl : s.heap.IsTuple l items) (hx : items[i]? = none)
    (hQ : ∀ h', Heap.ExtBut it s.heap h' → Q none { s with heap := h' }) : wpAny (model prog w) A (pyNext (.ref e)) Q E s := by
  have hT : s.TypeIs (.ref e) "enumerate" := ⟨_, he, rfl⟩
  unfold pyNext
  refine wpAny_bind (wpAny_attempt (wpAny_callSpecial?_slot (name := Str.ofString "__next__") hT F.slot_enumerate_next (wpAny_call_entry F.slot_enumerate_next hT F.entry_enumerate_next ?_ (F.args_enumerate_next_1 _))))
  show wpAny _ _ (field (.ref e) 2 >>= _) _ _ _
  refine wpAny_bind (wpAny_field he rfl (x := .ref it) rfl ?_)
  refine wpAny_bind (wpAny_nextOf_tuple_end hh hit hl hx fun h' x he' ⟨o, ho, hc⟩ => ?_)
  refine wpAny_bind (wpAny_isInstance (T := "StopIteration") (b := true) ⟨o, ho, hc⟩ isSubtype_stop ?_)
  exact wpAny_pure (hQ _ he')
end
/-- the tuple at a, each item in a new pair -/
def Itp (K : PySem.W.Frag) (a : Addr) : It :=
  ⟨fun i H => ∃ (xs : List V) (x : V), SqT K H a xs ∧ xs[i]? = some x, fun i H v H' => ∃ T x, v = .ref T ∧ H T = none ∧ H' = upd H T (.tup [.int (i : Nat), x]) ∧ ∀ xs, SqT K H a xs → xs[i]? = some x, fun i H => ∃ xs : List V, SqT K H a xs ∧ xs.length ≤ i⟩
theorem turn_enumT {P : Program} {w : World} {K : PySem.W.Frag} {elts : List Expr} {kk : Nat} {tpos : Pos} (a e it : Addr) :
    Turn P w K (.Tuple elts kk tpos) (Itp K a) [e, it] e (fun i h => (∃ old, IsEnum h e it ((i : Nat) : Int) old) ∧ h.IsTupleIter it a i ∧ e ≠ it) where
  mem := by simp
  obj := fun i h st b hb => by
    obtain ⟨⟨old, he⟩, ⟨o, ho, hc, hd⟩, _⟩ := st
    rcases (by simpa using hb : b = e ∨ b = it) with rfl | rfl
    · exact ⟨_, he, fun v q => nomatch q⟩
    · exact ⟨o, ho, fun v q => by rw [hd] at q; cases q⟩
  keep := fun i h h' st k => let ⟨⟨old, he⟩, hi, hne⟩ := st; ⟨⟨old, k e (by simp) _ he⟩, hi.at fun o q => k it (by simp) o q, hne⟩
  item := by
    intro X hP hw hK hc i pins s σ H E I hf st hg
    subst hP hw hK
    obtain ⟨⟨old, he⟩, hit, hne⟩ := st
    obtain ⟨xs, x, hq, hx⟩ := hg
    obtain ⟨its, rv, p, hz⟩ := I.tuple hq
    obtain ⟨u, hu, ru⟩ := rv.get hx
    have hel : e < s.heap.objs.size := Heap.lt_size he
    have hil : it < s.heap.objs.size := by obtain ⟨_, q, _⟩ := hit; exact Heap.lt_size q
    have p' : s.heap.IsTuple a its.toArray := p
    have hai : a ≠ it := fun z => by
      obtain ⟨o1, q1, c1, _⟩ := hit
      obtain ⟨o2, q2, c2, _⟩ := p'
      rw [z, q1] at q2; cases q2
      rw [c1] at c2; exact absurd c2 (by decide)
    have hae : a ≠ e := fun z => by
      obtain ⟨o2, q2, c2, _⟩ := p'
      rw [z, he] at q2; cases q2
      exact absurd (Value.type.inj c2) (by decide)
    have hlt : i < its.toArray.size := by
      have := (List.getElem?_eq_some_iff.mp hu).1
      simpa using this
    refine wpAny_pyNext_enum_itemC (c := (i : Int)) (Draws.tuple (show X.A.in1.handled = none from I.ok.hd hc) it a hai its.toArray) he ⟨hit, p'⟩ hlt hne (by simpa using ⟨hne, fun z => hae z.symm⟩) fun y h' tk hy ho hst hT hsz hk => ?_
    obtain rfl : u = y := by
      have h1 : its.toArray[i]? = some y := hy
      have h2 : its.toArray[i]? = some u := by simpa using hu
      rw [h2] at h1; cases h1; rfl
    refine ⟨_, rfl, wpAny_letOwnedTupleGo_enum (s := { s with heap := h', toks := tk + 1 }) ho fun h'' he' sb => ?_⟩
    have hT2 : h''.get? s.heap.objs.size = some { cls := .type "tuple", data := .seq #[.int i tk, u] } := (sb.2 _ (Nat.ne_of_gt hel)).trans hT
    have new : ObjOk X.prog X.w (upd H s.heap.objs.size (.tup [.int (i : Nat), x])) h'' s.heap.objs.size (.tup [.int (i : Nat), x]) :=
      ⟨by show 2 ≤ sizeLine; decide, [.int i tk, u], .cons ⟨_, rfl⟩ (.cons ru .nil), ⟨_, hT2, rfl, _, rfl⟩⟩
    have I1 : Inv X pins σ (upd H s.heap.objs.size (.tup [.int (i : Nat), x])) { s with heap := h'', toks := tk + 1 } :=
      I.turnedNew (ch := [e, it]) (fun b o hb q => (sb.2 b (fun z => hb (by simp [z]))).trans (hk b o (fun z => hb (by simp [z])) (fun z => hb (by simp [z])) q)) hf (Nat.le_refl _) new
    refine ⟨.ref s.heap.objs.size, _, I1, rfl, ⟨_, x, rfl, I.hok.fresh (Nat.le_refl _), rfl, fun ys hy => by rw [I.tuple_inj hy hq]; exact hx⟩, ⟨⟨u, ?_⟩, hst.1.at fun o q => (sb.2 it (Ne.symm hne)).trans q, hne⟩, fun b hb => ?_⟩
    · have e1 : ((i + 1 : Nat) : Int) = (i : Int) + 1 := by omega
      rw [e1]; exact he'
    · have hb' : b < s.heap.objs.size := by
        rcases (by simpa using hb : b = e ∨ b = it) with z | z
        · rw [z]; exact hel
        · rw [z]; exact hil
      rw [upd_ne (Nat.ne_of_lt hb')]
      exact (hf b hb).1
  done := by
    intro X hP hw hK hc i pins s σ H E I hf st hg
    subst hP hw hK
    obtain ⟨⟨old, he⟩, hit, hne⟩ := st
    obtain ⟨xs, hq, hx⟩ := hg
    obtain ⟨its, rv, p, hz⟩ := I.tuple hq
    obtain ⟨f0, f1, f2, f3, f4, f5⟩ := hf it (by simp)
    have hl := rv.length
    exact enum_endT (I.ok.hd hc) he hit (show s.heap.IsTuple a its.toArray from p) (by simp; omega) fun h' eb => ⟨rfl, I.turned (t' := s.toks) (fun b o hb q => eb b o hb q) f0 f1 f3 f4 f5⟩
  self := fun A i s Q E st h => let ⟨⟨_, he⟩, _⟩ := st; wpAny_pyIter_enum he h
def iEnumT (K : PySem.W.Frag) (ta : TA) : TI := fun σ H R => ta σ H fun vs H1 => ∃ a xs, vs = [.ref a] ∧ SqT K H1 a xs ∧ R (Itp K a) H1
theorem pi_enumT {X : Cx} {e : Expr} {ta : TA} {p pos tpos : Pos} {elts : List Expr} {kk : Nat} (hg : Gl X "enumerate") (hm : X.mg "enumerate" = none) (ha : PA X [e] ta) (hs : starEach [e] X.env = [(false, eval e X.env)] := by rfl) :
    PI X (.Tuple elts kk tpos) (.Call (.Name "enumerate" p) [e] [] pos) (iEnumT X.K ta) := by
  refine ⟨fun pins s σ H R I h => ?_⟩
  refine Call_ (ld_blt I hg hm boot_enumerate (PyProof.Rows.callWith_type1 (thn (ha.run pos pins s σ H _ I h) fun us s1 ⟨vs, H1, I1, r1, q1⟩ => ?_) hs rfl))
  obtain ⟨a, xs, ex, hq, q⟩ := q1
  subst ex
  cases r1 with
  | cons r rr =>
    cases rr
    cases r
    obtain ⟨its, rv, p', hz⟩ := I1.tuple hq
    refine call_enumT (show s1.heap.IsTuple a its.toArray from p') fun h' he hit hk => wpAny_pyIter_enum he ?_
    refine ⟨s1.heap.objs.size + 1, [s1.heap.objs.size + 1, s1.heap.objs.size], _, _, H1, rfl, I1.kept (t' := s1.toks) hk, turn_enumT a (s1.heap.objs.size + 1) s1.heap.objs.size, ⟨⟨.none, he⟩, hit, Nat.succ_ne_self _⟩, fun b hb => ?_, q⟩
    have hle : s1.heap.objs.size ≤ b := by
      rcases (by simpa using hb : b = s1.heap.objs.size + 1 ∨ b = s1.heap.objs.size) with z | z
      · rw [z]; exact Nat.le_add_right _ _
      · rw [z]; exact Nat.le_refl _
    exact I1.fpOk hle (I1.hok.fresh hle)
theorem walk_enumT {K : PySem.W.Frag} {a : Addr} {xs : List V} : Walk (Itp K a) xs.length (fun H => SqT K H a xs) (YPair (fun i => some (.int (i : Nat))) (fun i => xs[i]?)) := by
  refine ⟨fun i _ hi q => ⟨xs, xs[i], q, by simp [hi]⟩, fun _ q => ⟨xs, q, Nat.le_refl _⟩, fun i H v H' _ q y => ?_⟩
  obtain ⟨T, x, h1, h2, h3, h4⟩ := y
  exact ⟨T, .int (i : Nat), x, h1, h2, h3, rfl, h4 xs q⟩
end Dn

/-! Movers: bonds, placements in order, joint placements -/
namespace Rd
open PySem PySem.Spec PyProof.Rows L2 Tq Dn Dc
abbrev sFull : Stmt := top 30
abbrev sOrd : Stmt := top 31
abbrev sJoin : Stmt := top 32
abbrev sNeedP : Stmt := top 34
/-- a comprehension with two clauses: what is said of the list that is being filled by the inner walk -/
def InW (H1 : Hp) (D : Addr) (J1 : It) (g1 : TG) (tt1 : TT) (te : TE) (vs1 : List Nat) (σ2 : L2.St) (P : Nat → List V → Hp → Prop) (i : Nat) (H4 : Hp) : Prop :=
  ∃ (n1 : Nat) (P1 : Nat → List V → Hp → Prop) (G1 : Hp → Prop) (Y1 : Nat → Hp → V → Hp → Prop), Walk J1 n1 G1 Y1 ∧ Fil H1 D P1 0 H4 ∧ (∀ H, Same H1 H → G1 H) ∧
    (∀ j x acc H H', j < n1 → Same H1 H → H D = some (.lst acc) → P1 j acc H → Y1 j H x H' → g1 x (wipe σ2 vs1) H' fun σ3 H5 => wipe σ3 vs1 = wipe σ2 vs1 ∧ tt1 σ3 H5 fun b H6 =>
      if b = true then te σ3 H6 fun y H7 => Put H1 D P1 (j + 1) y H7 else Fil H1 D P1 (j + 1) H6) ∧ ∀ acc H, Same H1 H → H D = some (.lst acc) → P1 n1 acc H → P (i + 1) acc H
theorem lc2_fil {J : It} {n : Nat} {G : Hp → Prop} {Y : Nat → Hp → V → Hp → Prop} (w : Walk J n G Y) {g : TG} {tt : TT} {wi1 : TI} {g1 : TG} {tt1 : TT} {te : TE} {vs vs1 : List Nat} {σ : L2.St} {H1 : Hp} {D : Addr} {Qd : Hp → Prop} (nD : H1 D = none) (P : Nat → List V → Hp → Prop)
    (p0 : P 0 [] (upd H1 D (.lst []))) (hG : ∀ H, Same H1 H → G H)
    (hs : ∀ i x acc H H', i < n → Same H1 H → H D = some (.lst acc) → P i acc H → Y i H x H' → g x (wipe σ vs) H' fun σ2 H2 => wipe σ2 vs = wipe σ vs ∧ tt σ2 H2 fun b H3 =>
      if b = true then wi1 σ2 H3 fun J1 H4 => ∃ W1 : Nat → Nat → Hp → Prop, (∃ m, W1 0 m H4) ∧ ∀ j k H, W1 j k H →
      (J1.stop j H ∧ Fil H1 D P (i + 1) H) ∨ (J1.go j H ∧ ∃ Nx1 : Hp → Prop, (∀ H', Nx1 H' → ∃ k', k' < k ∧ W1 (j + 1) k' H') ∧ ∀ x H', J1.yld j H x H' → g1 x (wipe σ2 vs1) H' fun σ3 H5 => wipe σ3 vs1 = wipe σ2 vs1 ∧ tt1 σ3 H5 fun b H6 =>
        if b = true then te σ3 H6 fun y H7 => ∃ acc, H7 D = some (.lst acc) ∧ acc.length < sizeLine ∧ Nx1 (upd H7 D (.lst (acc ++ [y]))) else Nx1 H6) else Fil H1 D P (i + 1) H3)
    (hd : ∀ acc H, Same H1 H → H D = some (.lst acc) → P n acc H → Qd H) :
    ∃ W : Nat → Nat → Hp → Prop, (∃ m, W 0 m (upd H1 D (.lst []))) ∧ ∀ i m H, W i m H →
  (J.stop i H ∧ Qd H) ∨ (J.go i H ∧ ∃ Nx : Hp → Prop, (∀ H', Nx H' → ∃ m', m' < m ∧ W (i + 1) m' H') ∧ ∀ x H', J.yld i H x H' → g x (wipe σ vs) H' fun σ2 H2 => wipe σ2 vs = wipe σ vs ∧ tt σ2 H2 fun b H3 =>
    if b = true then wi1 σ2 H3 fun J1 H4 => ∃ W1 : Nat → Nat → Hp → Prop, (∃ m, W1 0 m H4) ∧ ∀ j k H, W1 j k H →
      (J1.stop j H ∧ Nx H) ∨ (J1.go j H ∧ ∃ Nx1 : Hp → Prop, (∀ H', Nx1 H' → ∃ k', k' < k ∧ W1 (j + 1) k' H') ∧ ∀ x H', J1.yld j H x H' → g1 x (wipe σ2 vs1) H' fun σ3 H5 => wipe σ3 vs1 = wipe σ2 vs1 ∧ tt1 σ3 H5 fun b H6 =>
        if b = true then te σ3 H6 fun y H7 => ∃ acc, H7 D = some (.lst acc) ∧ acc.length < sizeLine ∧ Nx1 (upd H7 D (.lst (acc ++ [y]))) else Nx1 H6)
    else Nx H3) := by
  refine ⟨fun i m H => m = n - i ∧ i ≤ n ∧ Fil H1 D P i H, ⟨n, rfl, Nat.zero_le _, same_new nD, [], upd_same, p0⟩, ?_⟩
  rintro i m H ⟨rfl, hi, s, acc, e, h⟩
  by_cases lt : i < n
  · exact .inr ⟨w.goes i H lt (hG H s), Fil H1 D P (i + 1), fun H' p => ⟨n - (i + 1), by omega, rfl, lt, p⟩, fun x H' y => hs i x acc H H' lt s e h (w.yields i H x H' lt (hG H s) y)⟩
  · obtain rfl : i = n := by omega
    exact .inl ⟨w.stops H (hG H s), hd acc H s e h⟩
/-- the inner walk -/
theorem in_fil {H1 : Hp} {D : Addr} {J1 : It} {g1 : TG} {tt1 : TT} {te : TE} {vs1 : List Nat} {σ2 : L2.St} {P : Nat → List V → Hp → Prop} {i : Nat} {H4 : Hp} (h : InW H1 D J1 g1 tt1 te vs1 σ2 P i H4) :
    ∃ W1 : Nat → Nat → Hp → Prop, (∃ m, W1 0 m H4) ∧ ∀ j k H, W1 j k H →
      (J1.stop j H ∧ Fil H1 D P (i + 1) H) ∨ (J1.go j H ∧ ∃ Nx1 : Hp → Prop, (∀ H', Nx1 H' → ∃ k', k' < k ∧ W1 (j + 1) k' H') ∧ ∀ x H', J1.yld j H x H' → g1 x (wipe σ2 vs1) H' fun σ3 H5 => wipe σ3 vs1 = wipe σ2 vs1 ∧ tt1 σ3 H5 fun b H6 =>
        if b = true then te σ3 H6 fun y H7 => ∃ acc, H7 D = some (.lst acc) ∧ acc.length < sizeLine ∧ Nx1 (upd H7 D (.lst (acc ++ [y]))) else Nx1 H6) := by
  obtain ⟨n1, P1, G1, Y1, w1, f0, hG, hs, hd⟩ := h
  refine ⟨fun j k H => k = n1 - j ∧ j ≤ n1 ∧ Fil H1 D P1 j H, ⟨n1, rfl, Nat.zero_le _, f0⟩, ?_⟩
  rintro j k H ⟨rfl, hj, s, acc, e, h⟩
  by_cases lt : j < n1
  · exact .inr ⟨w1.goes j H lt (hG H s), Fil H1 D P1 (j + 1), fun H' p => ⟨n1 - (j + 1), by omega, rfl, lt, p⟩, fun x H' y => hs j x acc H H' lt s e h (w1.yields j H x H' lt (hG H s) y)⟩
  · obtain rfl : j = n1 := by omega
    exact .inl ⟨w1.stops H (hG H s), s, acc, e, hd acc H s e h⟩
structure OkBs (ts : List Tb) (bs : List Prs) : Prop where
  len : bs.length + 1 = ts.length
  at_ : ∀ i t u b, ts[i]? = some t → ts[i + 1]? = some u → bs[i]? = some b → OkPrs t.pl u.pl b
def spBonds (K : PySem.W.Frag) : Sp := fun vs H Q _ => ∃ (L : Addr) (v : V) (rs : List (Addr × Tb)), vs = [.ref L, v] ∧ TbsAt K H L rs ∧ rs.length ≤ 64 ∧
  ((v = .non ∧ Q (.bl true) H) ∨ ∃ (B : Addr) (bs : List (Addr × Prs)), v = .ref B ∧ BsAt K H B bs ∧ OkBs (rs.map Prod.snd) (bs.map Prod.snd) ∧ ∀ H', Same H H' → Q (.bl true) H')
def spAscXT (K : PySem.W.Frag) : Sp := fun vs H Q _ => ∃ (l : Addr) (ks : List (Row Str)), vs = [.ref l] ∧ SqT K H l (ks.map fun r => V.ref r.1) ∧ TupsX K H ks ∧ ks.length < 64 ∧ (∀ r ∈ ks, r.2 ≠ []) ∧
  ∀ H' p ps, Same H H' → H p = none → Asc (ks.map Prod.snd) ps → PairsAt K H' p ps → Q (.ref p) H'
section
variable {P : Program} {w : World} {K : PySem.W.Frag} {mg : Str → Option Value} {base : Heap}
theorem ok_ascXT {f : Addr} {fd : FuncData} (F : Fun K "ascending" "ascending" sAsc f fd) (T : TxM K mg) : FnOk P w K mg base CX0 1 f fd ["values"] (spAscXT K) := by
  refine F.ok scAs (fun vs H Q E h => ?_) (fun cdv A outer s H vs Q E hr h => ?_)
  · obtain ⟨l, ks, rfl, _⟩ := h; rfl
  · obtain ⟨l, ks, rfl, hl, hk, few, ne, k⟩ := h
    refine ⟨_, pss_one (ps_ret (pe_callTy call_tuple_of (by rfl) T.tuple PyProof.Rows.boot_tuple (pa_cons (pe_callB (cr_sortX rfl) (by rfl) T.sorted PyProof.Rows.boot_sorted (pa_cons (pe_callTy (cr_setXT rfl hr.units) (by rfl) T.set PyProof.Rows.boot_set (pa_cons (pv 0) pa_nil)) pa_nil)) pa_nil))), ?_⟩
    refine ⟨_, rfl, l, ks, rfl, hl, hk, few, fun a L na hof hto => ?_⟩
    have s1 := same_new (o := SetX P w a L) na
    refine ⟨a, L, rfl, upd_same, fun r hr => sqT_up (hk r (hof r hr)) s1, fun r hr => ne r (hof r hr), fun L' p pm few' up np => ?_⟩
    have s2 := s1.trans (same_new (o := HO.lst (L'.map fun r => V.ref r.1)) np)
    refine ⟨p, _, rfl, .inl ⟨SqL.of upd_same, fun q nq => ?_⟩⟩
    have s3 := s2.trans (same_new (o := HO.tup (L'.map fun r => V.ref r.1)) nq)
    refine k _ q (L'.map Prod.snd) s3 (s2.free nq) ⟨?_, fun x => ?_⟩ ⟨L', rfl, SqT.of upd_same, fun r hr => sqT_up (hk r (hof r (pm.mem_iff.mp hr))) s3⟩
    · rw [List.pairwise_map] at up ⊢; exact up
    · rw [(pm.map Prod.snd).mem_iff]
      constructor
      · intro z
        obtain ⟨r, hr, rfl⟩ := List.mem_map.mp z
        exact List.mem_map_of_mem (hof r hr)
      · intro z
        obtain ⟨r, hr, rfl⟩ := List.mem_map.mp z
        exact hto r hr
theorem scBonds : FnScope ["tables", "value", "at", "bond"] ["tables", "value"] (defScope sBonds) := ⟨rfl, rfl, rfl, by decide +kernel, rfl, by decide +kernel, by decide +kernel⟩
theorem ok_bonds {f : Addr} {fd : FuncData} (F : Fun K "is_bonds" "is_bonds" sBonds f fd) (T : TxM K mg) (hB : Has P w K mg base "is_bond" 3 ["befores", "afters", "value"] (spBond K)) : FnOk P w K mg base CX0 4 f fd ["tables", "value"] (spBonds K) := by
  obtain ⟨fB, fdB, mB, kB, bB, GB⟩ := hB
  refine F.ok scBonds (fun vs H Q E h => ?_) (fun cdv A outer s H vs Q E hr h => ?_)
  · obtain ⟨L, v, rs, rfl, _⟩ := h; rfl
  · obtain ⟨L, v, rs, rfl, ⟨hL, hrs⟩, few, h⟩ := h
    refine ⟨_, (pss_cons (ps_if (pt_cmp (pc_isN (pv 1))) (pss_one (ps_ret pe_bl)) pss_nil)
      (pss_cons (ps_if (PW.pt (pw_or (pt_not (pt_val (pe_callB call_isi (by rfl) T.isi PyProof.Rows.boot_isinstance (pa_cons (pv 1) (pa_cons (pe_bltn (v := .ty "tuple") (by rfl) T.tuple PyProof.Rows.boot_tuple rfl) pa_nil))))) (pw_or1 (pt_cmpR op_ne (pe_callB call_lenT (by rfl) T.len PySem.boot_len (pa_cons (pv 1) pa_nil)) (pe_op op_sub (pe_callB call_lenT (by rfl) T.len PySem.boot_len (pa_cons (pv 0) pa_nil)) pe_int) (nomark _))))) (pss_one (ps_ret pe_bl)) pss_nil)
      (pss_one (ps_ret (pe_callB (cr_all rfl) (by rfl) T.all PyProof.Rows.boot_all (pa_cons (pe_lc (own := [("at", 2), ("bond", 3)]) (g := (gTup K 2 (gCons (gName 2) (gCons (gName 3) gNil)))) (tt := tYes) (te := tCall (spBond K) [] E0 (tCons (tOp (rIxT K) (tOp (rIxT K) (tVar 0) (tVar 2)) (tC (.int 1))) (tCons (tOp (rIxT K) (tOp (rIxT K) (tVar 0) (tOp (rI0 fun i j => .int (i + j)) (tVar 2) (tC (.int 1)))) (tC (.int 1))) (tCons (tVar 3) tNil)))) rfl scBonds.nd (pi_enumT (by rfl) T.enum (pa_cons (pv 1) pa_nil)) (blkOk_by (N := ["tables", "value", "at", "bond"]) (sc := defScope sBonds) (by decide +kernel)) (fun _ _ _ _ _ => pg_tup rfl (pgs_cons (pg_name (i := 2) scBonds.nd rfl (Or.inl rfl)) (pgs_cons (pg_name (i := 3) scBonds.nd rfl (Or.inl rfl)) pgs_nil))) (fun _ _ _ _ _ => pts_nil) (fun _ _ _ _ _ => (pe_call GB hr (by rfl) mB kB bB .nil pass0 (pa_cons (pe_ix ix_tup (pe_ix ix_tup (pv 0) (pv 2) (fun _ _ => rfl)) pe_int (fun _ _ => rfl)) (pa_cons (pe_ix ix_tup (pe_ix ix_tup (pv 0) (pe_op op_add (pv 2) pe_int) (fun _ _ => rfl)) pe_int (fun _ _ => rfl)) (pa_cons (pv 3) pa_nil)))))) pa_nil)))))), ?_⟩
    rcases h with ⟨rfl, k⟩ | ⟨B, bs, rfl, ⟨hB, hbs⟩, ok, k⟩
    · exact ⟨_, rfl, true, congrArg V.bl (decide_eq_true rfl), iteT k⟩
    refine ⟨_, rfl, false, congrArg V.bl (decide_eq_false (fun z => by cases z)), iteF ?_⟩
    refine ⟨_, rfl, .ref B, .ty "tuple", .type "tuple", .type "tuple", true, rfl, .ty _, sqT_ty hB, kit_ty (by decide +kernel), _, rfl, iteF ?_⟩
    have len := ok.len
    rw [List.length_map, List.length_map] at len
    refine ⟨_, rfl, B, _, rfl, hB, _, rfl, L, _, rfl, hL, _, _, rfl, rfl, rfl, ?_⟩
    refine ⟨false, congrArg V.bl (by rw [decide_eq_true (by rw [List.length_map, List.length_map]; exact congrArg V.int (by omega))]; rfl), iteF ?_⟩
    refine ⟨_, rfl, B, _, rfl, hB, fun D hD => ?_⟩
    have off : Off D (fun i acc (_ : Hp) => acc = List.replicate i (V.bl true)) := fun _ _ _ _ _ _ _ z => z
    refine lc_fil walk_enumT hD (fun i acc _ => acc = List.replicate i (V.bl true)) rfl (fun H' s' => sqT_up hB s') ?_ ?_
    · rintro i v acc H2 H3 hi2 s2 e2 rfl ⟨Tt, x, y, rfl, nT, rfl, hx, hy⟩
      obtain rfl : V.int (i : Nat) = x := Option.some.inj hx
      have hy : (bs.map fun r => V.ref r.1)[i]? = some y := hy
      rw [List.getElem?_map] at hy
      obtain ⟨b, hb, rfl⟩ := Option.map_eq_some_iff.mp hy
      rw [List.length_map] at hi2
      obtain ⟨t, ht⟩ : ∃ t, rs[i]? = some t := ⟨rs[i]'(by omega), List.getElem?_eq_getElem _⟩
      obtain ⟨u, hu⟩ : ∃ u, rs[i + 1]? = some u := ⟨rs[i + 1]'(by omega), List.getElem?_eq_getElem _⟩
      have at_ : ∀ {j : Nat} {r : Addr × Tb}, rs[j]? = some r → (rs.map fun r => V.ref r.1)[j]? = some (V.ref r.1) := fun h => by rw [List.getElem?_map, h]; rfl
      have as_ : ∀ {j : Nat} {r : Addr × Tb}, rs[j]? = some r → (rs.map Prod.snd)[j]? = some r.2 := fun h => by rw [List.getElem?_map, h]; rfl
      have st := same_new (o := HO.tup [V.int (i : Nat), V.ref b.1]) nT
      have s3 := s2.trans st
      obtain ⟨d1, q1, h1, hd1, _⟩ := (hrs t (List.mem_of_getElem? ht)).up s3
      obtain ⟨d2, q2, h2, hd2, _⟩ := (hrs u (List.mem_of_getElem? hu)).up s3
      refine ⟨Tt, _, rfl, SqT.of upd_same, rfl, _, _, rfl, _, _, rfl, rfl, rfl, tt_yes ?_⟩
      refine ⟨_, rfl, _, rfl, L, _, _, _, rfl, rfl, sqT_up hL s3, atI_nat (j := i) (at_ ht), t.1, _, _, _, rfl, rfl, h1, atI_nat (j := 1) rfl, ?_⟩
      refine ⟨_, rfl, _, rfl, _, _, rfl, rfl, L, _, _, _, rfl, rfl, sqT_up hL s3, atI_nat (j := i + 1) (at_ hu), u.1, _, _, _, rfl, rfl, h2, atI_nat (j := 1) rfl, ?_⟩
      refine ⟨_, rfl, d1, d2, b.1, t.2.pl, u.2.pl, b.2, rfl, hd1, hd2, (hbs b (List.mem_of_getElem? hb)).up s3, ok.at_ i t.2 u.2 b.2 (as_ ht) (as_ hu) (by rw [List.getElem?_map, hb]; rfl), fun H4 s4 => ?_⟩
      exact put_of hD off s2 e2 (st.trans s4) (by rw [List.length_replicate, sizeLine_eq]; omega) (rep_snoc _ _)
    · rintro acc H2 s2 e2 rfl
      refine ⟨D, List.replicate _ true, rfl, SqL.of (by rw [e2, List.map_replicate]), ?_⟩
      rw [all_rep]
      exact k _ s2
def spOrd (K : PySem.W.Frag) : Sp := fun vs H Q _ => ∃ (d : Addr) (pl : List (Str × List Str)), vs = [.ref d] ∧ PlAt K H d pl ∧ (pl.map Prod.fst).Nodup ∧ pl.length < 64 ∧
  ∀ H' p pl', Same H H' → H p = none → pl'.Perm pl → ((pl'.map Prod.fst).Pairwise fun x y => sg1 x < sg1 y) → PlAt K H' p pl' → Q (.ref p) H'
end
end Rd

/-! Movers: placements in order, all bonds, joint placements -/
namespace Rd
open PySem PySem.Spec PyProof.Rows L2 Tq Dn Dc
/-! a dict by a comprehension -/
def FilD (H1 : Hp) (D : Addr) (P : Nat → List (Key × V) → Hp → Prop) (i : Nat) (H : Hp) : Prop := Same H1 H ∧ ∃ kvs, H D = some (.dK kvs) ∧ P i kvs H
def PutD (H1 : Hp) (D : Addr) (P : Nat → List (Key × V) → Hp → Prop) (i : Nat) (y z : V) (H : Hp) : Prop := ∃ kvs k, y = kV k ∧ H D = some (.dK kvs) ∧ kvs.length < sizeLine ∧ FilD H1 D P i (upd H D (.dK (putK kvs k z)))
theorem putD_of {H1 H H4 : Hp} {D : Addr} {P : Nat → List (Key × V) → Hp → Prop} {i : Nat} {k : Key} {z : V} {kvs : List (Key × V)} (nD : H1 D = none) (s : Same H1 H) (e : H D = some (.dK kvs)) (s4 : Same H H4) (l : kvs.length < sizeLine) (p : P i (putK kvs k z) (upd H4 D (.dK (putK kvs k z)))) : PutD H1 D P i (kV k) z H4 :=
  ⟨kvs, k, rfl, s4 _ _ e, l, same_to nD (s.trans s4), _, upd_same, p⟩
theorem dc_fil {J : It} {n : Nat} {G : Hp → Prop} {Y : Nat → Hp → V → Hp → Prop} (w : Walk J n G Y) {g : TG} {tt : TT} {tk tv : TE} {vs : List Nat} {σ : L2.St} {H1 : Hp} {D : Addr} {Qd : Hp → Prop} (nD : H1 D = none) (P : Nat → List (Key × V) → Hp → Prop)
    (p0 : P 0 [] (upd H1 D (.dK []))) (hG : ∀ H, Same H1 H → G H)
    (hs : ∀ i x kvs H H', i < n → Same H1 H → H D = some (.dK kvs) → P i kvs H → Y i H x H' → g x (wipe σ vs) H' fun σ2 H2 => wipe σ2 vs = wipe σ vs ∧ tt σ2 H2 fun b H3 =>
      if b = true then tk σ2 H3 fun y H4 => tv σ2 H4 fun z H5 => PutD H1 D P (i + 1) y z H5 else FilD H1 D P (i + 1) H3)
    (hd : ∀ kvs H, Same H1 H → H D = some (.dK kvs) → P n kvs H → Qd H) :
    ∃ W : Nat → Nat → Hp → Prop, (∃ m, W 0 m (upd H1 D (.dK []))) ∧ ∀ i m H, W i m H →
      (J.stop i H ∧ Qd H) ∨ (J.go i H ∧ ∃ Nx : Hp → Prop, (∀ H', Nx H' → ∃ m', m' < m ∧ W (i + 1) m' H') ∧ ∀ x H', J.yld i H x H' → g x (wipe σ vs) H' fun σ2 H2 => wipe σ2 vs = wipe σ vs ∧ tt σ2 H2 fun b H3 =>
        if b = true then tk σ2 H3 fun y H4 => tv σ2 H4 fun z H5 => ∃ kvs k, y = kV k ∧ H5 D = some (.dK kvs) ∧ kvs.length < sizeLine ∧ Nx (upd H5 D (.dK (putK kvs k z))) else Nx H3) := by
  refine ⟨fun i m H => m = n - i ∧ i ≤ n ∧ FilD H1 D P i H, ⟨n, rfl, Nat.zero_le _, same_new nD, [], upd_same, p0⟩, ?_⟩
  rintro i m H ⟨rfl, hi, s, kvs, e, h⟩
  by_cases lt : i < n
  · exact .inr ⟨w.goes i H lt (hG H s), FilD H1 D P (i + 1), fun H' p => ⟨n - (i + 1), by omega, rfl, lt, p⟩, fun x H' y => hs i x kvs H H' lt s e h (w.yields i H x H' lt (hG H s) y)⟩
  · obtain rfl : i = n := by omega
    exact .inl ⟨w.stops H (hG H s), hd kvs H s e h⟩
theorem put_pl {es : PlR} {r : Str × Addr × List Str} (h : r.1 ∉ es.map (·.1)) : putK (es.map prP) (Sum.inr r.1 : Key) (.ref r.2.1) = (es ++ [r]).map prP := by
  unfold putK
  rw [if_neg]
  · rw [List.map_append]; rfl
  · rw [List.any_map]
    intro z
    obtain ⟨e, he, q⟩ := List.any_eq_true.mp z
    have q' : (Sum.inr e.1 : Key) = Sum.inr r.1 := of_decide_eq_true q
    exact h (by rw [← Sum.inr.inj q']; exact List.mem_map_of_mem (f := fun x : Str × Addr × List Str => x.1) he)
theorem fst_pl (rs : PlR) : (plOf rs).map Prod.fst = rs.map (·.1) := by rw [List.map_map]; rfl
theorem one_of {rs : PlR} (nd : (rs.map (·.1)).Nodup) {a b : Str × Addr × List Str} (ha : a ∈ rs) (hb : b ∈ rs) (e : a.1 = b.1) : a = b := by
  induction rs with
  | nil => cases ha
  | cons x xs ih =>
    rw [List.map_cons, List.nodup_cons] at nd
    rcases List.mem_cons.mp ha with rfl | ha'
    · rcases List.mem_cons.mp hb with rfl | hb'
      · rfl
      · exact absurd (by rw [e]; exact List.mem_map_of_mem (f := fun x : Str × Addr × List Str => x.1) hb') nd.1
    · rcases List.mem_cons.mp hb with rfl | hb'
      · exact absurd (by rw [← e]; exact List.mem_map_of_mem (f := fun x : Str × Addr × List Str => x.1) ha') nd.1
      · exact ih nd.2 ha' hb'
theorem nd_of {rs : PlR} (nd : (rs.map (·.1)).Nodup) : rs.Nodup := by
  rw [List.nodup_iff_pairwise_ne, List.pairwise_map] at nd
  exact List.nodup_iff_pairwise_ne.mpr (nd.imp fun {a b} h e => h (by rw [e]))
section
variable {P : Program} {w : World} {K : PySem.W.Frag} {mg : Str → Option Value} {base : Heap}
theorem scOrd : FnScope ["placements", "name"] ["placements"] (defScope sOrd) := ⟨rfl, rfl, rfl, by decide +kernel, rfl, by decide +kernel, by decide +kernel⟩
theorem ok_ord {f : Addr} {fd : FuncData} (F : Fun K "ordered" "ordered" sOrd f fd) (T : TxM K mg) : FnOk P w K mg base CX0 1 f fd ["placements"] (spOrd K) := by
  refine F.ok scOrd (fun vs H Q E h => ?_) (fun cdv A outer s H vs Q E hr h => ?_)
  · obtain ⟨d, pl, rfl, _⟩ := h; rfl
  · obtain ⟨d, pl, rfl, ⟨rs, hd, hrs, rfl⟩, nd, few, k⟩ := h
    have hu := hr.units
    have hu1 := Nat.lt_of_le_of_lt (Nat.add_le_add_left (show 1 ≤ 64 by decide) _) hu
    refine ⟨_, (pss_one (ps_ret (pe_dc (own := [("name", 1)]) (g := gName 1) (tt := tYes) (tk := tVar 1) (tv := tDGet (tVar 0) (tVar 1)) rfl scOrd.nd (pi_list (pe_callB (call_sortedD rfl) (by rfl) T.sorted PyProof.Rows.boot_sorted (pa_cons (pv 0) pa_nil))) (blkOk_by (N := ["placements", "name"]) (sc := defScope sOrd) (by decide +kernel)) (fun _ _ _ _ _ => pg_name (i := 1) scOrd.nd rfl (Or.inl rfl)) (fun _ _ _ _ _ => pts_nil) (fun _ _ _ _ _ => pv 1) (fun _ _ _ _ _ => pe_dget hu1 (pv 0) (pv 1) (fun _ _ => rfl))))), ?_⟩
    rw [fst_pl] at nd
    refine ⟨_, rfl, d, _, rs.map (·.1), rfl, .inl hd, by rw [List.map_map, List.map_map]; rfl, by rw [List.length_map] at few ⊢; exact few, fun ys p pm so np => ?_⟩
    have s1 := same_new (o := HO.lst (ys.map V.str)) np
    have ndy : ys.Nodup := pm.nodup_iff.mpr nd
    refine ⟨p, rfl, ⟨_, SqL.of upd_same⟩, fun D nD => ?_⟩
    refine dc_fil walk_list nD (fun i kvs _ => ∃ es : PlR, kvs = es.map prP ∧ es.map (·.1) = ys.take i ∧ ∀ e ∈ es, e ∈ rs) ⟨[], rfl, rfl, fun e z => nomatch z⟩ (fun H' s' => sqL_up (SqL.of upd_same) s') ?_ ?_
    · rintro i v kvs H2 H3 hi s2 e2 ⟨es, rfl, ee, hes⟩ ⟨rfl, hv⟩
      rw [List.getElem?_map] at hv
      obtain ⟨y, hy, rfl⟩ := Option.map_eq_some_iff.mp hv
      obtain ⟨r, hr_, er⟩ := List.mem_map.mp (pm.mem_iff.mp (List.mem_of_getElem? hy))
      obtain ⟨j, hj⟩ := List.getElem?_of_mem hr_
      have tn : r.1 ∉ es.map (·.1) := by
        rw [ee, er]
        intro z
        obtain ⟨k, hk, hk2⟩ := List.getElem_of_mem z
        rw [List.length_take] at hk
        obtain ⟨h1, h2⟩ := List.getElem?_eq_some_iff.mp hy
        rw [List.getElem_take] at hk2
        exact (List.pairwise_iff_getElem.mp (List.nodup_iff_pairwise_ne.mp ndy)) k i (by omega) h1 (by omega) (hk2.trans h2.symm)
      refine ⟨rfl, tt_yes ⟨_, rfl, _, rfl, _, rfl, d, _, rfl, .inl ⟨_, Sum.inr r.1, .inl ((s1.trans s2) _ _ hd), congrArg V.str er.symm, (pl_val (by rw [fst_pl]; exact nd) hj).symm⟩, ?_⟩⟩
      have le := congrArg List.length ee
      rw [List.length_map, List.length_take] at le
      rw [← er]
      refine putD_of (k := Sum.inr r.1) nD s2 e2 (Same.refl _) (by rw [List.length_map, sizeLine_eq]; rw [List.length_map] at few; have := pm.length_eq; rw [List.length_map] at this; omega) ⟨es ++ [r], put_pl tn, ?_, fun e he => ?_⟩
      · rw [List.map_append, ee, List.take_add_one, hy, ← er]; rfl
      · rcases List.mem_append.mp he with z | z
        · exact hes e z
        · rw [List.mem_singleton.mp z]; exact hr_
    · rintro kvs H2 s2 e2 ⟨es, rfl, ee, hes⟩
      rw [List.length_map, List.take_length] at ee
      have pe : es.Perm rs := (List.perm_ext_iff_of_nodup (nd_of (by rw [ee]; exact ndy)) (nd_of nd)).mpr fun a => ⟨hes a, fun ha => by
        have : a.1 ∈ es.map (·.1) := by rw [ee]; exact pm.mem_iff.mpr (List.mem_map_of_mem (f := fun x : Str × Addr × List Str => x.1) ha)
        obtain ⟨b, hb, eb⟩ := List.mem_map.mp this
        rw [← one_of nd (hes b hb) ha eb]; exact hb⟩
      exact k _ D (plOf es) (s1.trans s2) (s1.free nD) (pe.map _) (by rw [fst_pl, ee]; exact rise_strict so ndy) ⟨es, e2, fun r hr => sqT_up (hrs r (hes r hr)) (s1.trans s2), rfl⟩
def spNeedP (K : PySem.W.Frag) : Sp := fun vs H Q _ => ∃ (a : Addr) (ps : List Str), vs = [.ref a] ∧ SqT K H a (ps.map V.str) ∧ OkParts ps ∧ ∀ H', Same H H' → Q .non H'
end
end Rd

/-! Movers: all bonds, joint placements -/
namespace Rd
open PySem PySem.Spec PyProof.Rows L2 Tq Dn Dc
def fullN (a b : List Str) : Prs := a.flatMap fun x => b.map fun y => (x, y)
def fullP (t u : Tb) : Prs := fullN (t.pl.map Prod.fst) (u.pl.map Prod.fst)
structure FullBs (ts : List Tb) (bs : List Prs) : Prop where
  len : bs.length + 1 = ts.length
  at_ : ∀ i t u, ts[i]? = some t → ts[i + 1]? = some u → bs[i]? = some (fullP t u)
theorem fullN_snoc (a b : List Str) (x : Str) : fullN (a ++ [x]) b = fullN a b ++ b.map fun y => (x, y) := by simp [fullN]
theorem fullN_len (a b : List Str) : (fullN a b).length = a.length * b.length := by
  induction a with
  | nil => simp [fullN]
  | cons x xs ih =>
    show ((b.map fun y => (x, y)) ++ fullN xs b).length = _
    rw [List.length_append, ih, List.length_map, List.length_cons, Nat.succ_mul]; omega
theorem FullBs.ok {ts : List Tb} {bs : List Prs} (h : FullBs ts bs) (few : ∀ t ∈ ts, t.pl.length ≤ 6) : OkBs ts bs := ⟨h.len, fun i t u b ht hu hb => by
  rw [h.at_ i t u ht hu] at hb
  cases hb
  refine ⟨?_, fun p hp => ?_, fun p hp => ?_⟩
  · rw [fullP, fullN_len, List.length_map, List.length_map]
    have a := few t (List.mem_of_getElem? ht)
    have b := few u (List.mem_of_getElem? hu)
    have := Nat.mul_le_mul a b
    omega
  · obtain ⟨x, hx, z⟩ := List.mem_flatMap.mp hp
    obtain ⟨y, hy, rfl⟩ := List.mem_map.mp z
    exact hx
  · obtain ⟨x, hx, z⟩ := List.mem_flatMap.mp hp
    obtain ⟨y, hy, rfl⟩ := List.mem_map.mp z
    exact hy⟩
theorem prL_app (a b : Prs) : prL (a ++ b) = prL a ++ prL b := List.map_append
theorem pairs_off {K : PySem.W.Frag} {D p : Addr} {H H' : Hp} {l : List V} {ps : List (List Str)} (hD : H D = some (.lst l)) (k : Keep D H H') (h : PairsAt K H p ps) : PairsAt K H' p ps :=
  let ⟨rs, a, b, c⟩ := h; ⟨rs, a, off_seq hD k b, fun r hr => off_seq hD k (c r hr)⟩
abbrev tT1 (K : PySem.W.Frag) : TE := tOp (rIxT K) (tOp (rIxT K) (tVar 0) (tVar 1)) (tC (.int 1))
abbrev tT2 (K : PySem.W.Frag) : TE := tOp (rIxT K) (tOp (rIxT K) (tVar 0) (tOp (rI0 fun i j => .int (i + j)) (tVar 1) (tC (.int 1)))) (tC (.int 1))
abbrev tFul (K : PySem.W.Frag) : TE := tLc2 (iKeys (tT1 K)) (gName 2) tYes (iKeys (tT2 K)) (gName 3) tYes (tTup (tCons (tVar 2) (tCons (tVar 3) tNil))) [2, 3] [3]
theorem ful_rd {K : PySem.W.Frag} {Hl : Hp} {L a1 a2 d1 d2 q1 q2 : Addr} {n1 n2 : Str} {i : Nat} {ts : List V} {o1 o2 : Obj} {r1 r2 : PlR} {b c : Option V} {Q : VK} (hL : SqT K Hl L ts) (e1 : ts[i]? = some (.ref a1)) (e2 : ts[i + 1]? = some (.ref a2))
    (h1 : SqT K Hl a1 [.str n1, .ref d1, .ref q1]) (h2 : SqT K Hl a2 [.str n2, .ref d2, .ref q2]) (hd1 : Hl d1 = some (.frz o1 (.dK (r1.map prP)))) (hd2 : Hl d2 = some (.frz o2 (.dK (r2.map prP)))) (f1 : r1.length ≤ 6) (f2 : r2.length ≤ 6)
    (k : ∀ D H5 (qs : List (Row Str)), Same Hl H5 → Hl D = none → H5 D = some (.lst (qs.map fun r => .ref r.1)) → TupsX K H5 qs → qs.map Prod.snd = prL (fullN (r1.map (·.1)) (r2.map (·.1))) → Q (.ref D) H5) :
    tFul K [some (.ref L), some (.int (0 + (i : Nat))), b, c] Hl Q := by
  refine ⟨_, rfl, _, rfl, L, _, _, _, rfl, rfl, hL, (by rw [Int.zero_add]; exact atI_nat (j := i) e1), a1, _, _, _, rfl, rfl, h1, atI_nat (j := 1) rfl, d1, o1, rfl, .inl ⟨_, hd1, fun D nD => ?_⟩⟩
  have off : ∀ S : List (List Str), Off D (fun _ acc H' => ∃ qs : List (Row Str), acc = (qs.map fun r => V.ref r.1) ∧ TupsX K H' qs ∧ qs.map Prod.snd = S) := fun S i acc l H2 H3 e kp ⟨qs, z1, z2, z3⟩ => ⟨qs, z1, fun r hr => off_seq e kp (z2 r hr), z3⟩
  refine lc2_fil walk_keys nD (fun i acc H' => ∃ qs : List (Row Str), acc = (qs.map fun r => V.ref r.1) ∧ TupsX K H' qs ∧ qs.map Prod.snd = prL (fullN ((r1.map (·.1)).take i) (r2.map (·.1)))) ⟨[], rfl, (fun r z => nomatch z), by simp [fullN]⟩ (fun H' s' => s' _ _ hd1) ?_ ?_
  · rintro m v acc H2 H3 hm s2 e2' ⟨qs, rfl, hqs, eq⟩ ⟨rfl, kk, vv, hv, rfl⟩
    rw [List.getElem?_map] at hv
    obtain ⟨r, hr, e⟩ := Option.map_eq_some_iff.mp hv
    cases e
    rw [List.length_map] at hm
    have hrn : (r1.map (·.1))[m]? = some r.1 := by rw [List.getElem?_map, hr]; rfl
    refine ⟨rfl, tt_yes ?_⟩
    refine ⟨_, rfl, _, rfl, _, _, rfl, rfl, L, _, _, _, rfl, rfl, sqT_up hL s2, (by rw [Int.zero_add]; exact atI_nat (j := i + 1) e2), a2, _, _, _, rfl, rfl, sqT_up h2 s2, atI_nat (j := 1) rfl, d2, o2, rfl, .inl ⟨_, s2 _ _ hd2, ?_⟩⟩
    refine in_fil ⟨_, fun j acc H' => ∃ qs : List (Row Str), acc = (qs.map fun r => V.ref r.1) ∧ TupsX K H' qs ∧ qs.map Prod.snd = prL (fullN ((r1.map (·.1)).take m) (r2.map (·.1)) ++ ((r2.map (·.1)).take j).map fun y => (r.1, y)), _, _, walk_keys, ⟨s2, _, e2', qs, rfl, hqs, by simpa using eq⟩, (fun H' s' => s' _ _ hd2), ?_, ?_⟩
    · rintro j v acc H4 H5 hj s4 e4 ⟨us, rfl, hus, eu⟩ ⟨rfl, kk, vv, hv, rfl⟩
      rw [List.getElem?_map] at hv
      obtain ⟨x, hx, e⟩ := Option.map_eq_some_iff.mp hv
      cases e
      rw [List.length_map] at hj
      have hxn : (r2.map (·.1))[j]? = some x.1 := by rw [List.getElem?_map, hx]; rfl
      refine ⟨rfl, tt_yes ⟨_, rfl, _, rfl, (by show 2 ≤ sizeLine; decide), fun t nt => ?_⟩⟩
      have lu := congrArg List.length eu
      simp only [List.length_map, List.length_append, List.length_take, fullN_len] at lu
      refine put_of nD (fun i acc l H2 H3 e kp ⟨qs, z1, z2, z3⟩ => ⟨qs, z1, fun r hr => off_seq e kp (z2 r hr), z3⟩) s4 e4 (same_new nt) ?_ ⟨us ++ [(t, [r.1, x.1])], by rw [List.map_append]; rfl, fun q hq => ?_, ?_⟩
      · rw [List.length_map, lu, sizeLine_eq]
        have := Nat.mul_le_mul (show min m r1.length ≤ 6 by omega) f2
        omega
      · rcases List.mem_append.mp hq with z | z
        · exact sqT_up (hus q z) (same_new nt)
        · rw [List.mem_singleton.mp z]; exact SqT.of upd_same
      · rw [List.map_append, eu, List.take_add_one, hxn, List.map_append, ← List.append_assoc, prL_app _ (List.map _ (some x.1).toList)]; rfl
    · rintro acc H4 s4 e4 ⟨us, rfl, hus, eu⟩
      refine ⟨us, rfl, hus, ?_⟩
      rw [eu, List.take_add_one, hrn]
      show _ = prL (fullN ((r1.map (·.1)).take m ++ [r.1]) _)
      rw [fullN_snoc, List.length_map]
      congr 3
      exact List.take_of_length_le (by rw [List.length_map]; exact Nat.le_refl _)
  · rintro acc H2 s2 e2' ⟨qs, rfl, hqs, eq⟩
    refine k D H2 qs s2 nD e2' hqs ?_
    rw [eq, List.length_map]
    congr 2
    exact List.take_of_length_le (by rw [List.length_map]; exact Nat.le_refl _)
/-- what was locked is free again: tuples are read as before -/
theorem sqT_free {K : PySem.W.Frag} {H : Hp} {d b : Addr} {od : Obj} {kvs : List (Key × V)} {xs : List V} (hd : H d = some (.frz od (.dK kvs))) (h : SqT K H b xs) : SqT K (upd H d (.dK kvs)) b xs := by
  have ne : ∀ {o : HO}, H b = some o → (∀ oo ks, o ≠ .frz oo (.dK ks)) → upd H d (.dK kvs) b = some o := fun h n => by
    rw [upd_ne (fun z => by rw [z, hd] at h; cases h; exact n _ _ rfl)]; exact h
  rcases h with (h | ⟨o, h⟩) | h
  · exact .inl (.inl (ne h fun _ _ z => by cases z))
  · exact .inl (.inr ⟨o, ne h fun _ _ z => by cases z⟩)
  · exact .inr h
def spFull (K : PySem.W.Frag) : Sp := fun vs H Q _ => ∃ (L : Addr) (rs : List (Addr × Tb)), vs = [.ref L] ∧ TbsAt K H L rs ∧ 1 ≤ rs.length ∧ rs.length ≤ 64 ∧ (∀ t ∈ rs, t.2.pl.length ≤ 6) ∧
  ∀ H' p bs, Same H H' → H p = none → FullBs (rs.map Prod.snd) (bs.map Prod.snd) → BsAt K H' p bs → Q (.ref p) H'
section
variable {P : Program} {w : World} {K : PySem.W.Frag} {mg : Str → Option Value} {base : Heap}
theorem scFull : FnScope ["tables", "at", "before", "after"] ["tables"] (defScope sFull) := ⟨rfl, rfl, rfl, by decide +kernel, rfl, by decide +kernel, by decide +kernel⟩
/-- one of two readings -/
theorem pe_or2 {X : Cx} {e : Expr} {ta tb : TE} (a : PE X e ta) (b : PE X e tb) : PE X e (fun σ H Q => ta σ H Q ∨ tb σ H Q) := ⟨fun pins s σ H Q I h => h.elim (a.run pins s σ H Q I) (b.run pins s σ H Q I)⟩
theorem ok_full {f : Addr} {fd : FuncData} (F : Fun K "full_bonds" "full_bonds" sFull f fd) (T : TxM K mg) : FnOk P w K mg base CX0 1 f fd ["tables"] (spFull K) := by
  refine F.ok scFull (fun vs H Q E h => ?_) (fun cdv A outer s H vs Q E hr h => ?_)
  · obtain ⟨L, rs, rfl, _⟩ := h; rfl
  · obtain ⟨L, rs, rfl, ⟨hL, hrs⟩, lo, hi, few, k⟩ := h
    refine ⟨_, (pss_one (ps_ret (pe_callTy call_tupOf (by rfl) T.tuple PyProof.Rows.boot_tuple (pa_cons (pe_lc (own := [("at", 1)]) (g := gName 1) (tt := tYes) (te := tCB (rTupOf K) (tCons (fun σ H Q => tLockE (tFul K) σ H Q ∨ tLockE (tLockE (tFul K)) σ H Q) tNil)) rfl scFull.nd (pi_range1 (by rfl) T.range (pa_cons (pe_op op_sub (pe_callB call_lenT (by rfl) T.len PySem.boot_len (pa_cons (pv 0) pa_nil)) pe_int) pa_nil)) (blkOk_by (N := ["tables", "at", "before", "after"]) (sc := defScope sFull) (by decide +kernel)) (fun _ _ _ _ _ => pg_name (i := 1) scFull.nd rfl (Or.inr rfl)) (fun _ _ _ _ _ => pts_nil) (fun _ _ _ _ _ => (pe_callTy call_tupOf (by rfl) T.tuple PyProof.Rows.boot_tuple (pa_cons (pe_or2 (pe_lock (pe_lc2 (own := [("before", 2), ("after", 3)]) (vs1 := [3]) (g := gName 2) (g1 := gName 3) (tt := tYes) (tt1 := tYes) (wi := iKeys (tT1 K)) (wi1 := iKeys (tT2 K)) (te := tTup (tCons (tVar 2) (tCons (tVar 3) tNil))) rfl scFull.nd (pi_keys (pe_ix ix_tup (pe_ix ix_tup (pv 0) (pv 1) (fun _ _ => rfl)) pe_int (fun _ _ => rfl))) (blkOk_by (N := ["tables", "at", "before", "after"]) (by rfl)) (by decide) (fun _ _ _ _ _ => pg_name (i := 2) scFull.nd rfl (Or.inl rfl)) (fun _ _ _ _ _ => pts_nil) (fun _ _ _ _ _ => pi_keys (pe_ix ix_tup (pe_ix ix_tup (pv 0) (pe_op op_add (pv 1) pe_int) (fun _ _ => rfl)) pe_int (fun _ _ => rfl))) (fun _ _ _ _ _ => pg_name (i := 3) scFull.nd rfl (Or.inl rfl)) (fun _ _ _ _ _ => pts_nil) (fun _ _ _ _ _ => pe_tup (pa_cons (pv 2) (pa_cons (pv 3) pa_nil))))) (pe_lock (pe_lock (pe_lc2 (own := [("before", 2), ("after", 3)]) (vs1 := [3]) (g := gName 2) (g1 := gName 3) (tt := tYes) (tt1 := tYes) (wi := iKeys (tT1 K)) (wi1 := iKeys (tT2 K)) (te := tTup (tCons (tVar 2) (tCons (tVar 3) tNil))) rfl scFull.nd (pi_keys (pe_ix ix_tup (pe_ix ix_tup (pv 0) (pv 1) (fun _ _ => rfl)) pe_int (fun _ _ => rfl))) (blkOk_by (N := ["tables", "at", "before", "after"]) (by rfl)) (by decide) (fun _ _ _ _ _ => pg_name (i := 2) scFull.nd rfl (Or.inl rfl)) (fun _ _ _ _ _ => pts_nil) (fun _ _ _ _ _ => pi_keys (pe_ix ix_tup (pe_ix ix_tup (pv 0) (pe_op op_add (pv 1) pe_int) (fun _ _ => rfl)) pe_int (fun _ _ => rfl))) (fun _ _ _ _ _ => pg_name (i := 3) scFull.nd rfl (Or.inl rfl)) (fun _ _ _ _ _ => pts_nil) (fun _ _ _ _ _ => pe_tup (pa_cons (pv 2) (pa_cons (pv 3) pa_nil))))))) pa_nil)))) pa_nil)))), ?_⟩
    refine ⟨_, rfl, L, _, rfl, hL, _, _, rfl, rfl, _, rfl, ?_, ?_, fun D hD => ?_⟩
    · rw [List.length_map]; omega
    · rw [List.length_map]; omega
    refine lc_fil walk_range hD (fun i acc H' => ∃ bs : List (Addr × Prs), acc = (bs.map fun r => V.ref r.1) ∧ bs.length = i ∧ (∀ b ∈ bs, PairsAt K H' b.1 (prL b.2)) ∧ ∀ (j : Nat) (t u : Addr × Tb), j < i → rs[j]? = some t → rs[j + 1]? = some u → (bs.map Prod.snd)[j]? = some (fullP t.2 u.2)) ⟨[], rfl, rfl, (fun b z => nomatch z), fun j t u hj => absurd hj (by omega)⟩ (fun _ _ => trivial) ?_ ?_
    · rintro i v acc H2 H3 hi2 s2 e2 ⟨bs, rfl, el, hbs, hat⟩ ⟨rfl, rfl⟩
      rw [List.length_map] at hi2
      obtain ⟨t, ht⟩ : ∃ t, rs[i]? = some t := ⟨rs[i]'(by omega), List.getElem?_eq_getElem _⟩
      obtain ⟨u, hu⟩ : ∃ u, rs[i + 1]? = some u := ⟨rs[i + 1]'(by omega), List.getElem?_eq_getElem _⟩
      have at_ : ∀ {j : Nat} {r : Addr × Tb}, rs[j]? = some r → (rs.map fun r => V.ref r.1)[j]? = some (V.ref r.1) := fun h => by rw [List.getElem?_map, h]; rfl
      obtain ⟨d1, q1, h1, ⟨r1, hd1, hq1, er1⟩, _⟩ := (hrs t (List.mem_of_getElem? ht)).up s2
      obtain ⟨d2, q2, h2, ⟨r2, hd2, hq2, er2⟩, _⟩ := (hrs u (List.mem_of_getElem? hu)).up s2
      have l1 : r1.length ≤ 6 := by have := few t (List.mem_of_getElem? ht); rw [← er1, List.length_map] at this; exact this
      have l2 : r2.length ≤ 6 := by have := few u (List.mem_of_getElem? hu); rw [← er2, List.length_map] at this; exact this
      have ep : fullN (r1.map (·.1)) (r2.map (·.1)) = fullP t.2 u.2 := by rw [fullP, ← er1, ← er2, fst_pl, fst_pl]
      have fin : ∀ (D2 : Addr) (Hu : Hp) (qs : List (Row Str)), Same H3 Hu → Hu D2 = some (.lst (qs.map fun r => .ref r.1)) → TupsX K Hu qs → qs.map Prod.snd = prL (fullN (r1.map (·.1)) (r2.map (·.1))) → rTupOf K [V.ref D2] Hu (fun y H4 => Put H D (fun i acc H' => ∃ bs : List (Addr × Prs), acc = (bs.map fun r => V.ref r.1) ∧ bs.length = i ∧ (∀ b ∈ bs, PairsAt K H' b.1 (prL b.2)) ∧ ∀ (j : Nat) (t u : Addr × Tb), j < i → rs[j]? = some t → rs[j + 1]? = some u → (bs.map Prod.snd)[j]? = some (fullP t.2 u.2)) (i + 1) y H4) := fun D2 Hu qs su eD hqs eq => by
        refine ⟨D2, _, rfl, SqL.of eD, fun l nl => ?_⟩
        have sl := same_new (o := HO.tup (qs.map fun r => V.ref r.1)) nl
        refine put_of hD (fun i acc l H2 H3 e kp ⟨bs, z1, z2, z3, z4⟩ => ⟨bs, z1, z2, fun b hb => pairs_off e kp (z3 b hb), z4⟩) s2 e2 (su.trans sl) (by rw [List.length_map, sizeLine_eq]; omega) ⟨bs ++ [(l, fullP t.2 u.2)], by rw [List.map_append]; rfl, by rw [List.length_append, el]; rfl, fun b hb => ?_, fun j t' u' hj ht' hu' => ?_⟩
        · rcases List.mem_append.mp hb with z | z
          · exact (hbs b z).up (su.trans sl)
          · rw [List.mem_singleton.mp z]
            exact ⟨qs, by rw [eq, ep], SqT.of upd_same, fun r hr => sqT_up (hqs r hr) sl⟩
        · rw [List.map_append]
          by_cases hji : j < i
          · rw [List.getElem?_append_left (by rw [List.length_map]; omega)]; exact hat j t' u' hji ht' hu'
          · obtain rfl : j = i := by omega
            rw [ht] at ht'; rw [hu] at hu'; cases ht'; cases hu'
            rw [List.getElem?_append_right (by rw [List.length_map]; omega), List.length_map, el, Nat.sub_self]; rfl
      have hL3 := sqT_up hL s2
      refine ⟨rfl, tt_yes ?_⟩
      by_cases ed : d1 = d2
      · subst ed
        have e12 : r1.map prP = r2.map prP := HO.dK.inj (Option.some.inj (hd1.symm.trans hd2))
        refine Or.inl ⟨d1, _, hd1, trivial, fun od => ?_⟩
        refine ful_rd (o1 := od) (o2 := od) (r1 := r1) (r2 := r2) (sqT_lock hd1 hL3) (at_ ht) (at_ hu) (sqT_lock hd1 h1) (sqT_lock hd1 h2) upd_same (by rw [upd_same, e12]) l1 l2 fun D2 H5 qs s5 n5 e5 hqs eq => ?_
        have ne : D2 ≠ d1 := fun z => by rw [z, upd_same] at n5; cases n5
        have su := lock_same hd1 s5
        have gone : ∀ {b : Addr} {xs : List V}, SqT K H5 b xs → SqT K (upd H5 d1 (.dK (r1.map prP))) b xs := fun h => sqT_free (s5 _ _ upd_same) h
        exact ⟨s5 _ _ upd_same, fin D2 _ qs su (by rw [upd_ne ne]; exact e5) (fun r hr => gone (hqs r hr)) eq⟩
      · refine Or.inr ⟨d1, _, hd1, trivial, fun od => ?_⟩
        have hd2' : upd H3 d1 (.frz od (.dK (r1.map prP))) d2 = some (.dK (r2.map prP)) := by rw [upd_ne (Ne.symm ed)]; exact hd2
        refine ⟨d2, _, hd2', trivial, fun od2 => ?_⟩
        refine ful_rd (o1 := od) (o2 := od2) (r1 := r1) (r2 := r2) (sqT_lock hd2' (sqT_lock hd1 hL3)) (at_ ht) (at_ hu) (sqT_lock hd2' (sqT_lock hd1 h1)) (sqT_lock hd2' (sqT_lock hd1 h2)) (by rw [upd_ne ed, upd_same]) upd_same l1 l2 fun D2 H5 qs s5 n5 e5 hqs eq => ?_
        have ne2 : D2 ≠ d2 := fun z => by rw [z, upd_same] at n5; cases n5
        have ne1 : D2 ≠ d1 := fun z => by rw [z, upd_ne ed, upd_same] at n5; cases n5
        have k2 := s5 _ _ (show upd (upd H3 d1 (.frz od (.dK (r1.map prP)))) d2 (.frz od2 (.dK (r2.map prP))) d2 = _ from upd_same)
        have k1 := s5 _ _ (show upd (upd H3 d1 (.frz od (.dK (r1.map prP)))) d2 (.frz od2 (.dK (r2.map prP))) d1 = some (.frz od (.dK (r1.map prP))) by rw [upd_ne ed, upd_same])
        have k1' : upd H5 d2 (.dK (r2.map prP)) d1 = some (.frz od (.dK (r1.map prP))) := by rw [upd_ne ed]; exact k1
        have su := lock_same hd1 (lock_same hd2' s5)
        refine ⟨k2, k1', fin D2 _ qs su (by rw [upd_ne ne1, upd_ne ne2]; exact e5) (fun r hr => sqT_free k1' (sqT_free k2 (hqs r hr))) eq⟩
    · rintro acc H2 s2 e2 ⟨bs, rfl, el, hbs, hat⟩
      rw [List.length_map] at el
      refine ⟨D, _, rfl, SqL.of e2, fun l nl => ?_⟩
      have sl := same_new (o := HO.tup (bs.map fun r => V.ref r.1)) nl
      refine k _ l bs (s2.trans sl) (s2.free nl) ⟨by rw [List.length_map, List.length_map, el]; omega, fun i t u ht hu => ?_⟩ ⟨SqT.of upd_same, fun b hb => (hbs b hb).up sl⟩
      rw [List.getElem?_map] at ht hu
      obtain ⟨t', ht', rfl⟩ := Option.map_eq_some_iff.mp ht
      obtain ⟨u', hu', rfl⟩ := Option.map_eq_some_iff.mp hu
      have hi3 := (List.getElem?_eq_some_iff.mp hu').1
      exact hat i t' u' (by rw [List.length_map]; omega) ht' hu'
end
end Rd

/-! Movers: joint placements -/
namespace Rd
open PySem PySem.Spec PyProof.Rows L2 Tq Dn Dc
def lastS (j : List Str) : Str := j.getLast?.getD Str.empty
def joinOne (j : List Str) (b : Prs) : List (List Str) := (b.filter fun p => decide (p.1 = lastS j)).map fun p => j ++ [p.2]
def joinStep (js : List (List Str)) (b : Prs) : List (List Str) := js.flatMap fun j => joinOne j b
def joins (ns : List Str) (bs : List Prs) : List (List Str) := bs.foldl joinStep (ns.map fun n => [n])
theorem joinStep_snoc (js : List (List Str)) (b : Prs) (j : List Str) : joinStep (js ++ [j]) b = joinStep js b ++ joinOne j b := by simp [joinStep]
theorem joinOne_ne {j : List Str} {b : Prs} : ∀ x ∈ joinOne j b, x ≠ [] := fun x hx => by
  obtain ⟨p, _, rfl⟩ := List.mem_map.mp hx
  simp
theorem joinStep_ne {js : List (List Str)} {b : Prs} : ∀ x ∈ joinStep js b, x ≠ [] := fun x hx => by
  obtain ⟨j, _, z⟩ := List.mem_flatMap.mp hx
  exact joinOne_ne x z
theorem joins_ne {ns : List Str} {bs : List Prs} : ∀ x ∈ joins ns bs, x ≠ [] := by
  have : ∀ (bs : List Prs) (js : List (List Str)), (∀ x ∈ js, x ≠ []) → ∀ x ∈ bs.foldl joinStep js, x ≠ [] := fun bs => by
    induction bs with
    | nil => exact fun js h => h
    | cons b bs ih => exact fun js _ => ih _ joinStep_ne
  refine this bs _ fun x hx => ?_
  obtain ⟨n, _, rfl⟩ := List.mem_map.mp hx
  simp
theorem joins_wide {ns : List Str} {bs : List Prs} : ∀ x ∈ joins ns bs, x.length ≤ bs.length + 1 := by
  have : ∀ (bs : List Prs) (js : List (List Str)) (c : Nat), (∀ x ∈ js, x.length ≤ c) → ∀ x ∈ bs.foldl joinStep js, x.length ≤ bs.length + c := fun bs => by
    induction bs with
    | nil => exact fun js c h x hx => by have := h x hx; simpa using this
    | cons b bs ih =>
      intro js c h x hx
      have step : ∀ y ∈ joinStep js b, y.length ≤ c + 1 := fun y hy => by
        obtain ⟨j, hj, z⟩ := List.mem_flatMap.mp hy
        obtain ⟨p, _, rfl⟩ := List.mem_map.mp z
        have := h j hj
        rw [List.length_append]; simpa using this
      have := ih (joinStep js b) (c + 1) step x hx
      rw [List.length_cons]; omega
  refine this bs _ 1 fun x hx => ?_
  obtain ⟨n, _, rfl⟩ := List.mem_map.mp hx
  simp
theorem joinStep_len (js : List (List Str)) (b : Prs) : (joinStep js b).length ≤ js.length * b.length := by
  induction js with
  | nil => simp [joinStep]
  | cons j js ih =>
    show (joinOne j b ++ joinStep js b).length ≤ _
    rw [List.length_append, List.length_cons, Nat.succ_mul]
    have : (joinOne j b).length ≤ b.length := by unfold joinOne; rw [List.length_map]; exact List.length_filter_le _ _
    omega
theorem joins_snoc (ns : List Str) (bs : List Prs) (b : Prs) : joins ns (bs ++ [b]) = joinStep (joins ns bs) b := by simp [joins]
theorem last_at {K : PySem.W.Frag} {j : List Str} (h : j ≠ []) : atI (j.map V.str) (-1) = some (.str (lastS j)) := by
  obtain ⟨k, x, rfl⟩ : ∃ k x, j = k ++ [x] := ⟨j.dropLast, j.getLast h, (List.dropLast_concat_getLast h).symm⟩
  rw [List.map_append]
  show atI (k.map V.str ++ [V.str x]) (-1) = _
  rw [atI_last]
  simp [lastS]
def spJoin (K : PySem.W.Frag) : Sp := fun vs H Q _ => ∃ (d B : Addr) (pl : List (Str × List Str)) (bs : List (Addr × Prs)), vs = [.ref d, .ref B] ∧ PlAt K H d pl ∧ BsAt K H B bs ∧ bs.length ≤ 64 ∧ (∀ i, (joins (pl.map Prod.fst) ((bs.map Prod.snd).take i)).length ≤ 100000) ∧ (∀ b ∈ bs, b.2.length ≤ 64) ∧
  ∀ H' p, Same H H' → H p = none → PairsAt K H' p (joins (pl.map Prod.fst) (bs.map Prod.snd)) → Q (.ref p) H'
section
variable {P : Program} {w : World} {K : PySem.W.Frag} {mg : Str → Option Value} {base : Heap}
theorem scJoin : FnScope ["placements", "bonds", "name", "joints", "bond", "joint", "before", "after"] ["placements", "bonds"] (defScope sJoin) := ⟨rfl, rfl, rfl, by decide +kernel, rfl, by decide +kernel, by decide +kernel⟩
theorem ok_join {f : Addr} {fd : FuncData} (F : Fun K "joints_of" "joints_of" sJoin f fd) (T : TxM K mg) : FnOk P w K mg base CX0 1 f fd ["placements", "bonds"] (spJoin K) := by
  refine F.ok scJoin (fun vs H Q E h => ?_) (fun cdv A outer s H vs Q E hr h => ?_)
  · obtain ⟨d, B, pl, bs, rfl, _⟩ := h; rfl
  · obtain ⟨d, B, pl, bs, rfl, ⟨rs, hd, hrs, rfl⟩, ⟨hB, hbs⟩, lb, few, fb, k⟩ := h
    refine ⟨_, (pss_cons (ps_lock (ps_setLc (i := 3) (own := [("name", 2)]) (g := gName 2) (tt := tYes) (te := tTup (tCons (tVar 2) tNil)) rfl scJoin.nd rfl rfl (sw_true rfl rfl rfl rfl) (pi_keys (pv 0)) (blkOk_by (N := ["placements", "bonds", "name", "joints", "bond", "joint", "before", "after"]) (sc := defScope sJoin) (by decide +kernel)) (fun _ _ _ _ _ => pg_name (i := 2) scJoin.nd rfl (Or.inl rfl)) (fun _ _ _ _ _ => pts_nil) (fun _ _ _ _ _ => pe_tup (pa_cons (pv 2) pa_nil))))
      (pss_cons (ps_for PassesOwn.never rfl (pi_tup (pv 1)) (pg_name (i := 4) scJoin.nd rfl (Or.inr rfl)) (pss_one (ps_setLc2 (i := 3) (own := [("joint", 5), ("before", 6), ("after", 7)]) (vs1 := [6, 7]) (g := gName 5) (g1 := gTup K 2 (gCons (gName 6) (gCons (gName 7) gNil))) (tt := tYes) (tt1 := tTest (tOp rEq (tVar 6) (tOp (rIxT K) (tVar 5) (tUn (rU fun i => .int (-i)) (tC (.int 1)))))) (te := tTup (StX.tStar K (tVar 5) (tCons (tVar 7) tNil))) (wi := iList K (tVar 3)) (wi1 := iTup K (tVar 4)) rfl scJoin.nd rfl rfl (sw_true rfl rfl rfl rfl) (pi_list (pv 3)) (blkOk_by (N := ["placements", "bonds", "name", "joints", "bond", "joint", "before", "after"]) (sc := defScope sJoin) (by decide +kernel)) (by decide) (fun _ _ _ _ _ => pg_name (i := 5) scJoin.nd rfl (Or.inl rfl)) (fun _ _ _ _ _ => pts_nil) (fun _ _ _ _ _ => pi_tup (pv 4)) (fun _ _ _ _ _ => pg_tup rfl (pgs_cons (pg_name (i := 6) scJoin.nd rfl (Or.inl rfl)) (pgs_cons (pg_name (i := 7) scJoin.nd rfl (Or.inl rfl)) pgs_nil))) (fun _ _ _ _ _ => pts_one (pt_cmpR op_eq (pv 6) (pe_ix ix_tup (pv 5) (pe_un un_neg pe_int) (fun _ _ => rfl)) (nomark _))) (fun _ _ _ _ _ => pe_tup (StX.pa_star (pv 5) (pa_cons (pv 7) pa_nil))))))
      (pss_one (ps_ret (pe_callTy call_tupOf (by rfl) T.tuple PyProof.Rows.boot_tuple (pa_cons (pv 3) pa_nil)))))), ?_⟩
    rw [fst_pl] at few k
    have off : ∀ S : List (List Str), ∀ {D : Addr}, Off D (fun _ acc H' => ∃ qs : List (Row Str), acc = (qs.map fun r => V.ref r.1) ∧ TupsX K H' qs ∧ qs.map Prod.snd = S) := fun S D i acc l H2 H3 e kp ⟨qs, z1, z2, z3⟩ => ⟨qs, z1, fun r hr => off_seq e kp (z2 r hr), z3⟩
    refine ⟨d, _, hd, trivial, fun od => ?_⟩
    refine ⟨_, rfl, d, od, rfl, .inl ⟨_, upd_same, fun D nD => ?_⟩⟩
    have nDd : D ≠ d := fun z => by rw [z, upd_same] at nD; cases nD
    refine lc_fil walk_keys nD (fun i acc H' => ∃ qs : List (Row Str), acc = (qs.map fun r => V.ref r.1) ∧ TupsX K H' qs ∧ qs.map Prod.snd = ((rs.map (·.1)).take i).map fun n => [n]) ⟨[], rfl, (fun r z => nomatch z), rfl⟩ (fun H' s' => s' _ _ upd_same) ?_ ?_
    · rintro i v acc H2 H3 hi s2 e2 ⟨qs, rfl, hqs, eq⟩ ⟨rfl, kk, vv, hv, rfl⟩
      rw [List.getElem?_map] at hv
      obtain ⟨r, hr_, e⟩ := Option.map_eq_some_iff.mp hv
      cases e
      have hrn : (rs.map (·.1))[i]? = some r.1 := by rw [List.getElem?_map, hr_]; rfl
      have le := congrArg List.length eq
      simp only [List.length_map, List.length_take] at le
      have f0 := few 0
      simp only [joins, List.take_zero, List.foldl_nil, List.length_map] at f0
      refine ⟨rfl, tt_yes ⟨_, rfl, (by show 1 ≤ sizeLine; decide), fun t nt => ?_⟩⟩
      refine put_of nD (fun i acc l H2 H3 e kp ⟨qs, z1, z2, z3⟩ => ⟨qs, z1, fun r hr => off_seq e kp (z2 r hr), z3⟩) s2 e2 (same_new nt) (by rw [List.length_map, sizeLine_eq]; omega) ⟨qs ++ [(t, [r.1])], by rw [List.map_append]; rfl, fun q hq => ?_, ?_⟩
      · rcases List.mem_append.mp hq with z | z
        · exact sqT_up (hqs q z) (same_new nt)
        · rw [List.mem_singleton.mp z]; exact SqT.of upd_same
      · rw [List.map_append, eq, List.take_add_one, hrn, List.map_append]; rfl
    rintro acc H1 s1 e1 ⟨qs, rfl, hqs, eq⟩
    rw [List.length_map] at eq
    have eq1 : qs.map Prod.snd = joins (rs.map (·.1)) ((bs.map Prod.snd).take 0) := by
      rw [eq, List.take_of_length_le (by rw [List.length_map]; exact Nat.le_refl _)]; rfl
    refine ⟨s1 _ _ upd_same, ?_⟩
    have su := lock_same hd s1
    have gone : ∀ r ∈ qs, SqT K (upd H1 d (.dK (rs.map prP))) r.1 (r.2.map V.str) := fun r hr => sqT_free (s1 _ _ upd_same) (hqs r hr)
    have eD : upd H1 d (.dK (rs.map prP)) D = some (.lst (qs.map fun r => V.ref r.1)) := by rw [upd_ne nDd]; exact e1
    generalize upd H1 d (.dK (rs.map prP)) = Hu at su gone eD ⊢
    refine ⟨_, rfl, B, rfl, ⟨_, sqT_up hB su⟩, ?_⟩
    refine for_it walk_tup (fun i σ H' => Same Hu H' ∧ ∃ (L : Addr) (b4 : Option V) (us : List (Row Str)), σ = [some (.ref d), some (.ref B), none, some (.ref L), b4, none, none, none] ∧ H' L = some (.lst (us.map fun r => V.ref r.1)) ∧ TupsX K H' us ∧ us.map Prod.snd = joins (rs.map (·.1)) ((bs.map Prod.snd).take i)) ⟨Same.refl _, D, none, qs, rfl, eD, gone, eq1⟩ (fun _ _ _ _ z => sqT_up (sqT_up hB su) z.1) ?_ ?_
    · rintro i x σ Ha Hb hi ⟨sa, L, b4, us, rfl, eL, hus, eu⟩ ⟨rfl, hx⟩
      rw [List.length_map] at hi
      rw [List.getElem?_map] at hx
      obtain ⟨b, hb, rfl⟩ := Option.map_eq_some_iff.mp hx
      obtain ⟨ws, hws, hbt, hwt⟩ := (hbs b (List.mem_of_getElem? hb)).up (su.trans sa)
      have lw : ws.length = b.2.length := by have := congrArg List.length hws; simpa using this
      have lb2 := fb b (List.mem_of_getElem? hb)
      have nxt : joins (rs.map (·.1)) ((bs.map Prod.snd).take (i + 1)) = joinStep (joins (rs.map (·.1)) ((bs.map Prod.snd).take i)) b.2 := by
        rw [List.take_add_one, List.getElem?_map, hb]
        exact joins_snoc _ _ _
      have fi := few i
      rw [← eu, List.length_map] at fi
      have ne_ : ∀ r ∈ us, r.2 ≠ [] := fun r hr => joins_ne r.2 (by rw [← eu]; exact List.mem_map_of_mem hr)
      rw [← eu] at nxt
      refine ⟨_, rfl, L, rfl, ⟨_, SqL.of eL⟩, fun D2 nD2 => ?_⟩
      have lu : us.length ≤ 100000 := fi
      refine lc2_fil walk_list nD2 (fun m acc H' => ∃ qs : List (Row Str), acc = (qs.map fun r => V.ref r.1) ∧ TupsX K H' qs ∧ qs.map Prod.snd = joinStep ((us.map Prod.snd).take m) b.2) ⟨[], rfl, (fun r z => nomatch z), by simp [joinStep]⟩ (fun H' s' => sqL_up (SqL.of eL) s') ?_ ?_
      · rintro m v acc H2 H3 hm s2 e2 ⟨qs, rfl, hqs, eq⟩ ⟨rfl, hv⟩
        rw [List.getElem?_map] at hv
        obtain ⟨r, hr_, rfl⟩ := Option.map_eq_some_iff.mp hv
        have hrm := List.mem_of_getElem? hr_
        have lq : qs.length ≤ 100000 * 64 := by
          have := congrArg List.length eq
          rw [List.length_map] at this
          rw [this]
          refine Nat.le_trans (joinStep_len _ _) (Nat.mul_le_mul ?_ lb2)
          rw [List.length_take, List.length_map]; omega
        refine ⟨rfl, tt_yes ⟨_, rfl, b.1, rfl, ⟨_, sqT_up hbt s2⟩, ?_⟩⟩
        refine in_fil ⟨_, fun j acc H' => ∃ qs : List (Row Str), acc = (qs.map fun r => V.ref r.1) ∧ TupsX K H' qs ∧ qs.map Prod.snd = joinStep ((us.map Prod.snd).take m) b.2 ++ joinOne r.2 (b.2.take j), _, _, walk_tup, ⟨s2, _, e2, qs, rfl, hqs, by simpa [joinOne] using eq⟩, (fun H' s' => sqT_up hbt s'), ?_, ?_⟩
        · rintro j v acc H4 H5 hj s4 e4 ⟨q2, rfl, hq2, eq2⟩ ⟨rfl, hv⟩
          rw [List.getElem?_map] at hv
          obtain ⟨x, hx, rfl⟩ := Option.map_eq_some_iff.mp hv
          obtain ⟨p, hp, ep⟩ : ∃ p, b.2[j]? = some p ∧ [p.1, p.2] = x.2 := by
            have h1 : (ws.map Prod.snd)[j]? = some x.2 := by rw [List.getElem?_map, hx]; rfl
            rw [hws, List.getElem?_map] at h1
            exact Option.map_eq_some_iff.mp h1
          have hxt := hwt x (List.mem_of_getElem? hx)
          rw [← ep] at hxt
          have tk : b.2.take (j + 1) = b.2.take j ++ [p] := by rw [List.take_add_one, hp]; rfl
          have lq2 : q2.length ≤ 100000 * 64 + 64 := by
            have := congrArg List.length eq2
            rw [List.length_map, List.length_append, ← eq, List.length_map] at this
            have h2 : (joinOne r.2 (b.2.take j)).length ≤ 64 := by
              unfold joinOne
              rw [List.length_map]
              refine Nat.le_trans (List.length_filter_le _ _) ?_
              rw [List.length_take]; omega
            omega
          refine ⟨x.1, _, rfl, sqT_up hxt s4, rfl, _, _, rfl, _, _, rfl, rfl, rfl, ?_⟩
          refine ⟨_, rfl, _, rfl, _, rfl, r.1, _, _, _, rfl, rfl, sqT_up (hus r hrm) s4, last_at (K := K) (ne_ r hrm), rfl, _, rfl, ?_⟩
          refine ite2 (fun c => ?_) (fun c => ?_)
          · have c' : p.1 = lastS r.2 := V.str.inj (of_decide_eq_true c)
            refine ⟨_, rfl, r.1, _, rfl, .inl (sqT_up (hus r hrm) s4), _, rfl, ?_, fun t nt => ?_⟩
            · have hw := joins_wide (ns := rs.map (·.1)) (bs := (bs.map Prod.snd).take i) r.2 (by rw [← eu]; exact List.mem_map_of_mem hrm)
              rw [List.length_take, List.length_map] at hw
              rw [List.length_append, List.length_map, sizeLine_eq]
              show _ + 1 ≤ _
              omega
            · refine put_of nD2 (fun i acc l H2 H3 e kp ⟨qs, z1, z2, z3⟩ => ⟨qs, z1, fun r hr => off_seq e kp (z2 r hr), z3⟩) s4 e4 (same_new nt) (by rw [List.length_map, sizeLine_eq]; omega) ⟨q2 ++ [(t, r.2 ++ [p.2])], by rw [List.map_append]; rfl, fun q hq => ?_, ?_⟩
              · rcases List.mem_append.mp hq with z | z
                · exact sqT_up (hq2 q z) (same_new nt)
                · rw [List.mem_singleton.mp z]
                  refine SqT.of ?_
                  rw [List.map_append]; exact upd_same
              · rw [List.map_append, eq2, tk]
                unfold joinOne
                rw [List.filter_append, List.map_append, List.filter_cons_of_pos (by exact decide_eq_true c'), List.append_assoc]; rfl
          · have c' : ¬ p.1 = lastS r.2 := fun z => c (by rw [z]; simp)
            refine fil_of s4 e4 (Same.refl _) ⟨q2, rfl, hq2, ?_⟩
            rw [eq2, tk]
            unfold joinOne
            rw [List.filter_append, List.filter_cons_of_neg (by simp [c'])]; simp
        · rintro acc H4 s4 e4 ⟨q2, rfl, hq2, eq2⟩
          refine ⟨q2, rfl, hq2, ?_⟩
          have z : ((us.map Prod.snd).take (m + 1)) = (us.map Prod.snd).take m ++ [r.2] := by rw [List.take_add_one, List.getElem?_map, hr_]; rfl
          rw [eq2, z, joinStep_snoc]
          congr 2
          exact List.take_of_length_le (by rw [List.length_map, lw]; exact Nat.le_refl _)
      · rintro acc H2 s2 e2 ⟨qs, rfl, hqs, eq⟩
        refine ⟨sa.trans s2, D2, _, qs, rfl, e2, hqs, ?_⟩
        rw [nxt, eq, List.length_map]
        congr 1
        exact List.take_of_length_le (by rw [List.length_map]; exact Nat.le_refl _)
    · rintro σ Ha ⟨sa, L, b4, us, rfl, eL, hus, eu⟩
      refine ⟨_, rfl, L, _, rfl, SqL.of eL, fun l nl => ?_⟩
      have sl := same_new (o := HO.tup (us.map fun r => V.ref r.1)) nl
      refine k _ l ((su.trans sa).trans sl) ((su.trans sa).free nl) ⟨us, ?_, SqT.of upd_same, fun r hr => sqT_up (hus r hr) sl⟩
      rw [eu, List.length_map]
      congr 1
      exact List.take_of_length_le (by rw [List.length_map]; exact Nat.le_refl _)
end
end Rd

/-! An exception of an own class with an __init__, over any built-in base: made, its field stored -/
namespace PySem
namespace Mk0
open PySem.W PySem.Calls PyProof.Rows PySem.HandSPX Builtin Builtin.ObjectAttr
/-- what is asked of the classes behind the own one -/
structure Bm (B : String) (bm : List Value) : Prop where
  b : bm.contains (.type B) = true
  a : bm.contains (.type "AttributeError") = false
  n : bm.contains (.type "NameError") = false
  o : bm.contains (.type "object") = true
  e : bm.isEmpty = false
  p : ∀ self, refuseLoop self "__setattr__" bm = pure ()
section
variable {M : Model} {A : Around} {E : Value → Shared → Prop} {h : Heap} {g : Array GenState} {d : Drawn} {t : Nat} {os : OsState}
variable {cn cq : Str} {C NS : Addr} {bs bm bmB : List Value} {hd : Bool} {sn : List Str} {su : List Value} {ab : Bool} {co : Option Bool} {dd : Option Addr} {m0 m1 m2 m3 m5 : Option Value} {B newId initId : String}
theorem chk_new (F : ExcBaseFacts B newId initId bmB) (Z : Bm B bm) {us : List Value} {Q : Unit → Shared → Prop} (hC : h.get? C = some (excClassObj cn cq C NS bs bm hd sn su ab co dd m0 m1 m2 m3 m5 newId)) (hq : Q () ⟨h, g, d, t, os⟩) :
    wpAny M A (checkBuiltinCall newId ⟨.ref C :: us, []⟩) Q E ⟨h, g, d, t, os⟩ := by
  have z1 : (Value.ref C :: bm).contains (.type B) = true := by (rw [List.contains_cons, Z.b, Bool.or_true])
  have z2 := F.noStar; (simp only [checkBuiltinCall, F.newKind, F.newSplit, F.newRow])
  repeat (first | refine wpAny_loadPart_at hC ?_ | (refine wpAny_isSubtype_exc hC ?_; rw [z1]) | refine wpAny_staticBase_exc hC ?_ | refine wpAny_madeBy_exc hC ?_ | (simp only [bne_self_eq_false, Bool.false_eq_true, if_false]) | wp_step)
  exact hq
end
section
variable {prog : Program} {w : World} {A : Around} {E : Value → Shared → Prop} {R : Result → Shared → Prop} {h : Heap} {g : Array GenState} {d : Drawn} {t : Nat} {os : OsState}
variable {cn cq : Str} {C NS : Addr} {bs bm bmB : List Value} {hd : Bool} {sn : List Str} {su : List Value} {ab : Bool} {co : Option Bool} {dd : Option Addr} {m0 m1 m2 m3 m5 : Option Value} {B newId initId : String}
theorem new_any (F : ExcBaseFacts B newId initId bmB) (Z : Bm B bm) {us : List Value} (hC : h.get? C = some (excClassObj cn cq C NS bs bm hd sn su ab co dd m0 m1 m2 m3 m5 newId))
    (hq : R (.ok (.ret (.ref (h.objs.size + 1)))) ⟨(h.push (W.kdv_tup us)).push (excO C h.objs.size), g, d, t, os⟩) (hz : us.length ≤ sizeLine) : codeAny (model prog w) A (.builtin newId ⟨.ref C :: us, []⟩) R ⟨h, g, d, t, os⟩ := by
  have z0 := F.ends; have z1 : (Value.ref C :: bm).contains (.type B) = true := by (rw [List.contains_cons, Z.b, Bool.or_true])
  have z2 : (Value.ref C :: bm).contains (.type "AttributeError") = false := by (rw [List.contains_cons, Z.a]; rfl)
  have z3 : (Value.ref C :: bm).contains (.type "NameError") = false := by (rw [List.contains_cons, Z.n]; rfl)
  refine codeAny_builtinAt F.entry ?_; unfold Builtin.«BaseException.__new__»; refine wpAt_bind ?_
  show wpAt _ _ _ (stack >>= _) _ _ _; refine wpAt_bind (wpAt_stack fun p below => wpAt_of_wpAny ?_)
  wp_walk; refine wpAt_of_wpAny ?_; rw [F.owner]
  repeat (first | with_reducible refine wpAny_madeHere_exc F.canon hC ?_ | with_reducible refine wpAny_loadPart_at hC ?_ | (with_reducible refine wpAny_isSubtype_exc hC ?_; first | rw [z1] | rw [z2] | rw [z3]) | wp_step)
  show R _ _; rw [Heap.size_push]; exact hq
theorem type_call_any (F : ExcBaseFacts B newId initId bmB) (Z : Bm B bm) {us : List Value} {fI : Addr} {Q : Fin → Shared → Prop} (hC : h.get? C = some (excClassObj cn cq C NS bs bm hd sn su ab co dd m0 m1 m2 m3 m5 newId))
    (hi : W.Looks (model prog w) h (typeLookup (.ref C) "__init__") (some (.ref fI))) (hb : ∀ self, W.Looks (model prog w) h (bindSpecial (.ref fI) self) (.ref fI, [self])) (hz : us.length ≤ sizeLine)
    (hq : codeAny (model prog w) A (.call (.ref fI) ⟨.ref (h.objs.size + 1) :: us, []⟩) (fun r s' => match r with | .ok (.ret v) => v = .none ∧ Q (.done (.ret (.ref (h.objs.size + 1)))) s' | .ok _ => False | .error e => E e s') ⟨(h.push (W.kdv_tup us)).push (excO C h.objs.size), g, d, t, os⟩) :
    wpAny (model prog w) A (Builtin.«type.__call__» ⟨.ref C :: us, []⟩) Q E ⟨h, g, d, t, os⟩ := by
  repeat (first | with_reducible refine wpAny_loadPart_at hC ?_ | with_reducible refine wpAny_madeBy_exc hC ?_ | wp_step)
  refine codeAny_call_builtin_code (Code.quiet_builtin _ F.quiet) (chk_new F Z hC ?_); refine new_any F Z hC ?_ hz; show wpAny _ _ _ _ _ _
  have k : ∀ b o, h.get? b = some o → ((h.push (W.kdv_tup us)).push (excO C h.objs.size)).get? b = some o := fun b o e => Heap.get?_push_of_some _ (Heap.get?_push_of_some _ e)
  have hC2 := k _ _ hC; have hg2 : ((h.push (W.kdv_tup us)).push (excO C h.objs.size)).get? (h.objs.size + 1) = some (excO C h.objs.size) := by heap_get
  have z4 : (Value.ref C :: bm).contains (.ref C) = true := by simp
  have i1 := hi.keeps k; have b1 := (hb (.ref (h.objs.size + 1))).keeps k; unfold isInstance
  repeat (first | with_reducible refine wpAny_loadPart_at hg2 ?_ | (with_reducible refine wpAny_isSubtype_exc hC2 ?_; rw [z4]) | wp_step)
  show wpAny _ _ (typeLookup (.ref C) _) _ _ _; refine i1.at ?_; refine wpAny_holding (wpAny_bind (b1.at ?_))
  refine wpAny_bind (wpAny_call (codeAny_mono hq fun r s' z => ?_)); rcases r with e | (v | _ | _ | _) <;> first | exact z | exact z.elim | skip
  obtain ⟨rfl, z⟩ := z; first | exact wpAny_pure (wpAny_pure z) | (wp_walk; exact z)
theorem call_any (F : ExcBaseFacts B newId initId bmB) (Z : Bm B bm) {us : List Value} {fI : Addr} (hC : h.get? C = some (excClassObj cn cq C NS bs bm hd sn su ab co dd m0 m1 m2 m3 m5 newId))
    (hi : W.Looks (model prog w) h (typeLookup (.ref C) "__init__") (some (.ref fI))) (hb : ∀ self, W.Looks (model prog w) h (bindSpecial (.ref fI) self) (.ref fI, [self])) (hz : us.length ≤ sizeLine)
    (hq : codeAny (model prog w) (A.under (.builtin "type.__call__" ⟨.ref C :: us, []⟩)) (.call (.ref fI) ⟨.ref (h.objs.size + 1) :: us, []⟩) (W.InitBack (h.objs.size + 1) R) ⟨(h.push (W.kdv_tup us)).push (excO C h.objs.size), g, d, t, os⟩) :
    codeAny (model prog w) A (.call (.ref C) ⟨us, []⟩) R ⟨h, g, d, t, os⟩ := by
  have f1 := tc_lookup; have f2 := tc_bind (.ref C); have f3 : (⟨h, g, d, t, os⟩ : Shared).TypeIs (.ref C) "type" := ⟨_, hC, rfl⟩
  refine codeAny_of_tree ?_; show wpAny _ _ (callAny (.ref C) _) _ _ _
  repeat (any_goals (first | assumption | with_reducible refine wpAny_loadPart_at hC ?_ | wp_step))
  refine ⟨rfl, ?_⟩; refine codeAny_call_builtin_at (Code.quiet_builtin _ (by decide +kernel)) entry_typeCall (wpAny_check_type_call_sub hC (type_call_any F Z hC hi hb hz ?_))
  refine codeAny_mono hq fun r s' z => ?_; rcases r with e | (v | _ | _ | _) <;> exact z
/-- self.name = v, the exception has no dict yet -/
theorem osa_any {K : W.Frag} {name : Str} {tk : Tok} {v : Value} {x : Addr} {fv : Array Value} {cd : ClassData} (X : K.In h) (hx : h.get? x = some { cls := .ref C, data := .fields fv }) (hcd : W.clsIn K C = some cd) (hm : cd.mro = .ref C :: bm) (Z : Bm B bm)
    (hh : cd.hasDict = true) (ha : W.findIn K (.ref C) name = some none)
    (hq : ∀ h' tk' dx, (∀ b o, b ≠ x → h.get? b = some o → h'.get? b = some o) → h.objs.size ≤ dx → dx ≠ x → h'.get? x = some { cls := .ref C, dict := some dx, data := .fields fv } → h'.Ns1 dx (fun y => if y = name then some v else none) → R (.ok (.ret .none)) ⟨h', g, d, tk', os⟩) :
    codeAny (model prog w) A (.call (.builtin "object.__setattr__") ⟨[.ref x, .str name tk, v], []⟩) R ⟨h, g, d, t, os⟩ := by
  have I : W.InstAt h x { cls := .ref C, data := .fields fv } C none := ⟨hx, rfl, rfl, trivial⟩
  have SF := F.store_object; have ne : cd.mro.isEmpty = false := by (rw [hm]; rfl)
  have ho : cd.mro.contains (.type "object") = true := by (rw [hm, List.contains_cons, Z.o, Bool.or_true])
  have hxs : x ≠ h.objs.size := Nat.ne_of_lt (Heap.lt_size hx)
  have sub : W.Looks (model prog w) h (isInstance (.ref x) (.type "object")) true := I.type.andThen (W.looks_mroIn X (by (unfold W.mroIn; rw [hcd, Option.bind_some, if_neg (by rw [ne]; decide), ho])))
  refine codeAny_call_builtin SF.slot.plain SF.entry (@W.check_slot (model prog w) _ _ ⟨h, g, d, t, os⟩ "object.__setattr__" "object" "__setattr__" (.ref x) [.str name tk, v] [] _ SF.kind SF.split sub (SF.args (.ref x) (.str name tk) v) ?_)
  have l1 : W.Looks (model prog w) h (mroOf (.ref C)) cd.mro := (W.looks_clsIn X hcd).andThen .now; have l3 : W.Looks (model prog w) h (storeTaker? none) none := .now
  have l4 : W.Looks (model prog w) h (classData C) cd := W.looks_clsIn X hcd
  have pass : refuseLoop (.ref x) "__setattr__" cd.mro = pure () := by (rw [hm, refuseLoop_ref]; exact Z.p _)
  rw [W.osa_eq, refuse_eq]; refine wpAny_bind (wpAny_bind (I.type.at (wpAny_bind (l1.at ?_)))); rw [pass]
  refine wpAny_pure (wpAny_bind (I.type.at (wpAny_bind ((W.looks_findIn X ha).at (wpAny_bind (l3.at ?_)))))); show wpAny _ _ (storeInOwnDict (.ref x) (.ref C) (.str name tk) name v false) _ _ _
  obtain ⟨nm, bs', mro, ns, qn, hd', sn', sb, ab', col, del⟩ := cd; dsimp only at hh; subst hh; unfold storeInOwnDict ownDictForStores
  repeat (first | with_reducible refine store_in_new ?_ ?_ | with_reducible refine wpAny_loadPart_at hx ?_ | with_reducible refine l4.at ?_ | wp_step)
  · exact ⟨_, #[], _, (Heap.get?_update_ne _ _ _ _ hxs.symm).trans (Heap.get?_push_at rfl rfl), rfl, fun e he => absurd he (by simp), fun _ => rfl⟩
  · intro h' tk' hn' hs; have hx₁ : (h.push { cls := .type "dict", data := .dict #[] }).get? x = some { cls := .ref C, data := .fields fv } := Heap.get?_push_of_some _ hx
    refine hq h' tk' h.objs.size (fun b o hb ho => ?_) (Nat.le_refl _) hxs.symm ?_ hn'
    · exact (hs.2 b (Nat.ne_of_lt (Heap.lt_size ho))).trans ((Heap.get?_update_ne _ _ _ _ hb).trans (Heap.get?_push_of_some _ ho))
    · exact (hs.2 x hxs).trans (Heap.get?_update_self _ hx₁ rfl)
end
/-- the six bases -/
abbrev bIx : List Value := [.type "IndexError", .type "LookupError", .type "Exception", .type "BaseException", .type "object"]
abbrev bKey : List Value := [.type "KeyError", .type "LookupError", .type "Exception", .type "BaseException", .type "object"]
abbrev bOv : List Value := [.type "OverflowError", .type "ArithmeticError", .type "Exception", .type "BaseException", .type "object"]
abbrev bRt : List Value := [.type "RuntimeError", .type "Exception", .type "BaseException", .type "object"]
abbrev bAr : List Value := [.type "ArithmeticError", .type "Exception", .type "BaseException", .type "object"]
abbrev bLk : List Value := [.type "LookupError", .type "Exception", .type "BaseException", .type "object"]
theorem z_ix : Bm "IndexError" bIx := ⟨by (decide +kernel), by (decide +kernel), by (decide +kernel), by (decide +kernel), rfl, fun self => by kernel_rfl⟩
theorem z_key : Bm "LookupError" bKey := ⟨by (decide +kernel), by (decide +kernel), by (decide +kernel), by (decide +kernel), rfl, fun self => by kernel_rfl⟩
theorem z_ov : Bm "OverflowError" bOv := ⟨by (decide +kernel), by (decide +kernel), by (decide +kernel), by (decide +kernel), rfl, fun self => by kernel_rfl⟩
theorem z_rt : Bm "RuntimeError" bRt := ⟨by (decide +kernel), by (decide +kernel), by (decide +kernel), by (decide +kernel), rfl, fun self => by kernel_rfl⟩
theorem z_ar : Bm "ArithmeticError" bAr := ⟨by (decide +kernel), by (decide +kernel), by (decide +kernel), by (decide +kernel), rfl, fun self => by kernel_rfl⟩
theorem z_lk : Bm "LookupError" bLk := ⟨by (decide +kernel), by (decide +kernel), by (decide +kernel), by (decide +kernel), rfl, fun self => by kernel_rfl⟩
#check @F.excBase_LookupError
#check @F.excBase_OverflowError
#check @F.excBase_RuntimeError
#check @F.excBase_ArithmeticError
end Mk0
end PySem

namespace PySem
namespace Mk0
open PySem.W PySem.Calls PyProof.Rows PySem.HandSPX
/-! the text of __init__(self, f): self.f = f -/
def oA (f : Str) (p1 p2 : Pos) : Arguments := { posonlyargs := [], args := [{ arg := "self", annotation := none, pos := p1 }, { arg := f, annotation := none, pos := p2 }], vararg := none, kwonlyargs := [], kw_defaults := [], kwarg := none, defaults := [] }
def oB (f : Str) (q1 q2 q3 q4 : Pos) : List Stmt := [.Assign [.Attribute (.Name "self" q1) f q2] (.Name f q3) q4]
def oS (f : Str) : Scope := { kind := .function, names := [(PySem.Str.ofString "self", .local), (f, .local)], isGenerator := false, isCoroutine := false, more := [] }
/-- the field names of this program -/
abbrev fNames : List Str := ["value", "name", "limit", "readers", "paper", "many"]
/-- what the written part says of the class at C, of its __init__ at fI -/
structure OTxt (K : Frag) (C fI : Addr) (f qual : Str) (B newId : String) (bm : List Value) : Prop where
  fn : f ∈ fNames
  F : ∃ initId bmB, ExcBaseFacts B newId initId bmB
  Z : Bm B bm
  cls : ∃ nm q N bs sn sub ab col dd k0 k1 k2 k3 k5, K.lookup C = some (excClassObj nm q C N bs bm true sn sub ab col dd k0 k1 k2 k3 k5 newId)
  sa : findIn K (.ref C) "__setattr__" = some (some (.builtin "object.__setattr__"))
  ga : findIn K (.ref C) "__getattribute__" = some (some (.builtin "BaseException.__getattribute__"))
  gg : findIn K (.ref C) "__getattr__" = some none
  noN : findIn K (.ref C) f = some none
  iC : findIn K (.ref C) "__init__" = some (some (.ref fI))
  tC : typeIn K (.ref fI) = some (.type "function")
  kC : keepIn K (.ref C) = true
  exC : subIn K (.ref C) (.type "BaseException") = some true
  tyC : typeIn K (.ref C) = some (.type "type")
  hdC : hasDictIn K C = true
  def_ : ∃ (oc : Value) (od : Option Addr) (doc pm : Value) (an : Option Addr) (cdv ct : Value) (osl : Array (Option Value)) (p1 p2 q1 q2 q3 q4 : Pos),
    K.lookup fI = some ⟨oc, od, .func (fnOf "__init__" qual (oA f p1 p2) (oB f q1 q2 q3 q4) (oS f) .none .none doc pm an cdv ct), osl⟩ ∧ codeIn K cdv qual = true
theorem ld_own {M : Model} {s : Shared} {name : Str} {scope : Scope} {L a : Addr} {cd : Value} {m : Str → Option Value} {x : Str} {pos : Pos} {v : Value} {Q : Value → Shared → Prop} {A : Around} {E : Value → Shared → Prop} (hn : s.heap.Ns L m) (hv : m x = some v) (h : Q v s)
    (hk : scope.kind = .function := by rfl) (hl : (envOfC name scope L a cd).kindOf x = some .local := by rfl) (hd : (x == ("__debug__" : Str)) = false := by decide) : wpAny M A (eval (.Name x pos) (envOfC name scope L a cd)) Q E s := wpAny_Name (wpAny_loadName_local hk hl hn hv h) hd
/-- what __init__ leaves of a fresh exception at x -/
structure OEnd (f : Str) (h h' : Heap) (x C dx t1 : Addr) (v : Value) : Prop where
  keep : ∀ b o, b ≠ x → h.get? b = some o → h'.get? b = some o
  obj : h'.get? x = some { cls := .ref C, dict := some dx, data := .fields #[.ref t1, .none, .none, .none, .bool false, .none] }
  big : h.objs.size ≤ dx
  ne : dx ≠ x
  ns : h'.Ns1 dx (fun y => if y = f then some v else none)
/-- one that is made -/
structure OMade (f : Str) (h h' : Heap) (e C d : Addr) (v : Value) : Prop where
  keep : ∀ b o, h.get? b = some o → h'.get? b = some o
  new : h.objs.size ≤ e
  obj : ∃ t1 : Addr, h'.get? e = some { cls := .ref C, dict := some d, data := .fields #[.ref t1, .none, .none, .none, .bool false, .none] }
  big : h.objs.size ≤ d
  ne : d ≠ e
  ns : h'.Ns1 d (fun y => if y = f then some v else none)
section
variable {prog : Program} {w : World} {A : Around} {E : Value → Shared → Prop} {R : Result → Shared → Prop} {s : Shared} {K : Frag} {C fI : Addr} {f qual : Str} {B newId : String} {bm : List Value}
theorem o_init (T : OTxt K C fI f qual B newId bm) {x t0 : Addr} {v : Value} (X : K.In s.heap) (hlim : s.heap.NoLimit) (hx : s.heap.get? x = some (excO C t0)) (hroom : A.depth < recursionLimit)
    (hq : ∀ h' tk dx, OEnd f s.heap h' x C dx t0 v → R (.ok (.ret .none)) { s with heap := h', toks := tk }) : codeAny (model prog w) A (.call (.ref fI) ⟨[.ref x, v], []⟩) R s := by
  obtain ⟨oc, od, doc, pm, an, cdv, ct, osl, p1, p2, q1, q2, q3, q4, ho, hcd⟩ := T.def_
  obtain ⟨nm, q, N, bs, sn, sub, ab, col, dd, k0, k1, k2, k3, k5, hC⟩ := T.cls
  have hcl : clsIn K C = some { name := nm, bases := bs, mro := .ref C :: bm, ns := N, qualname := q, hasDict := true, slotNames := sn, subclasses := sub, abstract := ab, collection := col, hasDel := false } := by (unfold clsIn; rw [hC] <;> rfl)
  have hf := T.fn; have hsa := T.sa; have hno := T.noN; have hZ := T.Z; clear T
  simp only [fNames, List.mem_cons, List.not_mem_nil, or_false] at hf
  rcases hf with rfl | rfl | rfl | rfl | rfl | rfl
  all_goals (refine Att.call_fn (binds := [("self", .ref x), (_, v)]) X hlim ho hcd hroom (BindsTo.of_eq (by first | rfl | with_unfolding_all rfl)) (by first | rfl | decide | with_unfolding_all rfl) (fun s₁ IC => ?_) rfl rfl rfl)
  all_goals (
    obtain ⟨h₁, tk₁, rfl⟩ := IC.toInCall.same; have k : ∀ b o, s.heap.get? b = some o → h₁.get? b = some o := IC.toInCall.keep; have hn := IC.toInCall.ns
    have hxL : s.heap.objs.size ≠ x := Nat.ne_of_gt (Heap.lt_size hx); have X₁ : K.In h₁ := X.keeps k; have hx₁ := k _ _ hx
    show wpAny _ _ (execs _ _) _ _ _; refine wpAny_execs_cons (plainObj_wpAny_Assign_Attribute ?_)
    refine ld_own (v := v) hn (by first | rfl | with_unfolding_all rfl | kernel_rfl) (ld_own (v := .ref x) hn (by first | rfl | with_unfolding_all rfl | kernel_rfl) ?_)
    refine set_plain X₁ (ox := excO C t0) (od := none) ⟨hx₁, rfl, rfl, trivial⟩ hsa ?_
    refine osa_any X₁ hx₁ hcl rfl hZ rfl hno (fun h₃ tk₃ dx k₃ dn dne hx₃ hn₃ => ?_); show wpAny _ _ (execs _ _) _ _ _
    have z : s.heap.objs.size < h₁.objs.size := hn.lt; exact wpAny_execs_nil (hq h₃ tk₃ dx ⟨fun b o hb e => k₃ b o hb (k b o e), hx₃, Nat.le_of_lt (Nat.lt_of_lt_of_le z dn), dne, hn₃⟩))
theorem one_fits (v : Value) : [v].length ≤ sizeLine := by (rw [sizeLine_eq]; exact (by decide : 1 ≤ 16777216))
theorem o_made (T : OTxt K C fI f qual B newId bm) {v : Value} (X : K.In s.heap) (hlim : s.heap.NoLimit) (hroom : A.depth + 1 < recursionLimit)
    (hq : ∀ h' tk e d, OMade f s.heap h' e C d v → R (.ok (.ret (.ref e))) { s with heap := h', toks := tk }) : codeAny (model prog w) A (.call (.ref C) ⟨[v], []⟩) R s := by
  obtain ⟨nm, q, N, bs, sn, sub, ab, col, dd, k0, k1, k2, k3, k5, hC⟩ := T.cls; obtain ⟨initId, bmB, F⟩ := T.F; obtain ⟨hp, g, dr, tk, os⟩ := s
  have k : ∀ b o, hp.get? b = some o → ((hp.push (kdv_tup [v])).push (excO C hp.objs.size)).get? b = some o := fun b o e => Heap.get?_push_of_some _ (Heap.get?_push_of_some _ e)
  have hget : ((hp.push (kdv_tup [v])).push (excO C hp.objs.size)).get? (hp.objs.size + 1) = some (excO C hp.objs.size) := by heap_get
  refine call_any F T.Z (X _ _ hC) (looks_findIn X T.iC) (fun self => bind_fn X self T.tC) (one_fits v) ?_
  refine o_init (s := ⟨(hp.push (kdv_tup [v])).push (excO C hp.objs.size), g, dr, tk, os⟩) T (X.keeps k) (hlim.keeps k) hget ?_ fun h' tk' dx ⟨k', hx, dn, dne, hns⟩ => ?_
  · show A.depth + 1 < recursionLimit; exact hroom
  · have old : ∀ b o, hp.get? b = some o → h'.get? b = some o := fun b o e => k' b o (Nat.ne_of_lt (Nat.lt_succ_of_lt (Heap.lt_size e))) (k b o e)
    have z : hp.objs.size + 1 + 1 ≤ dx := by first | (simpa only [Heap.size_push] using dn) | exact dn | (have q := dn; rw [Heap.size_push, Heap.size_push] at q; exact q)
    exact ⟨rfl, hq h' tk' (hp.objs.size + 1) dx ⟨old, Nat.le_succ _, ⟨_, hx⟩, Nat.le_trans (Nat.le_trans (Nat.le_succ _) (Nat.le_succ _)) z, dne, hns⟩⟩
end
end Mk0
end PySem

namespace Ox
open PySem PySem.Spec PyProof.Rows L2
theorem relO_one {f g : Str} {v : V} {v' : Value} (r : RelV v v') : RelO (List.lookup g [(f, v)]) (if g = f then some v' else none) := by
  by_cases hw : g = f
  · subst hw; rw [if_pos rfl, show List.lookup g [(g, v)] = some v by simp [List.lookup]]; exact r
  · rw [if_neg hw, show List.lookup g [(f, v)] = none by simp [List.lookup, show (g == f) = false by simpa using hw]]; trivial
section
variable {X : Cx} {C fI : Addr} {f qual : Str} {B newId : String} {bm : List Value}
/-- C(e), C an exception class of one's own with a field f, made to be raised -/
def tOi (C : Addr) (f : Str) (ta : TA) : L2.St → Hp → XK → Prop := fun σ H Q => ta σ H fun vs H1 => ∃ v, vs = [v] ∧ ∀ d, H1 d = none → Q (.ref C) (some d) (upd H1 d (.xd [(f, v)]))
theorem pmk_oi {a : Expr} {ta : TA} {p pos : Pos} {k : Nat} {x : Str} (T : PySem.Mk0.OTxt X.K C fI f qual B newId bm) (gC : X.mg x = some (.ref C)) (hr : Room k X.A) (ha : PA X [a] ta) (hg : Gl X x := by rfl) (hdb : (x == ("__debug__" : Str)) = false := by decide)
    (he : starEach (a :: []) X.env = (false, eval a X.env) :: starEach [] X.env := by rfl) (hpl : (backTo pos (starEach [] X.env)).any (·.1) = false := by rfl) : L2N.PMk X (.Call (.Name x p) [a] [] pos) (tOi C f ta) := by
  intro pins s σ H Q I h; refine wpAny_Call_Name_kw (ld_glob I hg gC ?_ hdb)
  refine PySem.W.callWith_K (h₀ := X.base) I.ok.mod.kin T.kC (thn (ha.run pos pins s σ H _ I h) fun us s1 ⟨vs, H1, I1, r1, v, ev, q1⟩ => ?_) he hpl
  subst ev; refine ⟨I1.kIn, ?_⟩; obtain ⟨v', e', rv⟩ := vals1 r1; subst e'
  · show wpAny _ _ (call (.ref C) [v']) _ _ _; have hlim := I1.nolimit; obtain ⟨hp, g, dr, tk, os⟩ := s1
    refine wpAny_call (PySem.Mk0.o_made T I1.kIn hlim (by have := hr.dp; omega) fun h' tk' e d M => ?_)
    show L2N.MkP X pins σ Q (.ref e) ⟨h', g, dr, tk', os⟩
    obtain ⟨t1, hoe⟩ := M.obj; have hns := M.ns; obtain ⟨G', g1, g2⟩ := restrict h' fun b => decide (b ≠ e)
    have gk : ∀ b, b ≠ e → G'.get? b = h'.get? b := fun b hb => g1 b (decide_eq_true hb); have ge : G'.get? e = none := g2 e (by simp)
    have old : ∀ b o, hp.get? b = some o → G'.get? b = some o := fun b o q => (gk b (Nat.ne_of_lt (Nat.lt_of_lt_of_le (Heap.lt_size q) M.new))).trans (M.keep b o q)
    have ob : ObjOk X.prog X.w (upd H1 d (.xd [(f, v)])) G' d (.xd [(f, v)]) := ⟨_, hns.at (fun o q => (gk d M.ne).trans q), fun g => relO_one rv⟩
    have J : Inv X pins σ (upd H1 d (.xd [(f, v)])) ⟨G', g, dr, tk', os⟩ := I1.laid (t' := tk') old M.big ob
    refine ⟨e, _, _, ⟨G', g, dr, tk', os⟩, _, .ref C, some d, rfl, J, fun b o q => ?_, ge, hoe, ⟨rfl, rfl, fun vs z => by cases z; rfl⟩, rfl, rfl, ?_, rfl, I1.bare, raises_own T.exC T.tyC, q1 d (I1.hok.fresh M.big)⟩
    · by_cases hb : b = e
      · have q' : G'.get? b = some o := q
        rw [hb, ge] at q'; cases q'
      · exact (gk b hb).symm.trans q
    · rw [upd_ne (Ne.symm M.ne)]; exact I1.hok.fresh M.new
/-- C(e) as a value -/
def tOv (C : Addr) (f : Str) (ta : TA) : TE := fun σ H Q => ta σ H fun vs H1 => ∃ v, vs = [v] ∧ ∀ e d, H1 e = none → H1 d = none → d ≠ e → Q (.ref e) (upd (upd H1 d (.xd [(f, v)])) e (exo e C (some d)))
theorem pe_ov {a : Expr} {ta : TA} {p pos : Pos} {k : Nat} {x : Str} (T : PySem.Mk0.OTxt X.K C fI f qual B newId bm) (gC : X.mg x = some (.ref C)) (hr : Room k X.A) (ha : PA X [a] ta) (hg : Gl X x := by rfl) (hdb : (x == ("__debug__" : Str)) = false := by decide)
    (he : starEach (a :: []) X.env = (false, eval a X.env) :: starEach [] X.env := by rfl) (hpl : (backTo pos (starEach [] X.env)).any (·.1) = false := by rfl) : PE X (.Call (.Name x p) [a] [] pos) (tOv C f ta) := by
  refine ⟨fun pins s σ H Q I h => ?_⟩; refine wpAny_Call_Name_kw (ld_glob I hg gC ?_ hdb)
  refine PySem.W.callWith_K (h₀ := X.base) I.ok.mod.kin T.kC (thn (ha.run pos pins s σ H _ I h) fun us s1 ⟨vs, H1, I1, r1, v, ev, q1⟩ => ?_) he hpl
  subst ev; refine ⟨I1.kIn, ?_⟩; obtain ⟨v', e', rv⟩ := vals1 r1; subst e'
  · show wpAny _ _ (call (.ref C) [v']) _ _ _; have hlim := I1.nolimit; obtain ⟨hp, g, dr, tk, os⟩ := s1
    refine wpAny_call (PySem.Mk0.o_made T I1.kIn hlim (by have := hr.dp; omega) fun h' tk' e d M => ?_)
    show EP X pins σ Q (.ref e) ⟨h', g, dr, tk', os⟩
    obtain ⟨t1, hoe⟩ := M.obj; have hns := M.ns; have he1 : H1 e = none := I1.hok.fresh M.new; have hd1 : H1 d = none := I1.hok.fresh M.big
    have ob : ObjOk X.prog X.w (upd H1 d (.xd [(f, v)])) h' d (.xd [(f, v)]) := ⟨_, hns, fun g => relO_one rv⟩
    have J0 : Inv X pins σ (upd H1 d (.xd [(f, v)])) ⟨h', g, dr, tk', os⟩ := I1.laid (t' := tk') M.keep M.big ob
    have he2 : upd H1 d (.xd [(f, v)]) e = none := by (rw [upd_ne (Ne.symm M.ne)]; exact he1)
    -- e itself: a new object beside d
    have nod : ∀ {b : Addr} {o : Obj}, hp.get? b = some o → b ≠ e ∧ b ≠ d := fun q => ⟨Nat.ne_of_lt (Nat.lt_of_lt_of_le (Heap.lt_size q) M.new), Nat.ne_of_lt (Nat.lt_of_lt_of_le (Heap.lt_size q) M.big)⟩
    have U : Un X.fs [] H1 (upd (upd H1 d (.xd [(f, v)])) e (exo e C (some d))) hp h' := ⟨fun b o q n _ _ => M.keep b o q, fun b o q n _ _ => ⟨o.slots, M.keep b o q⟩, fun b o q n _ => by (rw [upd_ne (nod q).1, upd_ne (nod q).2]; exact n), fun b o q _ => ⟨o, M.keep b o q⟩,
      fun b xs q => by (rw [upd_ne (ne_of_none q he1), upd_ne (ne_of_none q hd1)]; exact q), fun b o u q => by (rw [upd_ne (ne_of_none q he1), upd_ne (ne_of_none q hd1)]; exact q), fun b ps q => ⟨#[], by (rw [upd_ne (ne_of_none q he1), upd_ne (ne_of_none q hd1), q]; simp)⟩⟩
    have ok2 : HOk X.prog X.w (upd (upd H1 d (.xd [(f, v)])) e (exo e C (some d))) h' := fun b o q => by
      by_cases hb : b = e
      · subst hb; rw [upd_same] at q; cases q; exact exo_ok hoe
      · rw [upd_ne hb] at q
        exact (J0.hok b o q).stay (fun c u hc z => z) (fun c hc => by (rw [upd_ne (ne_of_none hc he2)]; exact hc)) fun c xs hc => by (rw [upd_ne (ne_of_none hc he2)]; exact hc)
    exact ⟨.ref e, _, I1.un (t' := tk') U ok2, rfl, q1 e d he1 hd1 M.ne⟩
/-- e.f of an exception that is held as a value -/
def tXv (C : Addr) (f : Str) (te : TE) : TE := fun σ H Q => te σ H fun x H1 => ∃ (a d : Addr) (v : V), x = .ref a ∧ H1 a = some (exo a C (some d)) ∧ H1 d = some (.xd [(f, v)]) ∧ Q v H1
theorem pe_xv {e : Expr} {te : TE} {pos : Pos} (T : PySem.Mk0.OTxt X.K C fI f qual B newId bm) (he : PE X e te) (hb : attributeBase e f X.env (eval e X.env) = eval e X.env := by rfl) : PE X (.Attribute e f pos) (tXv C f te) := by
  refine ⟨fun pins s σ H Q I h => ?_⟩; refine attr_of hb (thn (he.run pins s σ H _ I h) fun u s1 ⟨x, H1, I1, rx, a, d, v, ex, ea, ed, q⟩ => ?_)
  subst ex; obtain rfl : u = Value.ref a := rx; obtain ⟨t1, ha⟩ := exo_at I1.hok ea
  have hx : ObjOk X.prog X.w H1 s1.heap d (.xd [(f, v)]) := I1.hok d _ ed; obtain ⟨mA, hns, hr⟩ := hx; obtain ⟨od, ho, hl⟩ := lookIn_ns hns
  obtain ⟨u, hu, ru⟩ := RelO.some_of (v := v) (o := mA f) (by have z := hr f; rw [show List.lookup f [(f, v)] = some v by simp [List.lookup]] at z; exact z)
  have J : PySem.W.InstAt s1.heap a _ C (some od) := ⟨ha, rfl, rfl, ho⟩
  exact HandSPX.exc_get I1.kIn J T.ga T.gg T.exC (PySem.W.findObj_own T.hdC T.noN rfl (by (rw [hl, hu]))) (handed_of ru) ⟨v, H1, I1.tok _, ru, q⟩
end
end Ox

namespace Ox
open PySem PySem.Spec PyProof.Rows L2
/-- behind an except suite the slot of its name is empty -/
abbrev gone (i : Nat) (D : Ends) : Ends := { nx := fun σ' H' => D.nx (σ'.set i none) H', rt := D.rt, bk := fun σ' H' => D.bk (σ'.set i none) H', ct := fun σ' H' => D.ct (σ'.set i none) H' }
/-- what several clauses, all with a name in the slot i, wish of an exception -/
def wAll (K : PySem.W.Frag) (i : Nat) (Wout : WX) (D : Ends) : List (Value × (Addr → Value → Option Addr → TS)) → WX
  | [] => Wout
  | (c, ts) :: r => fun cls d σ H => ∃ b, PySem.W.exmOne K cls c = some b ∧ (b = true → ∀ a, H a = none → ts a cls d (gone i D) (σ.set i (some (.ref a))) H) ∧ (b = false → wAll K i Wout D r cls d σ H)
inductive Clauses (X : Cx) (n : Str) : List ExceptHandler → List (Value × (Addr → Value → Option Addr → TS)) → Prop
  | nil : Clauses X n [] []
  | cons {x : Str} {c : Value} {ts : Addr → Value → Option Addr → TS} {b₀ : Stmt} {su : List Stmt} {np pos' : Pos} {hds : List ExceptHandler} {l : List (Value × (Addr → Value → Option Addr → TS))} (hc : Names X x c)
      (hsu : ∀ (a : Addr) (oe : Obj) (cls : Value) (d : Option Addr) (pn : List (Addr × Obj)), L2N.Zn cls d oe → (∃ vs, oe.data = .fields vs) → PSs (X.suite a ((a, oe) :: pn)) (b₀ :: su) (ts a cls d)) (r : Clauses X n hds l) : Clauses X n (.ExceptHandler (some (.Name x np)) (some n) (b₀ :: su) pos' :: hds) ((c, ts) :: l)
section
variable {X : Cx} {n : Str} {i : Nat} {body : List Stmt} {h₀ : ExceptHandler} {hds : List ExceptHandler} {l : List (Value × (Addr → Value → Option Addr → TS))} {pos : Pos} {tb : WX → TS} {Wout : WX}
theorem ps_try_all (hs : X.stack = X.env :: X.outer) (hf : X.env.frame = some X.env.locals) (hN : X.N.Nodup) (hi : X.N[i]? = some n) (hln : X.env.kindOf n = some .local) (tk : L2N.Takes X Wout)
    (hb : ∀ (W : WX) (pn : List (Addr × Obj)) (xe : Value → Shared → Prop), L2N.Takes (X.tr pn xe) W → PassesOwn (model X.prog X.w) X.A X.env xe → PSs (X.tr pn xe) body (tb W))
    (hh : Clauses X n (h₀ :: hds) l) : PS X (.Try body (h₀ :: hds) [] [] pos) (fun D σ H => tb (wAll X.K i Wout D l) D σ H) := by
  refine ⟨fun pins s σ H D I h => ?_⟩; have ok := I.ok; have hfr : X.A.frames = some (X.env :: X.outer) := by (rw [ok.frames, hs])
  have hloc : Loc X.env.scope n := .inl hln; refine wpAny_Try_except ?_
  refine wpAny_mono ((hb (wAll X.K i Wout D l) (X.pn ++ pins) (fun e s₁ => wpAny (model X.prog X.w) X.A (noteFrame e X.env) (fun _ s₂ => wpAny (model X.prog X.w) X.A (setFlight e none) (fun _ s₃ => wpAny (model X.prog X.w) X.A (handleBy e X.env (h₀ :: hds)) (SP X pins D) X.xe s₃) X.xe s₂) X.xe s₁)
    (fun u s' xx => ?_) PassesOwn.looking).run [] s σ H D (I.toTry _) h) (fun fl s1 hsp => ?_) (fun e s1 he => he)
  · obtain ⟨a, B, sI, pins', σ', H', cls, d, rfl, J', nb, up, sky, na, os, ag, w⟩ := xx; have J : Inv X pins σ' H' sI := J'.ofTry ok
    have sky' : Sky B (X.env :: X.outer) a (L2N.Zn cls d) X.env.locals s'.heap := by (rw [← hs]; exact sky)
    show wpAny (model X.prog X.w) X.A (noteFrame (.ref a) X.env) _ _ _; refine L2N.Sky.land L2N.Zn.steady hfr hf sky' fun h3 fl3 up3 => ?_
    have J3 : Inv X pins σ' H' { s' with heap := h3 } := J.landed nb fl3.1 (up.trans up3) os ag; obtain ⟨oe3, vs3, he3, hz3, hd3⟩ := fl3.there
    have nfr : a ∉ frs (X.env :: X.outer) := fun hm => by
      obtain ⟨_, o', e', hnf⟩ := fl3.2.2.1.mem hm
      rw [he3] at e'; cases e'; exact hnf _ hd3
    have nL : a ≠ X.env.locals := fun z => nfr (List.mem_filterMap.mpr ⟨X.env, List.mem_cons_self, by (rw [hf, z])⟩)
    have nF : a ∉ X.fs := fun hm => by
      obtain ⟨e, he, q⟩ := List.mem_filterMap.mp hm
      exact nfr (List.mem_filterMap.mpr ⟨e, List.mem_cons_of_mem _ he, q⟩)
    have S3 := J3.suite he3 hd3 na nL nF
    have LT : PySem.W.Looks (model X.prog X.w) h3 (typeOf (.ref a)) cls := fun A Q E s k q => wpAny_typeOf_ref (k _ _ he3) (by (rw [hz3.1]; exact q))
    have go : ∀ {hds' : List ExceptHandler} {l' : List (Value × (Addr → Value → Option Addr → TS))}, Clauses X n hds' l' → wAll X.K i Wout D l' cls d σ' H' → wpAny (model X.prog X.w) X.A (handleBy (.ref a) X.env hds') (SP X pins D) X.xe { s' with heap := h3 } := by
      intro hds' l' hk
      induction hk with
      | nil =>
        intro w; refine wpAny_handleBy_nil ?_; obtain ⟨k1, k2, k3, oe, vs, T, oT, ts', he, hz, hd, h1, hr⟩ := id fl3; unfold PySem.passOn
        refine wpAny_bind (wpAny_field he hd h1 ?_); rw [if_neg (show ¬ ((Value.ref T == Value.none) = true) from by simp)]
        have fin : wpAny (model X.prog X.w) X.A (setFlight (.ref a) X.env.frame) (fun _ s4 => wpAny (model X.prog X.w) X.A (throw (.ref a) : Sem Flow) (SP X pins D) X.xe s4) X.xe { s' with heap := h3 } := by
          rw [hf]; refine PySem.HandSPX.setFlight_upZ fl3 fun h4 hh4 up4 => wpAny_throw (tk _ _ ?_)
          exact ⟨a, B, sI, pins, σ', H', cls, d, rfl, J, nb, (up.trans up3).trans up4, .inr (.inr (by (rw [hs]; exact hh4))), na, os, ag, w⟩
        first | exact wpAny_bind (wpAny_pure (wpAny_bind fin)) | exact wpAny_bind fin
      | @cons x c ts b₀ su np pos' hds2 l2 hc hsu r ih =>
        intro w; obtain ⟨b, hb1, hyes, hno⟩ := w; refine wpAny_handleBy_cons (codeAny_handlers_test ?_) (by intro q; cases q)
        have LM := PySem.W.exm_one (M := model X.prog X.w) (J3.kIn) LT hb1
        have test : ∀ {Q : Value → Shared → Prop} {E : Value → Shared → Prop}, Q c { s' with heap := h3 } → wpAny (model X.prog X.w) (X.A.mark (some (.ref a))) (eval (.Name x np) X.env) Q E { s' with heap := h3 } := fun {Q E} q => by
          obtain ⟨hg, hdbg, hm | ⟨hm, hv, hnn⟩⟩ := hc
          · exact ld_glob (X := X.suite a ((a, oe3) :: (X.pn ++ pins))) S3 hg hm q hdbg
          · exact ld_blt (X := X.suite a ((a, oe3) :: (X.pn ++ pins))) S3 hg hm hv q hnn hdbg
        refine test (LM.here ?_)
        cases b with
        | false => show wpAny _ X.A (handleBy (.ref a) X.env hds2) _ _ _; exact ih (hno rfl)
        | true =>
          refine codeAny_handlers_suite_as ?_; refine PySem.HandSPX.lands_againZ fl3 fun h4 fl4 up4 => ?_
          have J4 : Inv X pins σ' H' { s' with heap := h4 } := J.landed nb fl4.1 ((up.trans up3).trans up4) os ag; obtain ⟨oe4, vs4, he4, hz4, hd4⟩ := fl4.there
          have S4 := J4.suite he4 hd4 na nL nF; refine store_ok (X := X.suite a ((a, oe4) :: (X.pn ++ pins))) (v := .ref a) S4 hN hi hloc rfl (fun s5 S5 => ?_) (.inr hln)
          refine wpAny_mono ((hsu a oe4 cls d (X.pn ++ pins) hz4 ⟨_, hd4⟩).run [] s5 _ H' _ S5 (hyes rfl a na)) (fun fl s6 hsp => ?_) (fun _ _ z => False.elim z)
          have end_ : ∀ {σ6 : L2.St} {H6 : Hp} {Q : Shared → Prop}, Inv (X.suite a ((a, oe4) :: (X.pn ++ pins))) [] σ6 H6 s6 → (∀ s7, Inv X pins (σ6.set i none) H6 s7 → Q s7) →
              wpAny (model X.prog X.w) X.A (do bindName X.env n .none; unbindBehindTheSuite X.env n pos') (fun _ s7 => Q s7) X.xe s6 := fun {σ6 H6 Q} S6 hq => gone_ok (S6.unsuite ok) hN hi hln hq
          cases fl with
          | next => obtain ⟨σ6, H6, S6, q6⟩ := hsp; exact end_ S6 fun s7 J7 => ⟨_, _, J7, q6⟩
          | brk => obtain ⟨σ6, H6, S6, q6⟩ := hsp; exact end_ S6 fun s7 J7 => ⟨_, _, J7, q6⟩
          | cont => obtain ⟨σ6, H6, S6, q6⟩ := hsp; exact end_ S6 fun s7 J7 => ⟨_, _, J7, q6⟩
          | ret u => obtain ⟨v6, σ6, H6, S6, r6, q6⟩ := hsp; exact end_ S6 fun s7 J7 => ⟨_, _, _, J7, r6, q6⟩
    exact go hh w
  · cases fl with
    | next => obtain ⟨σ', H', J', q⟩ := hsp; exact wpAny_execs_nil ⟨σ', H', J'.ofTry ok, q⟩
    | brk => obtain ⟨σ', H', J', q⟩ := hsp; exact ⟨σ', H', J'.ofTry ok, q⟩
    | cont => obtain ⟨σ', H', J', q⟩ := hsp; exact ⟨σ', H', J'.ofTry ok, q⟩
    | ret u => obtain ⟨v, σ', H', J', r, q⟩ := hsp; exact ⟨v, σ', H', J'.ofTry ok, r, q⟩
end
end Ox

namespace Ox
open PySem PySem.Spec PyProof.Rows L2
/-- isinstance(a, c), a an exception that is pinned, of the class at D, with the dict d -/
def rIsP (K : PySem.W.Frag) (D a : Addr) (d : Option Addr) : List V → Hp → VK → Prop := fun xs H Q => ∃ (c : V) (cv : Value) (b : Bool), xs = [.ref a, c] ∧ (∀ u, RelV c u → u = cv) ∧ PySem.W.kitOne K (.ref D) cv = some b ∧ (∀ dd, d = some dd → ∃ fs, H dd = some (.xd fs)) ∧ Q (.bl b) H
theorem call_isP {X : Cx} {a D : Addr} {oe : Obj} {d : Option Addr} (C : ExcC X.K D) (hp : (a, oe) ∈ X.pn) (hz : Zc (.ref D) d oe) (hf : ∃ vs, oe.data = .fields vs) : CallR X (.builtin "isinstance") (rIsP X.K D a d) := by
  intro pins s σ H xs us Q I r h; obtain ⟨c, cv, b, rfl, hcv, e, hd, q⟩ := h; obtain ⟨u1, u2, rfl, r1, r2⟩ := vals2 r
  cases (show u1 = Value.ref a from r1); have ec := hcv _ r2; subst ec; obtain ⟨hget, _⟩ := I.pin (a, oe) (List.mem_append.mpr (.inl hp)); obtain ⟨vs, hv⟩ := hf
  have hcl : (PySem.W.clsIn X.K D).isSome = true := by
    obtain ⟨cd, hc, _⟩ := PySem.W.any_some C.hd
    rw [hc]; rfl
  obtain ⟨od, J⟩ : ∃ od, PySem.W.InstAt s.heap a oe D od := by
    cases d with
    | none => exact ⟨none, hget, hz.1, by (unfold PySem.W.notCls; rw [hv] <;> rfl), by (rw [hz.2]; trivial)⟩
    | some dd =>
      obtain ⟨fs, e1⟩ := hd dd rfl; have hx : ObjOk X.prog X.w H s.heap dd (.xd fs) := I.hok dd _ e1; obtain ⟨mA, hns, hr⟩ := hx; obtain ⟨od, ho, hl⟩ := lookIn_ns hns
      exact ⟨some od, hget, hz.1, by (unfold PySem.W.notCls; rw [hv] <;> rfl), by (rw [hz.2]; exact ho)⟩
  exact PySem.W.kia_one (PySem.W.kitx_exc hcl C.hg C.hk C.hs C.ha C.hn C.ht C.hm) I.kIn J e (fun z => nomatch z) fun tk => ⟨.bl b, H, I.kept (t' := tk) fun _ _ z => z, rfl, q⟩

/-- .. where the class is told by the question -/
def rIsX (K : PySem.W.Frag) (cls : Value) (a : Addr) (d : Option Addr) : List V → Hp → VK → Prop := fun xs H Q => ∃ D, cls = .ref D ∧ ExcC K D ∧ rIsP K D a d xs H Q
theorem call_isX {X : Cx} {a : Addr} {cls : Value} {oe : Obj} {d : Option Addr} (hp : (a, oe) ∈ X.pn) (hz : Zc cls d oe) (hf : ∃ vs, oe.data = .fields vs) : CallR X (.builtin "isinstance") (rIsX X.K cls a d) := by
  intro pins s σ H xs us Q I r h; obtain ⟨D, rfl, EC, h⟩ := h
  exact call_isP EC hp hz hf pins s σ H xs us Q I r h
/-! ### a def that is handed the exception which the suite holds -/
structure FnP (P : Program) (w : World) (K : PySem.W.Frag) (mg : Str → Option Value) (base : Heap) (CX : CXT) (k : Nat) (f : Addr) (fd : FuncData) (ps : List Str) (sp : Addr → Value → Option Addr → Sp) : Prop where
  len : ∀ a cls d vs H Q E, sp a cls d vs H Q E → vs.length = ps.length
  run : ∀ (p : Addr × Obj) (cls : Value) (d : Option Addr), Zc cls d p.2 → (∃ vs, p.2.data = .fields vs) → ∀ (A : Around) (outer : List Env) (s : Shared) (H : Hp) (args : Args) (us : List Value) (vs : List V) (Q : VK) (E : XK), L2H.RoomH k A → L2H.PinOk outer H s p → Env0 P w K mg base A outer s H → BindsTo s fd args (ps.zip us) → Vals vs us → sp p.1 cls d vs H Q E →
    codeAny (model P w) A (.call (.ref f) args) (CR CX outer P w H s Q E) s
theorem fn_ofP {CX : CXT} {P : Program} {w : World} {K : PySem.W.Frag} {mg : Str → Option Value} {base : Heap} {k : Nat} {f : Addr} {name qual : Str} {params : Arguments} {body : List Stmt} {scope : Scope} {dV kV doc pm cdv ct oc : Value} {an od : Option Addr} {osl : Array (Option Value)} {N ps : List Str} {sp : Addr → Value → Option Addr → Sp}
    (lk : K.lookup f = some ⟨oc, od, .func (PySem.W.fnOf name qual params body scope dV kV doc pm an cdv ct), osl⟩) (hcd : PySem.W.codeIn K cdv qual = true) (S : FnScope N ps scope) (len : ∀ a cls d vs H Q E, sp a cls d vs H Q E → vs.length = ps.length)
    (hbody : ∀ (p : Addr × Obj) (cls : Value) (d : Option Addr), Zc cls d p.2 → (∃ vs, p.2.data = .fields vs) → ∀ (A : Around) (outer : List Env) (s : Shared) (H : Hp) (vs : List V) (Q : VK) (E : XK), L2H.RoomH k (A.deeper (envOfC qual scope s.heap.objs.size f cdv)) → sp p.1 cls d vs H Q E →
      ∃ t, PSs (L2H.cxH CX P w K mg base N qual scope f cdv A outer s H E p) body t ∧ t { nx := fun _ H' => Q .non H', rt := Q } (L2.start N vs) H) : FnP P w K mg base CX (k + 1) f (PySem.W.fnOf name qual params body scope dV kV doc pm an cdv ct) ps sp := by
  refine ⟨len, fun p cls d hz hf A outer s H args us vs Q E hr hpin e0 hb r hsp => ?_⟩; have hl := len _ _ _ _ _ _ _ hsp
  have KX : K.In s.heap := e0.mod.kin.keeps fun b o e => (e0.bs b o e).1; have lim : s.heap.NoLimit := e0.mod.nolimit.keeps fun b o e => (e0.bs b o e).1
  have hkind : ∀ y ∈ ps.zip us, scope.names.lookup y.1 = some .local ∨ (scope.names.lookup y.1 = some .cell ∧ ((cellsFrom (s.heap.objs.size + 1) scope.names []).lookup y.1).isSome = true) := fun ⟨n, v⟩ hy => (S.par n (List.of_mem_zip hy).1).elim .inl fun q => .inr ⟨q, PySem.W.cellsFrom_some _ _ _ (.inl q)⟩
  refine codeAny_call_function hr.depth (KX _ _ lk) rfl S.co S.gen rfl (PySem.W.codeRec_of KX hcd) (hb _ _ _ _ ?_); refine wpAny_newFunctionEnv_cells S.kind hkind fun env he s1 x => ?_
  subst he; refine ⟨lim.keeps x.toInCall.keep, codeAny_func ?_⟩; obtain ⟨t, ht, hq⟩ := hbody p cls d hz hf A outer s H vs Q E (hr.deeper _) hsp
  have I : Inv (L2H.cxH CX P w K mg base N qual scope f cdv A outer s H E p) [] (L2.start N vs) H s1 := L2H.inv_startH S hpin e0 hl r x
  refine wpAny_mono (ht.run [] s1 (L2.start N vs) H _ I hq) (fun fl s' hs => ?_) fun e s' hs => hs
  have fin : ∀ {σ' : L2.St} {H' : Hp} {v : V} {u : Value}, Inv (L2H.cxH CX P w K mg base N qual scope f cdv A outer s H E p) [] σ' H' s' → RelV v u → Q v H' → CE outer P w H s Q u s' := fun {σ' H' v u} J rv q => ⟨v, H', J.os, J.bare, J.base, J.hok, rv, q⟩
  cases fl with
  | ret u => obtain ⟨v, σ', H', J, rv, q⟩ := hs; exact fin J rv q
  | next => obtain ⟨σ', H', J, q⟩ := hs; exact fin (v := V.non) (u := Value.none) J rfl q
  | brk => obtain ⟨_, _, _, q⟩ := hs; exact False.elim q
  | cont => obtain ⟨_, _, _, q⟩ := hs; exact False.elim q
theorem _root_.L2.Fun.okP {P : Program} {w : World} {K : PySem.W.Frag} {mg : Str → Option Value} {base : Heap} {x qual : Str} {st : Stmt} {f : Addr} {fd : FuncData} {N ps : List Str} {k : Nat} {sp : Addr → Value → Option Addr → Sp} (F : Fun K x qual st f fd) (S : FnScope N ps (defScope st)) (len : ∀ a cls d vs H Q E, sp a cls d vs H Q E → vs.length = ps.length)
    (hbody : ∀ (cdv : Value) (p : Addr × Obj) (cls : Value) (d : Option Addr), Zc cls d p.2 → (∃ vs, p.2.data = .fields vs) → ∀ (A : Around) (outer : List Env) (s : Shared) (H : Hp) (vs : List V) (Q : VK) (E : XK), L2H.RoomH k (A.deeper (envOfC qual (defScope st) s.heap.objs.size f cdv)) → sp p.1 cls d vs H Q E →
      ∃ t, PSs (L2H.cxH CX0 P w K mg base N qual (defScope st) f cdv A outer s H E p) (defBody st) t ∧ t { nx := fun _ H' => Q .non H', rt := Q } (L2.start N vs) H) : FnP P w K mg base CX0 (k + 1) f fd ps sp := by
  obtain ⟨oc, od, kV, doc, pm, an, cdv, ct, osl, rfl, lk, hcd⟩ := F.ex
  exact fn_ofP lk hcd S len fun p cls d hz hf A outer s H vs Q E hr h => hbody cdv p cls d hz hf A outer s H vs Q E hr h
section
variable {X : Cx} {k : Nat} {f : Addr} {fd : FuncData} {ps : List Str} {sp : Addr → Value → Option Addr → Sp} {x : Str} {p q pos : Pos} {e : Expr} {es : List Expr} {t : TA}
def tCallP (sp : Addr → Value → Option Addr → Sp) (a : Addr) (cls : Value) (d : Option Addr) (t : TA) : TE := fun σ H Q => t σ H fun vs H1 => sp a cls d vs H1 Q E0
theorem pe_callP {pn : Addr × Obj} {cls : Value} {d : Option Addr} (hz : Zc cls d pn.2) (hf : ∃ vs, pn.2.data = .fields vs) (F : FnP X.prog X.w X.K X.mg X.base CX0 k f fd ps sp) (hr : L2H.RoomH k X.A) (hp : pn ∈ X.pn) (hg : Gl X x) (hm : X.mg x = some (.ref f)) (hk : PySem.W.keepIn X.K (.ref f) = true) (hb : Binds X.K fd ps [])
    (ha : PA X (e :: es) t) (hdb : (x == ("__debug__" : Str)) = false := by decide) (he : starEach (e :: es) X.env = (false, eval e X.env) :: starEach es X.env := by rfl) (hpl : (backTo pos (starEach es X.env)).any (·.1) = false := by rfl) : PE X (.Call (.Name x q) (e :: es) [] pos) (tCallP sp pn.1 cls d t) := by
  refine ⟨fun pins s σ H Q I h => ?_⟩; refine wpAny_Call_Name_kw (ld_glob I hg hm ?_ hdb)
  refine PySem.W.callWith_K (h₀ := X.base) I.ok.mod.kin hk (thn (ha.run pos pins s σ H _ I h) fun us s1 ⟨vs, H1, I1, r, h1⟩ => ⟨I1.kIn, ?_⟩) he hpl
  have hl : us.length = ps.length := by (rw [← r.length]; exact F.len _ _ _ _ _ _ _ h1)
  have b := hb s1 us I1.kIn (by (rw [List.append_nil]; exact hl)); rw [List.append_nil] at b
  have P1 := I1.pin pn (List.mem_append_left _ hp); have hpin : L2H.PinOk X.stack H1 s1 pn := ⟨P1.1, P1.2.1, fun hm => (List.mem_cons.mp (I1.stkSub pn.1 hm)).elim P1.2.2.1 P1.2.2.2.1, P1.2.2.2.2⟩
  refine wpAny_call (codeAny_mono (F.run pn cls d hz hf X.A X.stack s1 H1 ⟨us, []⟩ us vs Q E0 hr hpin I1.env0 b r h1) fun r s' hq => ?_)
  cases r with
  | error e => exact False.elim hq
  | ok fl =>
    cases fl with
    | ret u => exact I1.after hq
    | next => exact False.elim hq
    | brk => exact False.elim hq
    | cont => exact False.elim hq
end
end Ox

namespace Ox
open PySem PySem.Spec PyProof.Rows L2 L2H
/-- a comprehension's block within an except suite: the pins stay -/
abbrev blkP (X : Cx) (s : Shared) (H : Hp) (scope : Scope) (cenv : Env) (fp : List Addr) : Cx := { X.blk s H scope cenv fp with pn := X.pn }
theorem okP {X : Cx} {s : Shared} {H : Hp} {scope : Scope} {cenv : Env} {fp : List Addr} (ok : (X.blk s H scope cenv fp).Ok) : (blkP X s H scope cenv fp).Ok :=
  ⟨ok.mod, ok.kind, ok.glob, ok.blt, ok.above, ok.inj, ok.has, ok.cab, ok.hd, ok.frames, ok.stk, ok.exf, ok.bs, ok.bsz, ok.noex, ok.exfs, ok.funs, ok.frf⟩
theorem blkP_start {X : Cx} {pins : List (Addr × Obj)} {σ σ' : L2.St} {H H0 H' : Hp} {s s' sb : Shared} {scope : Scope} {cenv : Env} {fp : List Addr} (I : Inv X pins σ H s) (hk : ∀ b o, s.heap.get? b = some o → H b = none → s'.heap.get? b = some o ∧ H' b = none) (hL : cenv.locals = s.heap.objs.size)
    (J : Inv (X.blk sb H0 scope cenv fp) [] σ' H' s') : Inv (blkP X sb H0 scope cenv fp) [] σ' H' s' := by
  refine ⟨okP J.ok, J.os, J.bare, J.base, J.loc, J.cell, J.free, J.freeC, fun p hp => ?_, J.hok, J.len⟩
  have hp' : p ∈ X.pn := by simpa using hp
  obtain ⟨e, n, ne, nf, d⟩ := I.pin p (List.mem_append_left _ hp'); obtain ⟨e2, n2⟩ := hk _ _ e n
  refine ⟨e2, n2, fun z => ?_, fun hm => (List.mem_cons.mp (I.stkSub p.1 hm)).elim ne nf, d⟩
  have z' : p.1 = cenv.locals := z; rw [hL] at z'; exact absurd (Heap.lt_size e) (by (rw [z']; exact Nat.lt_irrefl _))
section
variable {X : Cx}
theorem lc_hot {pins : List (Addr × Obj)} {s : Shared} {σ : L2.St} {H : Hp} {Q : VK} {elt tg iter : Expr} {ifs : List Expr} {scope : Scope} {own : List (Str × Nat)} {pos pos' : Pos} {wi : TI} {g : TG} {tt : TT} {te : TE} {use : Option (Value → Sem Unit)} {Qf : Value → Shared → Prop}
    (hc : HotC X) (hN : X.N.Nodup) (I : Inv X pins σ H s) (hi : PIH X tg iter wi) (ok : BlkOk X.N X.env.scope scope own)
    (hg : ∀ (s : Shared) (H : Hp) (C : Addr) (cl : List (Str × Addr)) (fp : List Addr), PG (blkP X s H scope (compEnvC scope cl C X.env) fp) tg g) (ht : ∀ (s : Shared) (H : Hp) (C : Addr) (cl : List (Str × Addr)) (fp : List Addr), PTs (blkP X s H scope (compEnvC scope cl C X.env) fp) ifs tt)
    (he : ∀ (s : Shared) (H : Hp) (C : Addr) (cl : List (Str × Addr)) (fp : List Addr), PE (blkP X s H scope (compEnvC scope cl C X.env) fp) elt te) (hs : ∀ x, foldedSetIterable iter X.env x = pure x) (h : tLc wi g tt te (own.map (·.2)) σ H Q)
    (hRR : ∀ D C s' m H', Inv X pins σ H' s' → Q (.ref D) H' → s'.heap.Ns C m → FpOk X pins H' C → compPost (model X.prog X.w) X.A X.xe use Qf (.ref D) C (.ok .next) s') :
    wpAny (model X.prog X.w) X.A (comprehension (.ListComp elt [⟨tg, iter, ifs, 0⟩] scope pos) scope X.env pos' (newList []) false (eval iter X.env) use) Qf X.xe s := by
  have hfree : ∀ y ∈ scope.names, y.2 = .free → ∃ c, X.env.cells.lookup y.1 = some c := fun y hy e => (ok.free y hy e).elim (fun k => I.ok.has _ (.inl k)) fun k => I.ok.has _ (.inr k)
  refine wpAny_comprehension_free (use := use) rfl hs (closure_ok hfree) ok.kind (fun y hy e => by (rw [ok.uniq y hy, e])) (thn (hi.run pins s σ H _ I h) fun xv s1 hx => thn hx fun itv s2 h2 => ?_)
  obtain ⟨it, fp, tn, J, H2, e, I2, T, st2, f2, q⟩ := h2; subst e; refine wpAny_newObj_type (newEnv_comp ?_) (by (show 0 ≤ sizeLine; decide))
  generalize hD : s2.heap.objs.size = D; have hDn : H2 D = none := I2.hok.fresh (Nat.le_of_eq hD); obtain ⟨W, ⟨m0, w0⟩, turn⟩ := q D hDn
  generalize hs3 : ({ s2 with heap := s2.heap.push { cls := .type "list", data := .seq ([] : List Value).toArray } } : Shared) = s3
  have I3 : Inv X pins σ (upd H2 D (.lst [])) s3 := by
    rw [← hs3]; refine I2.laid (t' := s2.toks) (fun b o e => Heap.get?_push_of_some _ e) (Nat.le_of_eq hD) ⟨Nat.zero_le _, [], 0, .nil, ?_⟩
    rw [← hD]; exact Heap.get?_push_size _ rfl
  have h3 : s3.heap = s2.heap.push { cls := .type "list", data := .seq ([] : List Value).toArray } := by (rw [← hs3])
  have sz : ∀ b ∈ fp, b < s2.heap.objs.size := fun b hb => by
    obtain ⟨o, e, _⟩ := T.obj _ _ st2 b hb; exact Heap.lt_size e
  have f3 : ∀ b ∈ fp, FpOk X pins (upd H2 D (.lst [])) b ∧ b < s3.heap.objs.size := fun b hb => by
    have hlt := sz b hb; refine ⟨⟨?_, (f2 b hb).2⟩, by (rw [h3, Heap.size_push]; exact Nat.lt_succ_of_lt hlt)⟩
    rw [upd_ne (by (rw [← hD]; exact Nat.ne_of_lt hlt))]; exact (f2 b hb).1
  have st3 : tn 0 s3.heap := T.keep _ _ _ st2 fun b _ o e => by (rw [h3]; exact Heap.get?_push_of_some _ e)
  have I4 := block_start I3 ok hN f3
  have pg := hg s3 (upd H2 D (.lst [])) s3.heap.objs.size (cellsFrom (s3.heap.objs.size + 1) scope.names (cloFrom X.env.cells scope.names [])) fp
  have pt := ht s3 (upd H2 D (.lst [])) s3.heap.objs.size (cellsFrom (s3.heap.objs.size + 1) scope.names (cloFrom X.env.cells scope.names [])) fp
  have pe := he s3 (upd H2 D (.lst [])) s3.heap.objs.size (cellsFrom (s3.heap.objs.size + 1) scope.names (cloFrom X.env.cells scope.names [])) fp
  show codeAny _ _ (.compStart (.ListComp elt [⟨tg, iter, ifs, 0⟩] scope pos) 0 (.ref it) (.ref D) (compEnvC scope (cellsFrom (s3.heap.objs.size + 1) scope.names (cloFrom X.env.cells scope.names [])) s3.heap.objs.size X.env)) (compPost (model X.prog X.w) X.A X.xe use Qf (.ref D) s3.heap.objs.size) { s3 with heap := pushCells (s3.heap.push { cls := .type "dict", data := .dict #[] }) scope.names }
  have nfp : ∀ b ∈ fp, (upd H2 D (.lst [])) b = none := fun b hb => (f3 b hb).1.1
  generalize hce : compEnvC scope (cellsFrom (s3.heap.objs.size + 1) scope.names (cloFrom X.env.cells scope.names [])) s3.heap.objs.size X.env = ce at I4 pg pt pe ⊢
  have cL : ce.locals = s3.heap.objs.size := by (subst hce; rfl)
  generalize hH3 : upd H2 D (.lst []) = H3 at I3 I4 pg pt pe w0 nfp f3; have keep4 : ∀ b o, s3.heap.get? b = some o → (pushCells (s3.heap.push { cls := .type "dict", data := .dict #[] }) scope.names).get? b = some o := fun b o e => pushCells_keeps _ _ _ _ (Heap.get?_push_of_some _ e)
  generalize hs4 : ({ s3 with heap := pushCells (s3.heap.push { cls := .type "dict", data := .dict #[] }) scope.names } : Shared) = s4 at I4 ⊢
  have I4 : Inv (blkP X s3 H3 scope ce fp) [] (wipe σ (own.map (·.2))) H3 s4 := blkP_start I3 (fun b o e n => ⟨by (rw [← hs4]; exact keep4 b o e), n⟩) cL I4
  have hcB : HotC (blkP X s3 H3 scope ce fp) := hc
  have st4 : tn 0 s4.heap := T.keep _ _ _ st3 fun b _ o e => by (rw [← hs4]; exact keep4 b o e)
  have stat : ∀ {σ' : L2.St} {H' : Hp} {s' : Shared}, Inv (blkP X s3 H3 scope ce fp) [] σ' H' s' → (∀ b ∈ fp, H' b = none) → ∀ b ∈ fp, FpOk (blkP X s3 H3 scope ce fp) [] H' b := fun {σ' H' s'} I' hn b hb =>
    ⟨hn b hb, (I'.ok.exf b hb).1, I'.ok.exfs b hb, .inl hb, fun x c e => (I'.ok.exf b hb).2 x c e, fun p hp => (f3 b hb).1.2.2.2.2.2 p (List.mem_append_left _ (by simpa using hp))⟩
  have loop : codeAny (model X.prog X.w) X.A (.compLoop (.ListComp elt [⟨tg, iter, ifs, 0⟩] scope pos) 0 (.ref it) (.ref D) ce) (compPost (model X.prog X.w) X.A X.xe use Qf (.ref D) s3.heap.objs.size) s4 := by
    refine compLoop_any (fun n s' => ∃ i H', Inv (blkP X s3 H3 scope ce fp) [] (wipe σ (own.map (·.2))) H' s' ∧ tn i s'.heap ∧ (∀ b ∈ fp, H' b = none) ∧ W i n H') ?_ m0 ⟨0, H3, I4, st4, nfp, w0⟩
    rintro n s5 ⟨i, H5, I5, st5, n5, w5⟩
    rcases turn i n H5 w5 with ⟨stop, qq⟩ | ⟨go, Nx, hNx, step⟩
    · have td := T.done (blkP X s3 H3 scope ce fp) rfl rfl rfl hcB i [] s5 _ H5 (fun _ _ => False) I5 (stat I5 n5) st5 stop
      refine thnF td fun r s6 ⟨hr, I6⟩ => ?_
      subst hr; have I7 : Inv X pins σ H5 s6 := I3.call' (ch := fp) I6.os I6.base I6.hok I6.bare fun b hb => ⟨(f3 b hb).1.2.2.2.1, (f3 b hb).1.2.1, (f3 b hb).1.2.2.2.2.1, (f3 b hb).1.2.2.2.2.2⟩
      have nC : H5 s3.heap.objs.size = none := by
        have z : H5 ce.locals = none := I6.free
        rw [cL] at z; exact z
      obtain ⟨m, hn, _⟩ := I6.loc; have hn : s6.heap.Ns ce.locals m := hn; rw [cL] at hn; exact hRR D s3.heap.objs.size s6 m H5 I7 qq hn (I3.fpOk (Nat.le_refl _) nC)
    · have ti := T.item (blkP X s3 H3 scope ce fp) rfl rfl rfl hcB i [] s5 _ H5 (fun _ _ => False) I5 (stat I5 n5) st5 go
      refine thnF ti fun r s6 ⟨u, hr, h6⟩ => ?_
      subst hr; refine thnF h6 fun _ s7 ⟨x, H7, I7, r7, y7, st7, n7⟩ => ?_
      have I7' := I7.pinned (stat I7 n7) (T.obj _ _ st7); refine thnF (pg.run _ s7 _ H7 x u _ I7' r7 (step x H7 y7)) fun _ s8 ⟨σ8, H8, I8, hw8, q8⟩ => ?_
      refine thnF (pt.run _ s8 σ8 H8 _ I8 q8) fun b s9 ⟨H9, I9, q9⟩ => ?_
      have fin : ∀ {s' : Shared} {H' : Hp}, Inv (blkP X s3 H3 scope ce fp) ([] ++ pinsAt fp s7.heap) σ8 H' s' → Nx H' → ∃ m, m < n ∧ ∃ i H', Inv (blkP X s3 H3 scope ce fp) [] (wipe σ (own.map (·.2))) H' s' ∧ tn i s'.heap ∧ (∀ b ∈ fp, H' b = none) ∧ W i m H' := fun {s' H'} I' nx => by
        obtain ⟨m', hm, w'⟩ := hNx H' nx
        have pin' : ∀ b ∈ fp, ∀ o, s7.heap.get? b = some o → s'.heap.get? b = some o ∧ H' b = none := fun b hb o e => let z := I'.pin (b, o) (List.mem_append_right _ (List.mem_append_right _ (mem_pinsAt hb e))); ⟨z.1, z.2.1⟩
        have hl : (wipe σ (own.map (·.2))).length = σ8.length := by (rw [← hw8, wipe_length])
        refine ⟨m', hm, i + 1, H', (I'.unpinned (pins := [])).weak hl (fun j v e => ?_), T.keep _ _ _ st7 fun b hb o e => (pin' b hb o e).1, fun b hb => ?_, w'⟩
        · rw [← hw8] at e; exact (wipe_some e).1
        · obtain ⟨o, e, _⟩ := T.obj _ _ st7 b hb; exact (pin' b hb o e).2
      cases b with
      | false => simp only [Bool.false_eq_true, if_false] at q9 ⊢; exact fin I9 q9
      | true =>
        simp only [if_true] at q9 ⊢; refine thnF (pe.run _ s9 σ8 H9 _ I9 q9) fun z s10 ⟨yv, H10, I10, r10, acc, hD10, hz10, nx⟩ => ?_
        exact app_ok (X := blkP X s3 H3 scope ce fp) I10 hD10 hz10 r10 fun s11 I11 => fin I11 nx
  exact codeAny_compStart_list loop (T.self X.A 0 _ _ _ st4 loop)
theorem ps_setLcH {i : Nat} {y : Str} {py : Pos} {elt tg iter : Expr} {ifs : List Expr} {scope : Scope} {own : List (Str × Nat)} {pos spos : Pos} {wi : TI} {g : TG} {tt : TT} {te : TE} (hc : HotC X) (hN : X.N.Nodup) (hy : X.N[i]? = some y) (hyl : X.env.scope.names.lookup y = some .local)
    (hsw : swapsWith (.ListComp elt [⟨tg, iter, ifs, 0⟩] scope pos) (some (.Name y py)) spos.line X.env = pure true) (hi : PIH X tg iter wi) (ok : BlkOk X.N X.env.scope scope own)
    (hg : ∀ (s : Shared) (H : Hp) (C : Addr) (cl : List (Str × Addr)) (fp : List Addr), PG (blkP X s H scope (compEnvC scope cl C X.env) fp) tg g) (ht : ∀ (s : Shared) (H : Hp) (C : Addr) (cl : List (Str × Addr)) (fp : List Addr), PTs (blkP X s H scope (compEnvC scope cl C X.env) fp) ifs tt)
    (he : ∀ (s : Shared) (H : Hp) (C : Addr) (cl : List (Str × Addr)) (fp : List Addr), PE (blkP X s H scope (compEnvC scope cl C X.env) fp) elt te) (hs : ∀ x, foldedSetIterable iter X.env x = pure x := by intro _; rfl) :
    PS X (.Assign [.Name y py] (.ListComp elt [⟨tg, iter, ifs, 0⟩] scope pos) spos) (tAsg (tLc wi g tt te (own.map (·.2))) (gName i)) := by
  refine ⟨fun pins s σ H D I h => ?_⟩; rw [exec_Assign_Name_used _ _ _ _ hsw]; refine wpAny_bind (wpAny_standAt (wpAny_bind ?_))
  show wpAny _ X.A (do let _ ← comprehension (.ListComp elt [⟨tg, iter, ifs, 0⟩] scope pos) scope X.env (firstIterPos [⟨tg, iter, ifs, 0⟩] pos) (newList []) false (eval iter X.env) (some (assign (.Name y py) X.env))) _ _ s
  have h : tLc wi g tt te (own.map (·.2)) σ H (fun x H1 => gName i x σ H1 D.nx) := h
  refine wpAny_bind (thn (lc_hot (Qf := fun _ s' => SP X pins D .next s') hc hN I hi ok hg ht he hs h fun L C s' m H' I' q hn f => ?_) fun _ s' hq => wpAny_pure (wpAny_pure hq))
  show wpAny _ _ (assign (.Name y py) X.env (.ref L)) _ _ _
  refine wpAny_assign_Name (store_ok2 (v := V.ref L) I' hN hy (.inl hyl) rfl (fun s2 I2 ⟨a, sb, ha⟩ => ?_) (.inr hyl)); obtain ⟨f0, f1, f2, f3, f4, f5⟩ := f
  have haC : C ≠ a := ha.elim (fun z => by (rw [z]; exact f1)) fun z e => f4 y a z e.symm
  exact ⟨m, hn.sameBut sb haC, fun h3 sb3 => ⟨_, H', I2.turned (t' := s2.toks) (fun b o hb e => (sb3.2 b hb).trans e) f0 f1 f3 f4 f5, q⟩⟩
end
end Ox

namespace Ox
open PySem PySem.Spec PyProof.Rows L2
/-! ### data, told of the abstract heap: what is tracked alone -/
mutual
inductive Dq (H : Hp) : V → PyData → Prop
  | non : Dq H .non .none
  | bl (b : Bool) : Dq H (.bl b) (.bool b)
  | int (i : Int) : Dq H (.int i) (.int i)
  | str (x : Str) : Dq H (.str x) (.str x)
  | lst {a : Addr} {xs : List V} {ds : List PyData} : H a = some (.lst xs) → DqAll H xs ds → Dq H (.ref a) (.list ds)
  | tup {a : Addr} {xs : List V} {ds : List PyData} : H a = some (.tup xs) → DqAll H xs ds → Dq H (.ref a) (.tuple ds)
  | dct {a : Addr} {kvs : List (Key × V)} {ds : List PyData} : H a = some (.dK kvs) → DqAll H (kvs.map (·.2)) ds → Dq H (.ref a) (.dict ((kvs.map fun p => match p.1 with | .inl i => PyData.int i | .inr x => PyData.str x).zip ds))
inductive DqAll (H : Hp) : List V → List PyData → Prop
  | nil : DqAll H [] []
  | cons {v : V} {vs : List V} {d : PyData} {ds : List PyData} : Dq H v d → DqAll H vs ds → DqAll H (v :: vs) (d :: ds)
end
theorem DqAll.length {H : Hp} : ∀ {vs : List V} {ds : List PyData}, DqAll H vs ds → vs.length = ds.length
  | _, _, .nil => rfl
  | _, _, .cons _ h => congrArg (· + 1) (DqAll.length h)
mutual
theorem Dq.keeps {H H' : Hp} (k : ∀ b o, H b = some o → H' b = some o) : ∀ {v : V} {d : PyData}, Dq H v d → Dq H' v d
  | _, _, .non => .non
  | _, _, .bl b => .bl b
  | _, _, .int i => .int i
  | _, _, .str x => .str x
  | _, _, .lst h a => .lst (k _ _ h) (DqAll.keeps k a)
  | _, _, .tup h a => .tup (k _ _ h) (DqAll.keeps k a)
  | _, _, .dct h a => .dct (k _ _ h) (DqAll.keeps k a)
theorem DqAll.keeps {H H' : Hp} (k : ∀ b o, H b = some o → H' b = some o) : ∀ {vs : List V} {ds : List PyData}, DqAll H vs ds → DqAll H' vs ds
  | _, _, .nil => .nil
  | _, _, .cons h a => .cons (Dq.keeps k h) (DqAll.keeps k a)
end
theorem dq_bools {H : Hp} : ∀ bs : List Bool, DqAll H (bs.map V.bl) (bs.map PyData.bool)
  | [] => .nil
  | b :: bs => .cons (.bl b) (dq_bools bs)
theorem dq_ints {H : Hp} : ∀ bs : List Int, DqAll H (bs.map V.int) (bs.map PyData.int)
  | [] => .nil
  | b :: bs => .cons (.int b) (dq_ints bs)
section
variable {X : Cx} {pins : List (Addr × Obj)} {σ : L2.St} {H : Hp} {s : Shared}
theorem reads_keys {P : Program} {w : World} {h : Heap} : ∀ {kvs : List (Key × V)} {vs : List (Key × Value)} {es : List DictEntry}, KV kvs vs → PySem.Pairs (mixKind P w) es vs →
    ReadsAll h (es.map (·.key)) (kvs.map fun p => match p.1 with | .inl i => PyData.int i | .inr x => PyData.str x) [] ∧ Vals (kvs.map (·.2)) (es.map (·.val))
  | _, _, _, .nil, .nil => ⟨.nil, .nil⟩
  | _, _, _, .cons (a := ⟨k, v⟩) r t, .cons (e := e) hk hv q => by
    obtain ⟨h1, h2⟩ := reads_keys (h := h) t q; obtain ⟨r1, r2⟩ := r; refine ⟨?_, .cons (by (show RelV v e.val; rw [hv]; exact r2)) h2⟩
    rw [mixKind_is] at hk; rw [← r1] at hk
    rcases keyIs_shape hk with ⟨i, t, e1, e2⟩ | ⟨x, t, e1, e2⟩
    · simp only at e1; subst e1; exact .cons (as := []) (bs := []) (by (show Reads h e.key _ []; rw [e2]; exact .int i t)) h1
    · simp only at e1; subst e1; exact .cons (as := []) (bs := []) (by (show Reads h e.key _ []; rw [e2]; exact .str x t)) h1
mutual
theorem Dq.reads (I : Inv X pins σ H s) : ∀ {v : V} {d : PyData} {u : Value}, Dq H v d → RelV v u → ∃ as, Reads s.heap u d as ∧ ∀ b ∈ as, H b ≠ none
  | _, _, _, .non, r => by cases r; exact ⟨[], .none, fun b hb => absurd hb (by simp)⟩
  | _, _, _, .bl b, r => by cases r; exact ⟨[], .bool b, fun b hb => absurd hb (by simp)⟩
  | _, _, _, .int i, r => by obtain ⟨t, rfl⟩ := r; exact ⟨[], .int i t, fun b hb => absurd hb (by simp)⟩
  | _, _, _, .str x, r => by obtain ⟨t, rfl⟩ := r; exact ⟨[], .str x t, fun b hb => absurd hb (by simp)⟩
  | _, _, _, .lst (a := a) (xs := xs) h q, r => by
    cases r; obtain ⟨_, its, n, rv, e⟩ : ObjOk X.prog X.w H s.heap a (.lst xs) := I.hok a _ h; obtain ⟨as, h1, h2⟩ := DqAll.reads I q rv
    refine ⟨_, .list e rfl rfl h1, fun b hb => ?_⟩
    rcases List.mem_cons.mp hb with z | z
    · rw [z, h]; exact fun y => nomatch y
    · exact h2 b z
  | _, _, _, .tup (a := a) (xs := xs) h q, r => by
    cases r; obtain ⟨_, its, rv, o, e, hc, n, hd⟩ : ObjOk X.prog X.w H s.heap a (.tup xs) := I.hok a _ h; obtain ⟨as, h1, h2⟩ := DqAll.reads I q rv
    exact ⟨_, .tuple e hc hd h1, h2⟩
  | _, _, _, .dct (a := a) (kvs := kvs) (ds := ds) h q, r => by
    cases r; obtain ⟨_, _, vs, rk, o, es, ep, e, hx, hd, _, hp, _⟩ : ObjOk X.prog X.w H s.heap a (.dK kvs) := I.hok a _ h
    obtain ⟨k1, k2⟩ := reads_keys (h := s.heap) rk hp; obtain ⟨as, h1, h2⟩ := DqAll.reads I q k2; have hl : (kvs.map (·.2)).length = ds.length := q.length
    have e1 : (((kvs.map fun p => match p.1 with | .inl i => PyData.int i | .inr x => PyData.str x).zip ds).map (·.1)) = (kvs.map fun p => match p.1 with | .inl i => PyData.int i | .inr x => PyData.str x) := List.map_fst_zip (by simp at hl ⊢; omega)
    have e2 : (((kvs.map fun p => match p.1 with | .inl i => PyData.int i | .inr x => PyData.str x).zip ds).map (·.2)) = ds := List.map_snd_zip (by simp at hl ⊢; omega)
    refine ⟨_, .dict (as := []) (bs := as) e hx.1 hd (by (rw [e1]; exact k1)) (by (rw [e2]; exact h1)), fun b hb => ?_⟩
    rcases List.mem_cons.mp (by simpa using hb) with z | z
    · rw [z, h]; exact fun y => nomatch y
    · exact h2 b z
theorem DqAll.reads (I : Inv X pins σ H s) : ∀ {vs : List V} {ds : List PyData} {us : List Value}, DqAll H vs ds → Vals vs us → ∃ as, ReadsAll s.heap us ds as ∧ ∀ b ∈ as, H b ≠ none
  | _, _, _, .nil, r => by cases r; exact ⟨[], .nil, fun b hb => absurd hb (by simp)⟩
  | _, _, _, .cons h q, r => by
    cases r with
    | cons r1 r2 =>
      obtain ⟨as, h1, h2⟩ := Dq.reads I h r1; obtain ⟨bs, h3, h4⟩ := DqAll.reads I q r2
      exact ⟨_, .cons h1 h3, fun b hb => (List.mem_append.mp hb).elim (h2 b) (h4 b)⟩
end
/-- repr(x), x a tuple, a list or a dict of data -/
def rRepr : List V → Hp → VK → Prop := fun xs H Q => ∃ (a : Addr) (d : PyData), xs = [.ref a] ∧ Dq H (.ref a) d ∧ d.showable = true ∧ d.depth ≤ 50 ∧ d.shown.length ≤ sizeLine ∧ Q (.str d.shown) H
theorem call_reprD {X : Cx} (hg : X.A.guards = some []) (hu : X.A.units + 64 < cLine) (hs : ∃ o, X.base.get? sysModules = some o) : CallR X (.builtin "repr") rRepr := by
  intro pins s σ H xs us Q I r h; obtain ⟨a, d, rfl, hd, h1, h2, h3, q⟩ := h; obtain ⟨u, rfl, ru⟩ := vals1 r; cases (show u = Value.ref a from ru)
  obtain ⟨as, hr, hn⟩ := hd.reads I (u := .ref a) rfl; obtain ⟨o, ho⟩ := hs
  have hsm : d.hasDict = true → sysModules ∉ as := fun _ hm => hn _ hm (I.bs _ _ ho).2
  exact repr_of_reads' hr h1 hsm hg (by omega) (fun _ _ e => e) (fun h' u tk k => ⟨.str _, H, I.kept (t' := tk) k, ⟨_, rfl⟩, q⟩) h3
end

/-! ### a def that asks repr: nothing is being shown around it -/
structure FnG (P : Program) (w : World) (K : PySem.W.Frag) (mg : Str → Option Value) (base : Heap) (k : Nat) (f : Addr) (fd : FuncData) (ps : List Str) (sp : Sp) : Prop where
  len : ∀ vs H Q E, sp vs H Q E → vs.length = ps.length
  run : ∀ (A : Around) (outer : List Env) (s : Shared) (H : Hp) (args : Args) (us : List Value) (vs : List V) (Q : VK) (E : XK), A.guards = some [] → Room k A → Env0 P w K mg base A outer s H → BindsTo s fd args (ps.zip us) → Vals vs us → sp vs H Q E → codeAny (model P w) A (.call (.ref f) args) (CR CX0 outer P w H s Q E) s
theorem _root_.L2.Fun.okG {P : Program} {w : World} {K : PySem.W.Frag} {mg : Str → Option Value} {base : Heap} {x qual : Str} {st : Stmt} {f : Addr} {fd : FuncData} {N ps : List Str} {k : Nat} {sp : Sp} (F : Fun K x qual st f fd) (S : FnScope N ps (defScope st)) (len : ∀ vs H Q E, sp vs H Q E → vs.length = ps.length)
    (hbody : ∀ (cdv : Value) (A : Around) (outer : List Env) (s : Shared) (H : Hp) (vs : List V) (Q : VK) (E : XK), A.guards = some [] → Room k (A.deeper (envOfC qual (defScope st) s.heap.objs.size f cdv)) → sp vs H Q E →
      ∃ t, PSs (cxOf CX0 P w K mg base N qual (defScope st) f cdv A outer s H E).nox (defBody st) t ∧ t { nx := fun _ H' => Q .non H', rt := Q } (start N vs) H) : FnG P w K mg base (k + 1) f fd ps sp := by
  obtain ⟨oc, od, kV, doc, pm, an, cdv, ct, osl, rfl, lk, hcd⟩ := F.ex; refine ⟨len, fun A outer s H args us vs Q E hgd hr e0 hb r hsp => ?_⟩; have hl := len _ _ _ _ hsp
  have KX : K.In s.heap := e0.mod.kin.keeps fun b o e => (e0.bs b o e).1; have lim : s.heap.NoLimit := e0.mod.nolimit.keeps fun b o e => (e0.bs b o e).1
  have hkind : ∀ y ∈ ps.zip us, (defScope st).names.lookup y.1 = some .local ∨ ((defScope st).names.lookup y.1 = some .cell ∧ ((cellsFrom (s.heap.objs.size + 1) (defScope st).names []).lookup y.1).isSome = true) := fun ⟨n, v⟩ hy => (S.par n (List.of_mem_zip hy).1).elim .inl fun q => .inr ⟨q, PySem.W.cellsFrom_some _ _ _ (.inl q)⟩
  refine codeAny_call_function hr.depth (KX _ _ lk) rfl S.co S.gen rfl (PySem.W.codeRec_of KX hcd) (hb _ _ _ _ ?_); refine wpAny_newFunctionEnv_cells S.kind hkind fun env he s1 x => ?_
  subst he; refine ⟨lim.keeps x.toInCall.keep, codeAny_func ?_⟩; obtain ⟨t, ht, hq⟩ := hbody cdv A outer s H vs Q E hgd (hr.deeper _) hsp
  have I : Inv (cxOf CX0 P w K mg base N qual (defScope st) f cdv A outer s H E) [] (start N vs) H s1 := inv_start S hr.hd e0 hl r x
  refine wpAny_mono (ht.nox.run [] s1 (start N vs) H _ I hq) (fun fl s' hs => ?_) fun e s' hs => hs
  have fin : ∀ {σ' : L2.St} {H' : Hp} {v : V} {u : Value}, Inv (cxOf CX0 P w K mg base N qual (defScope st) f cdv A outer s H E) [] σ' H' s' → RelV v u → Q v H' → CE outer P w H s Q u s' := fun {σ' H' v u} J rv q => ⟨v, H', J.os, J.bare, J.base, J.hok, rv, q⟩
  cases fl with
  | ret u => obtain ⟨v, σ', H', J, rv, q⟩ := hs; exact fin J rv q
  | next => obtain ⟨σ', H', J, q⟩ := hs; exact fin (v := V.non) (u := Value.none) J rfl q
  | brk => obtain ⟨_, _, _, q⟩ := hs; exact False.elim q
  | cont => obtain ⟨_, _, _, q⟩ := hs; exact False.elim q
section
variable {X : Cx} {k : Nat} {f : Addr} {fd : FuncData} {ps : List Str} {sp : Sp} {x : Str} {q pos : Pos} {e : Expr} {es : List Expr} {t : TA}
theorem pe_callG (F : FnG X.prog X.w X.K X.mg X.base k f fd ps sp) (hgd : X.A.guards = some []) (hr : Room k X.A) (hg : Gl X x) (hm : X.mg x = some (.ref f)) (hk : PySem.W.keepIn X.K (.ref f) = true) (hb : Binds X.K fd ps [])
    (ha : PA X (e :: es) t) (hdb : (x == ("__debug__" : Str)) = false := by decide) (he : starEach (e :: es) X.env = (false, eval e X.env) :: starEach es X.env := by rfl) (hpl : (backTo pos (starEach es X.env)).any (·.1) = false := by rfl) : PE X (.Call (.Name x q) (e :: es) [] pos) (tCall sp [] E0 t) := by
  refine ⟨fun pins s σ H Q I h => ?_⟩; refine wpAny_Call_Name_kw (ld_glob I hg hm ?_ hdb)
  refine PySem.W.callWith_K (h₀ := X.base) I.ok.mod.kin hk (thn (ha.run pos pins s σ H _ I h) fun us s1 ⟨vs, H1, I1, r, h1⟩ => ⟨I1.kIn, ?_⟩) he hpl
  have h1 : sp vs H1 Q E0 := by simpa using (show sp (vs ++ []) H1 Q E0 from h1)
  have hl : us.length = ps.length := by (rw [← r.length]; exact F.len _ _ _ _ h1)
  have b := hb s1 us I1.kIn (by (rw [List.append_nil]; exact hl)); rw [List.append_nil] at b
  refine wpAny_call (codeAny_mono (F.run X.A X.stack s1 H1 ⟨us, []⟩ us vs Q E0 hgd hr I1.env0 b r h1) fun r s' hq => ?_)
  cases r with
  | error e => exact False.elim hq
  | ok fl =>
    cases fl with
    | ret u => exact I1.after hq
    | next => exact False.elim hq
    | brk => exact False.elim hq
    | cont => exact False.elim hq
end
end Ox

namespace Ox
open PySem PySem.Spec PyProof.Rows L2
theorem law_callG {P : Program} {w : World} {K : PySem.W.Frag} {mg mb : Str → Option Value} {k : Nat} {fa a : Addr} {fd : FuncData} {x : Str} {sp : Sp} {s₁ : Shared} {vs : List Value} {ns : List Int} (KX : K.In s₁.heap) (hns : s₁.heap.Ns mainGlobals mg) (hb : s₁.heap.Ns builtinsNs mb)
    (hbb : ∀ x : Str, x ≠ "__name__" → mb x = bootBuiltins x) (hlim : s₁.heap.NoLimit) (hsys : ∃ mm, s₁.heap.Ns sysModules mm) (hg : s₁.gens = #[]) (ha : s₁.heap.get? a = some { cls := .type "list", data := .seq vs.toArray }) (hi : IntsAre vs ns) (hl : ns.length ≤ sizeLine) (hr : Room k callerA)
    (F : ∀ base : Heap, K.In base → base.Ns mainGlobals mg → (∃ o, base.get? sysModules = some o) → FnG P w K mg base k fa fd [x] sp) (hbind : ∀ (s : Shared) (u : Value), BindsTo s fd ⟨[u], []⟩ [(x, u)]) (hsp : ∀ H : Hp, SqL K H a (ns.map V.int) → sp [.ref a] H (fun v _ => v = .bl true) fun _ _ _ => False) :
    codeAny (model P w) callerA (.call (.ref fa) ⟨[.ref a], []⟩) (fun r s' => r = .ok (.ret (.bool true)) ∧ OldK s₁.heap s'.heap ∧ s'.os = s₁.os ∧ AllBare s'.gens) s₁ := by
  have rv := vals_ints hi; have lenV := hi.length
  have core : ∀ H : Hp, (∀ b u, H b = some u → b = a ∧ K.lookup a = none ∧ ∃ o xs, u = .frz o (.lst xs)) → SqL K H a (ns.map V.int) → HOk P w H s₁.heap →
      codeAny (model P w) callerA (.call (.ref fa) ⟨[.ref a], []⟩) (fun r s' => r = .ok (.ret (.bool true)) ∧ OldK s₁.heap s'.heap ∧ s'.os = s₁.os ∧ AllBare s'.gens) s₁ := by
    intro H hA hS hok
    have base_of : ∀ {b : Addr} {o : Obj}, s₁.heap.get? b = some o → H b = none → (hidT s₁.heap H).get? b = some o := fun e n => hidT_get e n
    have noD : ∀ {b : Addr} {o : Obj} {es : Array DictEntry} {ep : Nat}, s₁.heap.get? b = some o → o.data = .dict es ep → H b = none := fun {b o es ep} e d => by
      cases q : H b with
      | none => rfl
      | some u =>
        have e' := (hA b u q).1; subst e'; rw [ha] at e; cases e; have d' : Data.seq vs.toArray _ = Data.dict es ep := d; cases d'
    have nsK : ∀ {b : Addr} {m : Str → Option Value}, s₁.heap.Ns b m → (hidT s₁.heap H).Ns b m := fun {b m} ⟨o, es, ep, e, d, r⟩ => ⟨o, es, ep, base_of e (noD e d), d, r⟩
    have hKb : K.In (hidT s₁.heap H) := fun b o e => base_of (KX b o e) (by
      cases q : H b with
      | none => rfl
      | some u => have z := hA b u q; rw [z.1, z.2.1] at e; cases e)
    have hM : Mod K mg (hidT s₁.heap H) := ⟨hKb, nsK hns, ⟨mb, nsK hb, hbb⟩, let ⟨mc, h1, h2⟩ := hlim; ⟨mc, nsK h1, h2⟩⟩
    have hS1 : ∃ o, (hidT s₁.heap H).get? sysModules = some o := by
      obtain ⟨mm, hm⟩ := hsys; obtain ⟨o, es, ep, e, _⟩ := nsK hm; exact ⟨o, e⟩
    have e0 : Env0 P w K mg (hidT s₁.heap H) callerA [] s₁ H := ⟨rfl, hM, fun b o e => of_hidT e, Nat.le_of_eq (hidT_size _ _), trivial, fun b hb => absurd (show b ∈ ([] : List Addr) from hb) (by simp), hok, .of_eq hg⟩
    refine codeAny_mono ((F _ hKb (nsK hns) hS1).run callerA [] s₁ H ⟨[.ref a], []⟩ [.ref a] [.ref a] _ _ rfl hr e0 (hbind s₁ (.ref a)) (.cons rfl .nil) (hsp H hS)) fun r s' h => ?_
    cases r with
    | error e => exact False.elim h
    | ok fl =>
      cases fl with
      | next => exact False.elim h
      | brk => exact False.elim h
      | cont => exact False.elim h
      | ret u =>
        obtain ⟨v, H', os, bare, un, hok', r', q⟩ := h; have q' : v = .bl true := q; subst q'; obtain rfl : u = Value.bool true := r'
        refine ⟨rfl, OldK.of_keep fun b o e => ?_, os, bare⟩
        cases q : H b with
        | none => exact un.keep b o e q (by intro z; exact absurd (show b ∈ ([] : List Addr) from z) (by simp)) (by simp)
        | some u =>
          obtain ⟨_, _, ob, xs, z⟩ := hA b u q; subst z; have z2 := un.frzs b ob _ q; obtain ⟨e1, _⟩ := hok b _ q; obtain ⟨e2, _⟩ := hok' b _ z2
          rw [e] at e1; cases e1; exact e2
  cases hk : K.lookup a with
  | some o =>
    have e := KX a o hk; rw [ha] at e; cases e
    exact core (fun _ => none) (fun b u z => nomatch (show (none : Option HO) = some u from z)) (.inr ⟨_, vs.toArray, _, hk, rfl, rfl, rfl, by (rw [List.size_toArray, lenV]; exact hl), by simpa using rv⟩) (fun b u z => nomatch (show (none : Option HO) = some u from z))
  | none =>
    refine core (fun b => if b = a then some (.frz { cls := .type "list", data := .seq vs.toArray } (.lst (ns.map V.int))) else none) (fun b u z => ?_) (.inl (.inr ⟨{ cls := .type "list", data := .seq vs.toArray }, if_pos rfl⟩)) (fun b u z => ?_)
    · by_cases hb : b = a
      · exact ⟨hb, hk, _, _, (Option.some.inj ((if_pos hb).symm.trans z)).symm⟩
      · exact nomatch ((if_neg hb).symm.trans z)
    · by_cases hb : b = a
      · have z' := Option.some.inj ((if_pos hb).symm.trans z); subst z'; subst hb; exact ⟨ha, by (rw [List.length_map]; exact hl), vs, _, rv, ha⟩
      · exact nomatch ((if_neg hb).symm.trans z)
theorem walkG {l : PySem.W.OpenLaw} {n k : Nat} {q : Program} {loose : List Str} {XP : (Str → Option Value) → Heap → Prop} {YP : World → Heap → Prop} {d : DefRec} {K : Params → PySem.W.Frag} {sp : PySem.W.Frag → Sp} {x : Str} (hn : l.most = some n) (hn2 : n ≤ sizeLine) (hdf : d.params.defaults = []) (hr : Room k callerA)
    (hq : importsNone q = true) (hY : ∀ (w : World) (h : Heap), YP w h → (K w.params).In h)
    (F : ∀ (w : World) (mg : Str → Option Value) (fa : Addr) (h : Heap), (K w.params).In h → h.Ns mainGlobals mg → mg d.name = some (.ref fa) →
      ∃ fd : FuncData, (∀ (s : Shared) (u : Value), BindsTo s fd ⟨[u], []⟩ [(x, u)]) ∧ ∀ base : Heap, (K w.params).In base → base.Ns mainGlobals mg → (∃ o, base.get? sysModules = some o) → FnG l.prog w (K w.params) mg base k fa fd [x] (sp (K w.params)))
    (hsp : ∀ (K : PySem.W.Frag) (H : Hp) (a : Addr) (ns : List Int), ns.length ≤ n → SqL K H a (ns.map V.int) → sp K [.ref a] H (fun v _ => v = .bl true) fun _ _ _ => False) : PySem.W.WalkO q loose XP YP l.row.toRowW d [] (fun f vs => PySem.call f vs) := by
  refine Att.attach_call hn hdf fun w s₀ s₁ mg mb fa o pm cd doc a vs ns G Y ho hd hcd hmg hobj hints hlen hg => ?_
  have KX := hY w _ Y; obtain ⟨fd, hb, hF⟩ := F w mg fa _ KX G.T.g hmg; have hs := (G.T.seer hq).mods
  exact law_callG KX G.T.g G.T.b G.T.builtins G.T.nolimit (let ⟨mm, h, _⟩ := hs; ⟨mm, h⟩) hg hobj hints (Nat.le_trans hlen hn2) hr hF hb fun H hS => hsp _ H a ns hlen hS
end Ox

/-! Defs with a keyword-only parameter that is None where it is left out; a star parameter beside it; calls of them -/
namespace Mk2
open PySem PySem.Spec PyProof.Rows L2
/-- the def at f, called with positions, and with kn or without it -/
def FnRK (P : Program) (w : World) (K : PySem.W.Frag) (mg : Str → Option Value) (base : Heap) (CX : CXT) (k : Nat) (f : Addr) (kn : Str) (sp : List V → Option V → Hp → VK → XK → Prop) : Prop :=
  ∀ (A : Around) (outer : List Env) (s : Shared) (H : Hp) (us zs : List Value) (vs : List V) (vz : Option V) (Q : VK) (E : XK), Room k A → Env0 P w K mg base A outer s H → Vals vs us → Vals vz.toList zs → sp vs vz H Q E →
    codeAny (model P w) A (.call (.ref f) ⟨us, zs.map fun u => (kn, u)⟩) (CR CX outer P w H s Q E) s
/-- .. without it -/
theorem FnRK.plain {P : Program} {w : World} {K : PySem.W.Frag} {mg : Str → Option Value} {base : Heap} {CX : CXT} {k : Nat} {f : Addr} {kn : Str} {sp : List V → Option V → Hp → VK → XK → Prop} (F : FnRK P w K mg base CX k f kn sp) : FnR P w K mg base CX k f (fun vs H Q E => sp vs none H Q E) :=
  fun A outer s H us vs Q E hr e0 r h => F A outer s H us [] vs none Q E hr e0 r .nil h
section
variable {CX : CXT} {P : Program} {w : World} {K : PySem.W.Frag} {mg : Str → Option Value} {base : Heap} {k : Nat} {f D : Addr} {name qual : Str} {params : Arguments} {body : List Stmt} {scope : Scope} {doc pm cdv ct oc : Value} {an od : Option Addr}
  {osl : Array (Option Value)} {N : List Str} {sp : Sp} {kn : Str}
/-- what binding gives where the keyword's value is looked up -/
def Looked (D : Addr) (kn : Str) (t r : Sem (List (Str × Value))) : Prop := ∃ (β γ : Type) (k1 : Option Value → Sem β) (k2 : β → Sem γ) (k3 : γ → Sem (List (Str × Value))) (c : β), t = ((nsGet D kn >>= k1) >>= k2) >>= k3 ∧ k1 (some .none) = pure c ∧ (k2 c >>= k3) = r
theorem looked_wp {D : Addr} {kn : Str} {t r : Sem (List (Str × Value))} {A : Around} {Ex : Value → Shared → Prop} {Q : List (Str × Value) → Shared → Prop} {s : Shared} (X : K.In s.heap) (hD : PySem.W.nsIn K D kn = some (some .none)) (h : Looked D kn t r) (hr : wpAny (model P w) A r Q Ex s) : wpAny (model P w) A t Q Ex s := by
  obtain ⟨β, γ, k1, k2, k3, c, rfl, e2, e3⟩ := h
  have l1 : PySem.W.Looks (model P w) s.heap (nsGet D kn >>= k1) c := (PySem.W.looks_nsIn X hD).andThen (PySem.W.Looks.of_pure e2)
  rw [bind_assoc]
  refine wpAny_bind (l1.here ?_)
  rw [e3]; exact hr
/-- def f(p1, p2, *pv, kn=None) -/
theorem fn_starK {p1 p2 pv : Str} (lk : K.lookup f = some ⟨oc, od, .func (PySem.W.fnOf name qual params body scope .none (.ref D) doc pm an cdv ct), osl⟩) (hcd : PySem.W.codeIn K cdv qual = true) (S : FnScope N [p1, p2, kn, pv] scope) (hCX : StX.CXUp CX)
    (hD : PySem.W.nsIn K D kn = some (some .none))
    (h1 : ∀ (a b x : Value) (rest : List Value), bindArgs (PySem.W.fnOf name qual params body scope .none (.ref D) doc pm an cdv ct) ⟨a :: b :: rest, [(kn, x)]⟩ = (newTuple rest >>= fun t => pure [(p1, a), (p2, b), (kn, x), (pv, t)]))
    (h0 : ∀ (a b : Value) (rest : List Value), Looked D kn (bindArgs (PySem.W.fnOf name qual params body scope .none (.ref D) doc pm an cdv ct) ⟨a :: b :: rest, []⟩) (newTuple rest >>= fun t => pure [(p1, a), (p2, b), (kn, .none), (pv, t)]))
    (hbody : ∀ (A : Around) (outer : List Env) (s : Shared) (H : Hp) (vs : List V) (Q : VK) (E : XK), Room k (A.deeper (envOfC qual scope s.heap.objs.size f cdv)) → sp vs H Q E →
      ∃ t, PSs (cxOf CX P w K mg base N qual scope f cdv A outer s H E) body t ∧ t { nx := fun _ H' => Q .non H', rt := Q } (start N vs) H) :
    FnRK P w K mg base CX (k + 1) f kn (fun vs vz H Q E => ∃ x y rest, vs = x :: y :: rest ∧ rest.length ≤ sizeLine ∧ ∀ p, H p = Option.none → sp [x, y, vz.getD .non, .ref p] (upd H p (.tup rest)) Q E) := by
  intro A outer s H us zs vs vz Q E hr e0 r rz hsp
  obtain ⟨x, y, rest, rfl, hz, hq⟩ := hsp
  cases r with
  | cons rx r =>
  cases r with
  | @cons _ u2 _ u3 ry r =>
  rename_i u1
  have X : K.In s.heap := e0.mod.kin.keeps fun b o e => (e0.bs b o e).1
  have hn : H s.heap.objs.size = Option.none := e0.hok.fresh (Nat.le_refl _)
  have hl : u3.length ≤ sizeLine := by rw [← r.length]; exact hz
  refine StX.run_bnd lk hcd S hr e0 (G := fun xs H2 => ∃ p, H p = Option.none ∧ xs = [x, y, vz.getD .non, .ref p] ∧ H2 = upd H p (.tup rest)) (fun A' Ex Q' h => ?_) fun s2 H2 xs ⟨p, hp, ex, eH⟩ hr' => ?_
  · have tail : ∀ kv : Value, RelV (vz.getD .non) kv → wpAny (model P w) A' (newTuple u3 >>= fun t => pure [(p1, u1), (p2, u2), (kn, kv), (pv, t)]) Q' Ex s := fun kv rk => by
      refine wpAny_bind (wpAny_newTuple (wpAny_pure ?_) hl)
      have new : ObjOk P w (upd H s.heap.objs.size (.tup rest)) (s.heap.push ({ cls := .type "tuple", data := .seq u3.toArray } : Obj)) s.heap.objs.size (.tup rest) := ⟨hz, u3, r, ⟨_, Heap.get?_push_size _ rfl, rfl, _, rfl⟩⟩
      have un := StX.un_laid (fs := frs outer) (s := s) (o := ({ cls := .type "tuple", data := .seq u3.toArray } : Obj)) (u := .tup rest) hn
      exact h _ _ [x, y, vz.getD .non, .ref s.heap.objs.size] [u1, u2, kv, .ref s.heap.objs.size] (StX.env0_laid e0 new) un rfl (fun e s' => hCX outer s H _ _ E e s' un (fun b o q => Heap.get?_push_of_some _ q) rfl) (.cons rx (.cons ry (.cons rk (.cons rfl .nil)))) rfl ⟨_, hn, rfl, rfl⟩
    cases vz with
    | none => cases rz; exact looked_wp X hD (h0 u1 u2 u3) (tail .none rfl)
    | some v =>
      cases rz with
      | @cons _ u _ _ ru rz =>
      cases rz
      show wpAny _ _ (bindArgs _ ⟨u1 :: u2 :: u3, [(kn, u)]⟩) _ _ _
      rw [h1]; exact tail u ru
  · subst ex eH
    exact hbody A outer s2 _ _ Q E hr' (hq p hp)
/-- def f(p1, p2, p3, *, kn=None) -/
theorem fn_onlyK {p1 p2 p3 : Str} (lk : K.lookup f = some ⟨oc, od, .func (PySem.W.fnOf name qual params body scope .none (.ref D) doc pm an cdv ct), osl⟩) (hcd : PySem.W.codeIn K cdv qual = true) (S : FnScope N [p1, p2, p3, kn] scope)
    (hD : PySem.W.nsIn K D kn = some (some .none))
    (h1 : ∀ (a b c x : Value), bindArgs (PySem.W.fnOf name qual params body scope .none (.ref D) doc pm an cdv ct) ⟨[a, b, c], [(kn, x)]⟩ = pure [(p1, a), (p2, b), (p3, c), (kn, x)])
    (h0 : ∀ (a b c : Value), Looked D kn (bindArgs (PySem.W.fnOf name qual params body scope .none (.ref D) doc pm an cdv ct) ⟨[a, b, c], []⟩) (pure [(p1, a), (p2, b), (p3, c), (kn, .none)]))
    (hbody : ∀ (A : Around) (outer : List Env) (s : Shared) (H : Hp) (vs : List V) (Q : VK) (E : XK), Room k (A.deeper (envOfC qual scope s.heap.objs.size f cdv)) → sp vs H Q E →
      ∃ t, PSs (cxOf CX P w K mg base N qual scope f cdv A outer s H E) body t ∧ t { nx := fun _ H' => Q .non H', rt := Q } (start N vs) H) :
    FnRK P w K mg base CX (k + 1) f kn (fun vs vz H Q E => ∃ x y z, vs = [x, y, z] ∧ sp [x, y, z, vz.getD .non] H Q E) := by
  intro A outer s H us zs vs vz Q E hr e0 r rz hsp
  obtain ⟨x, y, z, rfl, hq⟩ := hsp
  obtain ⟨u1, u2, u3, rfl, rx, ry, rw_⟩ : ∃ u1 u2 u3, us = [u1, u2, u3] ∧ RelV x u1 ∧ RelV y u2 ∧ RelV z u3 := by
    cases r with
    | cons rx r =>
    cases r with
    | cons ry r =>
    cases r with
    | cons rz2 r =>
    cases r; exact ⟨_, _, _, rfl, rx, ry, rz2⟩
  have X : K.In s.heap := e0.mod.kin.keeps fun b o e => (e0.bs b o e).1
  refine StX.run_bnd lk hcd S hr e0 (G := fun xs H2 => xs = [x, y, z, vz.getD .non] ∧ H2 = H) (fun A' Ex Q' h => ?_) fun s2 H2 xs ⟨ex, eH⟩ hr' => ?_
  · have tail : ∀ kv : Value, RelV (vz.getD .non) kv → Q' [(p1, u1), (p2, u2), (p3, u3), (kn, kv)] s := fun kv rk =>
      h s H [x, y, z, vz.getD .non] [u1, u2, u3, kv] e0 (Un.refl ..) rfl (fun _ _ z => z) (.cons rx (.cons ry (.cons rw_ (.cons rk .nil)))) rfl ⟨rfl, rfl⟩
    cases vz with
    | none => cases rz; exact looked_wp X hD (h0 u1 u2 u3) (wpAny_pure (tail .none rfl))
    | some v =>
      cases rz with
      | @cons _ u _ _ ru rz =>
      cases rz
      show wpAny _ _ (bindArgs _ ⟨[u1, u2, u3], [(kn, u)]⟩) _ _ _
      rw [h1]; exact wpAny_pure (tail u ru)
  · subst ex eH
    exact hbody A outer s2 _ _ Q E hr' hq
end
section
variable {X : Cx} {CX : CXT} {k : Nat} {f C : Addr} {sp : List V → Option V → Hp → VK → XK → Prop} {E : XK} {kn : Str}
theorem run_makeRK {pins : List (Addr × Obj)} {σ : L2.St} {H : Hp} {s : Shared} {Q : VK} {us zs : List Value} {vs : List V} {vz : Option V} (M : Mk X.K C f) (F : FnRK X.prog X.w X.K X.mg X.base CX k f kn sp) (hr : Room (k + 1) X.A) (hx : PassesAt CX X σ E) (I : Inv X pins σ H s) (r : Vals vs us) (rz : Vals vz.toList zs)
    (h : ∀ x dx, H x = Option.none → H dx = Option.none → dx ≠ x → sp (V.ref x :: vs) vz (upd (upd H dx (.own x)) x (.ins C dx [])) (fun v H2 => v = .non ∧ Q (.ref x) H2) E) :
    wpAny (model X.prog X.w) X.A (call (.ref C) us (zs.map fun u => (kn, u))) (EP X pins σ Q) X.xe s := by
  have hq := h (s.heap.objs.size + 1) s.heap.objs.size (I.hok.fresh (Nat.le_succ _)) (I.hok.fresh (Nat.le_refl _)) (Nat.ne_of_lt (Nat.lt_succ_self _))
  have I2 := Inv.made (C := C) I
  have r2 : Vals (V.ref (s.heap.objs.size + 1) :: vs) (Value.ref (s.heap.objs.size + 1) :: us) := .cons rfl r
  refine wpAny_call (make_map (f := f) I.kIn M.makes M.init (beq_iff_eq.mp M.fn) (codeAny_mono (F _ X.stack _ _ (Value.ref (s.heap.objs.size + 1) :: us) zs _ vz _ E (hr.make C us _) (I2.env0.make C us _) r2 rz hq) fun o s' hq' => ?_))
  match o, hq' with
  | .error e, hq' => exact hx _ _ _ e s' I2 hq'
  | .ok (.ret u), hq' =>
    obtain ⟨v, H', I3, rv, ev, q3⟩ := I2.after hq'
    subst ev
    exact ⟨rv, ⟨V.ref (s.heap.objs.size + 1), H', I3, rfl, q3⟩⟩
  | .ok .next, hq' => exact hq'.elim
  | .ok .brk, hq' => exact hq'.elim
  | .ok .cont, hq' => exact hq'.elim
/-- making an instance with the keyword -/
def tMakeRK (C : Addr) (sp : List V → Option V → Hp → VK → XK → Prop) (E : XK) (t tk : TA) : TE := fun σ H Q => t σ H fun vs H1 => tk σ H1 fun zs H2 => ∃ z, zs = [z] ∧ ∀ x dx, H2 x = Option.none → H2 dx = Option.none → dx ≠ x →
  sp (V.ref x :: vs) (some z) (upd (upd H2 dx (.own x)) x (.ins C dx [])) (fun v H3 => v = .non ∧ Q (.ref x) H3) E
/-- a call with a star among the arguments, and keywords -/
theorem call_SK {M : Model} {A : Around} {Ex : Value → Shared → Prop} {s : Shared} {fv : Value} {first : List Value} {pos : Pos} {Q : Value → Shared → Prop} {Ph : Heap → Prop} {args : List (Bool × Sem Value)} {kws : List (Option Str × Sem Value)} (hst : args.any (·.1) = true)
    (hk : ∀ h, Ph h → ∃ k, (k = Keeper.frame ∨ k = Keeper.machine ∨ k = Keeper.boundFrame) ∧ PySem.W.Looks M h (keeperOf fv) k)
    (h : wpAny M A (evalArgs fv true args kws) (fun a s₁ => Ph s₁.heap ∧ wpAny M A (call fv (first ++ a.pos) a.kw) Q Ex s₁) Ex s) : wpAny M A (callWith pos fv first args kws) Q Ex s := by
  unfold callWith
  refine wpAny_bind (wpAny_holding (wpAny_mono h (fun a s₁ h₁ => wpAny_bind (wpAny_standAt ?_)) fun _ _ z => z))
  obtain ⟨kp, hkp, L⟩ := hk _ h₁.1
  simp only [hst, Bool.true_or]
  refine wpAny_bind (L.here ?_)
  have tl : ∀ {t : Sem Value}, wpAny M A t Q Ex s₁ → wpAny M A (t >>= fun r => holding [r] point >>= fun _ => pure r) Q Ex s₁ := fun ht => wpAny_bind (wpAny_mono ht (fun r s₂ hr => wpAny_bind (wpAny_holding (wpAny_point (wpAny_pure hr)))) fun _ _ z => z)
  have mk : ∀ v : Value, wpAny M A (callMarked v fv (first ++ a.pos) a.kw) Q Ex s₁ := fun v => by unfold callMarked; exact Calls.wpAny_keep h₁.2
  rcases hkp with rfl | rfl | rfl <;> dsimp only <;> first | exact tl (mk _) | exact tl (wpAny_operating h₁.2)
variable {i : Nat} {x : Str} {e : Expr} {es : List Expr} {kws : List Keyword} {t tk : TA} {p pos : Pos}
/-- C(e, .., kn = v), C a name of the module -/
theorem pe_makeRK (M : Mk X.K C f) (F : FnRK X.prog X.w X.K X.mg X.base CX k f kn sp) (hr : Room (k + 1) X.A) (hg : Gl X x) (hm : X.mg x = some (.ref C)) (hx : Passes CX X E) (ha : PA X (e :: es) t) (hkw : PK X kws tk)
    (hall : (backToKw pos (keywordEach kws X.env)).all (·.1.isSome) = true := by rfl) (hks : (backToKw pos (keywordEach kws X.env)).filterMap (·.1) = [kn] := by rfl)
    (hdb : (x == ("__debug__" : Str)) = false := by decide) (he : starEach (e :: es) X.env = (false, eval e X.env) :: starEach es X.env := by rfl)
    (hpl : ((backTo pos (starEach (e :: es) X.env)).any (·.1) || (backToKw pos (keywordEach kws X.env)).any (·.1.isNone)) = false := by rfl) : PE X (.Call (.Name x p) (e :: es) kws pos) (tMakeRK C sp E t tk) := by
  refine ⟨fun pins s σ H Q I h => ?_⟩
  refine wpAny_Call_Name_kw (ld_glob I hg hm ?_ hdb)
  refine PySem.W.callWith_KW (h₀ := X.base) I.ok.mod.kin M.kp hall (thn (ha.run pos pins s σ H _ I h) fun us s1 ⟨vs, H1, I1, r, q⟩ => ?_) hpl he
  refine thn (hkw.run pos pins s1 σ H1 _ I1 q) fun ws s2 ⟨zs, H2, I2, rz, z, ez, q2⟩ => ⟨I2.kIn, ?_⟩
  subst ez
  rw [hks]
  cases rz with
  | cons ru rz =>
  cases rz
  exact run_makeRK (vz := some z) M F hr (fun pins H s e s' I c => hx pins σ H s e s' I c) I2 r (.cons ru .nil) q2
/-- cls(e, *t, kn = v), cls a local name that holds the class -/
theorem pe_clsSK (M : Mk X.K C f) (F : FnRK X.prog X.w X.K X.mg X.base CX k f kn sp) (hr : Room (k + 1) X.A) (hN : X.N[i]? = some x) (hv : Vis X.env.scope x) (hx : Passes CX X E) (ha : PA X (e :: es) t) (hkw : PK X kws tk)
    (hall : (backToKw pos (keywordEach kws X.env)).all (·.1.isSome) = true := by rfl) (hks : (backToKw pos (keywordEach kws X.env)).filterMap (·.1) = [kn] := by rfl)
    (hdb : (x == ("__debug__" : Str)) = false := by decide) (hcd : (x == ("__classdict__" : Str)) = false := by decide) (he : starEach (e :: es) X.env = (false, eval e X.env) :: starEach es X.env := by rfl)
    (hst : (backTo pos (starEach (e :: es) X.env)).any (·.1) = true := by rfl) : PE X (.Call (.Name x p) (e :: es) kws pos) (fun σ H Q => σ[i]? = some (some (.ref C)) ∧ tMakeRK C sp E t tk σ H Q) := by
  refine ⟨fun pins s σ H Q I ⟨h0, h⟩ => ?_⟩
  refine wpAny_Call_Name_kw (thn ((pe_var (pos := p) (i := i) hN hv hdb hcd).run pins s σ H (fun v J => v = .ref C ∧ J = H) I ⟨.ref C, h0, rfl, rfl⟩) fun u y hu => ?_)
  obtain ⟨v, J, Iy, rv, rfl, rfl⟩ := hu
  obtain rfl : u = Value.ref C := rv
  refine call_SK hst (PySem.W.keeps_K M.kp) (evalArgs_kw2 hall (thn (ha.run pos pins y σ J _ Iy h) fun us s1 ⟨vs, H1, I1, r, q⟩ => ?_) he)
  refine thn (hkw.run pos pins s1 σ H1 _ I1 q) fun ws s2 ⟨zs, H2, I2, rz, z, ez, q2⟩ => ⟨I2.kIn, ?_⟩
  subst ez
  rw [hks]
  cases rz with
  | cons ru rz =>
  cases rz
  exact run_makeRK (vz := some z) M F hr (fun pins H s e s' I c => hx pins σ H s e s' I c) I2 r (.cons ru .nil) q2
/-- the call of a classmethod's record, with the keyword -/
theorem run_cmK {g q : Addr} {pins : List (Addr × Obj)} {σ : L2.St} {H : Hp} {s : Shared} {Q : VK} {us zs : List Value} {vs : List V} {vz : Option V} (F : FnRK X.prog X.w X.K X.mg X.base CX k g kn sp) (hr : Room k X.A) (hx : Passes CX X E) (I : Inv X ((q, PySem.W.methodObj (.ref g) (.ref C)) :: pins) σ H s)
    (r : Vals vs us) (rz : Vals vz.toList zs) (h : sp (.ref C :: vs) vz H Q E) : wpAny (model X.prog X.w) X.A (call (.ref q) us (zs.map fun u => (kn, u))) (EP X pins σ Q) X.xe s := by
  have r2 : Vals (V.ref C :: vs) (Value.ref C :: us) := .cons rfl r
  have z : wpAny (model X.prog X.w) X.A (call (.ref q) us (zs.map fun u => (kn, u))) (EP X ((q, PySem.W.methodObj (.ref g) (.ref C)) :: pins) σ Q) X.xe s := by
    refine wpAny_call (PySem.W.method_call (ClX.pin_at I) (codeAny_mono (F X.A X.stack s H (.ref C :: us) zs _ vz Q E hr I.env0 r2 rz h) fun o s' hq => ?_))
    match o, hq with
    | .error e, hq => exact hx _ _ _ _ e s' I hq
    | .ok (.ret u), hq => exact I.after hq
    | .ok .next, hq => exact hq.elim
    | .ok .brk, hq => exact hq.elim
    | .ok .cont, hq => exact hq.elim
  exact thn z fun _ _ y => ClX.unpinE y
def tCMethK (C : Addr) (sp : List V → Option V → Hp → VK → XK → Prop) (E : XK) (ta : TE) (t tk : TA) : TE := fun σ H Q => ta σ H fun x H1 => x = .ref C ∧ t σ H1 fun vs H2 => tk σ H2 fun zs H3 => ∃ z, zs = [z] ∧ sp (.ref C :: vs) (some z) H3 Q E
/-- e.m(.., kn = v), e the class at C, m a classmethod -/
theorem pe_cmethK {g q : Addr} {mc : Value} {m : Str} {o : Expr} {apos : Pos} {ta : TE} {pl : Sem Bool} (ho : PE X o ta) (r : ClX.CRead X.K C mc) (c : ClX.CMet X.K C mc m q g) (F : FnRK X.prog X.w X.K X.mg X.base CX k g kn sp) (hr : Room k X.A) (hx : Passes CX X E) (ha : PA X (e :: es) t) (hkw : PK X kws tk)
    (hall : (backToKw pos (keywordEach kws X.env)).all (·.1.isSome) = true := by rfl) (hks : (backToKw pos (keywordEach kws X.env)).filterMap (·.1) = [kn] := by rfl)
    (hst : starEach (e :: es) X.env = (false, eval e X.env) :: starEach es X.env := by rfl) (hpl : ((backTo pos (starEach (e :: es) X.env)).any (·.1) || (backToKw pos (keywordEach kws X.env)).any (·.1.isNone)) = false := by rfl)
    (ht : eval (.Call (.Attribute o m apos) (e :: es) kws pos) X.env = (do
      let ov ← eval o X.env
      standAt apos.atName
      let (f, first) ← holding [ov] (getMethod ov m pl)
      callWith pos f first (backTo pos (starEach (e :: es) X.env)) (backToKw pos (keywordEach kws X.env))) := by rfl) :
    PE X (.Call (.Attribute o m apos) (e :: es) kws pos) (tCMethK C sp E ta t tk) := by
  refine ⟨fun pins s σ H Q I h => ?_⟩
  refine PySem.W.methodCall_KW (pl := pl) (thn (ho.run pins s σ H _ I h) fun u s1 ⟨v, H1, I1, rx, ex, h1⟩ => ?_) ht
  subst ex
  obtain rfl : u = Value.ref C := rx
  refine ClX.getmethcm_ok I1 r c fun s2 I2 => ?_
  refine PySem.W.callWith_of hpl (PySem.W.keeps_M (self := .ref C) c.fi) (evalArgs_kw2 hall (thn (ha.run pos _ s2 σ H1 _ I2 h1) fun us s3 ⟨vs, H2, I3, rv, h2⟩ => ?_) hst)
  refine thn (hkw.run pos _ s3 σ H2 _ I3 h2) fun ws s4 ⟨zs, H3, I4, rz, z, ez, h3⟩ => ⟨⟨ClX.pin_at I4, I4.kIn⟩, ?_⟩
  subst ez
  rw [hks]
  cases rz with
  | cons ru rz =>
  cases rz
  exact run_cmK (vz := some z) F hr hx I4 rv (.cons ru .nil) h3
end
end Mk2

/-! Movers: made -/
namespace Rd
open PySem PySem.Spec PyProof.Rows L2 Tq Dn Dc Mk2
abbrev cMover : Stmt := top 35
abbrev sMi : Stmt := inClass cMover 0
abbrev sMo : Stmt := inClass cMover 1
/-! what is in order -/
abbrev AscP (a b : Prs) : Prop := Asc (prL a) (prL b)
structure NormTb (t u : Tb) : Prop where
  nm : u.nm = t.nm
  pl : u.pl.Perm t.pl
  up : (u.pl.map Prod.fst).Pairwise fun x y => sg1 x < sg1 y
  st : AscP t.st u.st
structure NormTs (ts us : List Tb) : Prop where
  len : us.length = ts.length
  at_ : ∀ (i : Nat) (t u : Tb), ts[i]? = some t → us[i]? = some u → NormTb t u
structure NormBs (bs cs : List Prs) : Prop where
  len : cs.length = bs.length
  at_ : ∀ (i : Nat) (b c : Prs), bs[i]? = some b → cs[i]? = some c → AscP b c
theorem prL_mem {st : Prs} {p : Str × Str} : [p.1, p.2] ∈ prL st ↔ p ∈ st := by
  constructor
  · intro h
    obtain ⟨q, hq, e⟩ := List.mem_map.mp h
    have e1 := (List.cons.inj e).1
    have e2 := (List.cons.inj (List.cons.inj e).2).1
    rw [← show q = p from Prod.ext e1 e2]; exact hq
  · exact fun h => List.mem_map_of_mem (f := fun p : Str × Str => [p.1, p.2]) h
theorem pairs_prL : ∀ {ps : List (List Str)}, (∀ x ∈ ps, ∃ p : Str × Str, x = [p.1, p.2]) → ∃ st : Prs, ps = prL st
  | [], _ => ⟨[], rfl⟩
  | x :: xs, h => by
    obtain ⟨p, rfl⟩ := h x List.mem_cons_self
    obtain ⟨st, e⟩ := pairs_prL (ps := xs) fun y hy => h y (.tail _ hy)
    exact ⟨p :: st, by rw [e]; rfl⟩
theorem asc_prL {st : Prs} {ps : List (List Str)} (h : Asc (prL st) ps) : ∃ st', ps = prL st' ∧ AscP st st' := by
  obtain ⟨st', e⟩ := pairs_prL (ps := ps) fun x hx => by
    obtain ⟨p, _, e⟩ := List.mem_map.mp ((h.mem x).mp hx)
    exact ⟨p, e.symm⟩
  subst e
  exact ⟨st', rfl, h⟩
theorem AscP.mem {a b : Prs} (h : AscP a b) (p : Str × Str) : p ∈ b ↔ p ∈ a := by
  rw [← prL_mem, ← prL_mem (st := a)]; exact Asc.mem h _
theorem tlt_irr {x : List Str} : tlt x x = false := decide_eq_false (List.lt_irrefl _)
theorem AscP.nd {a b : Prs} (h : AscP a b) : b.Nodup := by
  have := Asc.up h
  rw [List.pairwise_map] at this
  exact List.nodup_iff_pairwise_ne.mpr (this.imp fun {x y} z e => by subst e; rw [tlt_irr] at z; cases z)
theorem AscP.len {a b : Prs} (h : AscP a b) : b.length ≤ a.length := nd_len h.nd fun x hx => (h.mem x).mp hx
/-! a thing of its own changes: all else is read as before -/
section
variable {K : PySem.W.Frag} {H H' : Hp} {x C dx : Addr} {fs : List (Str × V)}
theorem PlAt.kp {d : Addr} {pl : List (Str × List Str)} (hx : H x = some (.ins C dx fs)) (k : Keep x H H') (h : PlAt K H d pl) : PlAt K H' d pl :=
  let ⟨rs, a, b, c⟩ := h; ⟨rs, k _ _ (fun z => by rw [z, hx] at a; cases a) a, fun r hr => off_ins hx k (b r hr), c⟩
theorem PairsAt.kp {p : Addr} {ps : List (List Str)} (hx : H x = some (.ins C dx fs)) (k : Keep x H H') (h : PairsAt K H p ps) : PairsAt K H' p ps :=
  let ⟨rs, a, b, c⟩ := h; ⟨rs, a, off_ins hx k b, fun r hr => off_ins hx k (c r hr)⟩
theorem TbAt.kp {a : Addr} {t : Tb} (hx : H x = some (.ins C dx fs)) (k : Keep x H H') (h : TbAt K H a t) : TbAt K H' a t := let ⟨d, q, a, b, c⟩ := h; ⟨d, q, off_ins hx k a, b.kp hx k, c.kp hx k⟩
theorem TbsAt.kp {L : Addr} {rs : List (Addr × Tb)} (hx : H x = some (.ins C dx fs)) (k : Keep x H H') (h : TbsAt K H L rs) : TbsAt K H' L rs := ⟨off_ins hx k h.1, fun r hr => (h.2 r hr).kp hx k⟩
theorem BsAt.kp {L : Addr} {rs : List (Addr × Prs)} (hx : H x = some (.ins C dx fs)) (k : Keep x H H') (h : BsAt K H L rs) : BsAt K H' L rs := ⟨off_ins hx k h.1, fun r hr => (h.2 r hr).kp hx k⟩
end
/-! dicts in a list that is being filled -/
theorem pl_off {K : PySem.W.Frag} {D d : Addr} {H H' : Hp} {l : List V} {pl : List (Str × List Str)} (hD : H D = some (.lst l)) (k : Keep D H H') (h : PlAt K H d pl) : PlAt K H' d pl :=
  let ⟨rs, a, b, c⟩ := h; ⟨rs, k _ _ (fun z => by rw [z, hD] at a; cases a) a, fun r hr => off_seq hD k (b r hr), c⟩
def mvF (Pa T L S B J : Addr) : List (Str × V) := putF "_joints" (.ref J) (putF "_bonds" (.ref B) (putF "_steps" (.ref S) (putF "_placements" (.ref L) (putF "_tables" (.ref T) (putF "_parts" (.ref Pa) [])))))
abbrev DsAt (K : PySem.W.Frag) (H : Hp) (L : Addr) (ds : List (Addr × List (Str × List Str))) : Prop := SqT K H L (ds.map fun r => .ref r.1) ∧ ∀ d ∈ ds, PlAt K H d.1 d.2
theorem DsAt.up {K : PySem.W.Frag} {H H' : Hp} {L : Addr} {ds : List (Addr × List (Str × List Str))} (h : DsAt K H L ds) (s : Same H H') : DsAt K H' L ds := ⟨sqT_up h.1 s, fun d hd => (h.2 d hd).up s⟩
theorem DsAt.kp {K : PySem.W.Frag} {H H' : Hp} {L x C dx : Addr} {fs : List (Str × V)} {ds : List (Addr × List (Str × List Str))} (hx : H x = some (.ins C dx fs)) (k : Keep x H H') (h : DsAt K H L ds) : DsAt K H' L ds := ⟨off_ins hx k h.1, fun d hd => (h.2 d hd).kp hx k⟩
abbrev fst0 (ts : List Tb) : List Str := ((ts.map Tb.pl).headD []).map Prod.fst
/-- a mover: its parts, its tables in order, its bonds in order -/
def MvAt (K : PySem.W.Frag) (C : Addr) (H : Hp) (m : Addr) (ps : List Str) (ts : List Tb) (bs : List Prs) : Prop :=
  ∃ (dx Pa T L S B J : Addr) (ds : List (Addr × List (Str × List Str))) (ss qs : List (Addr × Prs)), H m = some (.ins C dx (mvF Pa T L S B J)) ∧ SqT K H Pa (ps.map V.str) ∧ SqT K H T (ts.map fun t => V.str t.nm) ∧
    DsAt K H L ds ∧ ds.map Prod.snd = ts.map Tb.pl ∧ BsAt K H S ss ∧ ss.map Prod.snd = ts.map Tb.st ∧ BsAt K H B qs ∧ qs.map Prod.snd = bs ∧ PairsAt K H J (joins (fst0 ts) bs)
theorem MvAt.up {K : PySem.W.Frag} {C m : Addr} {H H' : Hp} {ps : List Str} {ts : List Tb} {bs : List Prs} (h : MvAt K C H m ps ts bs) (s : Same H H') : MvAt K C H' m ps ts bs :=
  let ⟨dx, Pa, T, L, S, B, J, ds, ss, qs, a, b, c, d, e, f, g, i, j, l⟩ := h; ⟨dx, Pa, T, L, S, B, J, ds, ss, qs, s _ _ a, sqT_up b s, sqT_up c s, d.up s, e, f.up s, g, i.up s, j, l.up s⟩
/-- the bonds that are allowed: those that are passed, or all -/
def Allowed (K : PySem.W.Frag) (H : Hp) (v : V) (ts : List Tb) (bs : List Prs) : Prop := (v = .non ∧ FullBs ts bs) ∨ ∃ (B : Addr) (qs : List (Addr × Prs)), v = .ref B ∧ BsAt K H B qs ∧ qs.map Prod.snd = bs ∧ OkBs ts bs
theorem Allowed.up {K : PySem.W.Frag} {H H' : Hp} {v : V} {ts : List Tb} {bs : List Prs} (h : Allowed K H v ts bs) (s : Same H H') : Allowed K H' v ts bs := h.imp id fun ⟨B, qs, a, b, c⟩ => ⟨B, qs, a, b.up s, c⟩
def spMi (K : PySem.W.Frag) (C : Addr) : Sp := fun vs H Q _ => ∃ (x dx Pa p : Addr) (v : V) (ps : List Str) (rs : List (Addr × Tb)) (bs : List Prs), vs = [.ref x, .ref Pa, v, .ref p] ∧ H x = some (.ins C dx []) ∧ SqT K H Pa (ps.map V.str) ∧ OkParts ps ∧ TbsAt K H p rs ∧ OkTbs ps (rs.map Prod.snd) ∧
  Allowed K H v (rs.map Prod.snd) bs ∧ (∀ us cs, NormTs (rs.map Prod.snd) us → NormBs bs cs → 1 ≤ (joins (fst0 us) cs).length ∧ (joins (fst0 us) cs).length ≤ 40) ∧
  ∀ H' us cs, Keep x H H' → NormTs (rs.map Prod.snd) us → NormBs bs cs → MvAt K C H' x ps us cs → Q .non H'
structure TxV (K : PySem.W.Frag) (mg : Str → Option Value) (P : Program) (w : World) (base : Heap) (C : Addr) : Prop extends TxM K mg where
  cl : Cls K C
  nP : NoAttr K C "_parts"
  nT : NoAttr K C "_tables"
  nL : NoAttr K C "_placements"
  nS : NoAttr K C "_steps"
  nB : NoAttr K C "_bonds"
  nJ : NoAttr K C "_joints"
  mxJ : ∃ t, mg "MAX_JOINTS" = some (.int 40 t)
  needP : Has P w K mg base "need_parts" 3 ["parts"] (spNeedP K)
  tbs : Has P w K mg base "is_tables" 6 ["parts", "value"] (spTables K)
  bds : Has P w K mg base "is_bonds" 4 ["tables", "value"] (spBonds K)
  full : Has P w K mg base "full_bonds" 1 ["tables"] (spFull K)
  ord : Has P w K mg base "ordered" 1 ["placements"] (spOrd K)
  ascT : Has P w K mg base "ascending" 1 ["values"] (spAscXT K)
  join : Has P w K mg base "joints_of" 1 ["placements", "bonds"] (spJoin K)
section
variable {P : Program} {w : World} {K : PySem.W.Frag} {mg : Str → Option Value} {base : Heap}
theorem scNeedP : FnScope ["parts"] ["parts"] (defScope sNeedP) := ⟨rfl, rfl, rfl, by decide +kernel, rfl, by decide +kernel, by decide +kernel⟩
theorem ok_needP {f : Addr} {fd : FuncData} (F : Fun K "need_parts" "need_parts" sNeedP f fd) (hP : Has P w K mg base "is_parts" 2 ["value"] (spParts K)) : FnOk P w K mg base CX0 3 f fd ["parts"] (spNeedP K) := by
  obtain ⟨fP, fdP, mP, kP, bP, GP⟩ := hP
  refine F.ok scNeedP (fun vs H Q E h => ?_) (fun cdv A outer s H vs Q E hr h => ?_)
  · obtain ⟨a, ps, rfl, _⟩ := h; rfl
  · obtain ⟨a, ps, rfl, ha, ok, k⟩ := h
    refine ⟨_, (pss_one (ps_if (pt_not (pt_val (pe_call GP hr (by rfl) mP kP bP .nil pass0 (pa_cons (pv 0) pa_nil)))) (pss_one ps_never) pss_nil)), ?_⟩
    exact ⟨_, rfl, a, ps, rfl, ha, ok, fun H' s' => ⟨_, rfl, iteF (k H' s')⟩⟩
theorem full_one {ts : List Tb} {a b : List Prs} (ha : FullBs ts a) (hb : FullBs ts b) : a = b := by
  refine List.ext_getElem? fun i => ?_
  have la := ha.len; have lb := hb.len
  by_cases h : i < a.length
  · have h1 : i < ts.length := by omega
    have h2 : i + 1 < ts.length := by omega
    rw [ha.at_ i ts[i] ts[i + 1] (List.getElem?_eq_getElem h1) (List.getElem?_eq_getElem h2), hb.at_ i ts[i] ts[i + 1] (List.getElem?_eq_getElem h1) (List.getElem?_eq_getElem h2)]
  · rw [List.getElem?_eq_none (by omega), List.getElem?_eq_none (by omega)]
theorem OkBs.few {ts : List Tb} {bs : List Prs} (h : OkBs ts bs) : ∀ b ∈ bs, b.length < 64 := fun b hb => by
  obtain ⟨i, hi⟩ := List.getElem?_of_mem hb
  have h1 := (List.getElem?_eq_some_iff.mp hi).1
  have len := h.len
  exact (h.at_ i (ts[i]'(by omega)) (ts[i + 1]'(by omega)) b (List.getElem?_eq_getElem _) (List.getElem?_eq_getElem _) hi).len
theorem foldl_len : ∀ (bs : List Prs) (js : List (List Str)), (∀ b ∈ bs, b.length ≤ 64) → (bs.foldl joinStep js).length ≤ js.length * 64 ^ bs.length
  | [], js, _ => by simp
  | b :: bs, js, h => by
    have ih := foldl_len bs (joinStep js b) fun x hx => h x (.tail _ hx)
    have h1 := joinStep_len js b
    have h2 : js.length * b.length ≤ js.length * 64 := Nat.mul_le_mul_left _ (h b List.mem_cons_self)
    have h3 : (joinStep js b).length * 64 ^ bs.length ≤ js.length * 64 * 64 ^ bs.length := Nat.mul_le_mul_right _ (Nat.le_trans h1 h2)
    rw [List.length_cons, Nat.pow_succ, Nat.mul_comm (64 ^ bs.length) 64, ← Nat.mul_assoc]
    exact Nat.le_trans ih h3
theorem joins_few {ns : List Str} {bs : List Prs} (hn : ns.length ≤ 6) (hl : bs.length ≤ 2) (h : ∀ b ∈ bs, b.length ≤ 64) : (joins ns bs).length ≤ 100000 := by
  have a := foldl_len bs (ns.map fun n => [n]) h
  rw [List.length_map] at a
  have b : 64 ^ bs.length ≤ 64 ^ 2 := Nat.pow_le_pow_right (by decide) hl
  have c := Nat.mul_le_mul hn b
  unfold joins
  omega
def mkTs : List Tb → List (List (Str × List Str)) → List Prs → List Tb
  | t :: ts, p :: ps, s :: ss => ⟨t.nm, p, s⟩ :: mkTs ts ps ss
  | _, _, _ => []
theorem mk_all : ∀ {ts : List Tb} {ps : List (List (Str × List Str))} {ss : List Prs}, ps.length = ts.length → ss.length = ts.length →
    (mkTs ts ps ss).length = ts.length ∧ ((mkTs ts ps ss).map fun t => V.str t.nm) = (ts.map fun t => V.str t.nm) ∧ (mkTs ts ps ss).map Tb.pl = ps ∧ (mkTs ts ps ss).map Tb.st = ss ∧
      ∀ (i : Nat) t u, ts[i]? = some t → (mkTs ts ps ss)[i]? = some u → u.nm = t.nm ∧ ps[i]? = some u.pl ∧ ss[i]? = some u.st
  | [], [], [], _, _ => ⟨rfl, rfl, rfl, rfl, fun i t u h => by simp at h⟩
  | t :: ts, p :: ps, s :: ss, h1, h2 => by
    obtain ⟨a, b, c, d, e⟩ := mk_all (ts := ts) (ps := ps) (ss := ss) (by simpa using h1) (by simpa using h2)
    refine ⟨by simp [mkTs, a], by simp only [mkTs, List.map_cons]; rw [b], by simp only [mkTs, List.map_cons]; rw [c], by simp only [mkTs, List.map_cons]; rw [d], fun i t' u ht hu => ?_⟩
    cases i with
    | zero =>
      obtain rfl : t = t' := Option.some.inj ht
      have := Option.some.inj (show some (⟨t.nm, p, s⟩ : Tb) = some u from hu)
      subst this
      exact ⟨rfl, rfl, rfl⟩
    | succ j => exact e j t' u ht hu
/-- addresses in a list that is being filled, with what is true of each -/
def AP {α : Type} (Pr : Addr → α → Hp → Prop) (R : Nat → α → Prop) (i : Nat) (acc : List V) (H : Hp) : Prop := ∃ ds : List (Addr × α), acc = (ds.map fun d => V.ref d.1) ∧ ds.length = i ∧ (∀ d ∈ ds, Pr d.1 d.2 H) ∧ ∀ (j : Nat) d, ds[j]? = some d → R j d.2
theorem ap_put {α : Type} {Pr : Addr → α → Hp → Prop} {R : Nat → α → Prop} {H1 H H4 : Hp} {D a : Addr} {i : Nat} {acc : List V} {v : α} (off : ∀ a v l H H', H D = some (.lst l) → Keep D H H' → Pr a v H → Pr a v H') (up : ∀ a v H H', Same H H' → Pr a v H → Pr a v H')
    (nD : H1 D = none) (s : Same H1 H) (e : H D = some (.lst acc)) (s4 : Same H H4) (h : AP Pr R i acc H) (few : i < 1000) (p : Pr a v H4) (r : R i v) : Put H1 D (AP Pr R) (i + 1) (.ref a) H4 := by
  obtain ⟨ds, rfl, el, hp, hr⟩ := h
  refine put_of nD (fun i acc l H2 H3 e kp ⟨ds, z1, z2, z3, z4⟩ => ⟨ds, z1, z2, fun d hd => off _ _ _ _ _ e kp (z3 d hd), z4⟩) s e s4 (by rw [List.length_map, sizeLine_eq]; omega) ⟨ds ++ [(a, v)], by rw [List.map_append]; rfl, by rw [List.length_append, el]; rfl, fun d hd => ?_, fun j d hd => ?_⟩
  · rcases List.mem_append.mp hd with z | z
    · exact up _ _ _ _ s4 (hp d z)
    · rw [List.mem_singleton.mp z]; exact p
  · by_cases hj : j < i
    · rw [List.getElem?_append_left (by omega)] at hd; exact hr j d hd
    · rw [List.getElem?_append_right (by omega)] at hd
      have e0 : j - ds.length = 0 := by
        cases e : j - ds.length with
        | zero => rfl
        | succ n => rw [e] at hd; simp at hd
      obtain rfl : j = i := by omega
      rw [e0] at hd
      cases hd; exact r
theorem ap_nil {α : Type} {Pr : Addr → α → Hp → Prop} {R : Nat → α → Prop} {H : Hp} : AP Pr R 0 [] H := ⟨[], rfl, rfl, (fun d z => nomatch z), fun j d h => by simp at h⟩
structure FunK (K : PySem.W.Frag) (x qual : Str) (st : Stmt) (f D : Addr) : Prop where
  ex : ∃ (oc doc pm cdv ct : Value) (od an : Option Addr) (osl : Array (Option Value)), K.lookup f = some ⟨oc, od, .func (PySem.W.fnOf x qual (defArgs st) (defBody st) (defScope st) .none (.ref D) doc pm an cdv ct), osl⟩ ∧ PySem.W.codeIn K cdv qual = true
  kp : PySem.W.keepIn K (.ref f) = true
  dn : PySem.W.nsIn K D "bonds" = some (some .none)
def spMiK (K : PySem.W.Frag) (C : Addr) : List V → Option V → Hp → VK → XK → Prop := fun vs vz H Q E => ∃ x y rest, vs = x :: y :: rest ∧ rest.length ≤ sizeLine ∧ ∀ p, H p = none → spMi K C [x, y, vz.getD .non, .ref p] (upd H p (.tup rest)) Q E
theorem lk_ne {f g : Str} {v : V} {fs : List (Str × V)} (h : decide (g = f) = false) : (putF f v fs).lookup g = fs.lookup g := by rw [lookup_putF, if_neg (of_decide_eq_false h)]
theorem lk_eq {f : Str} {v : V} {fs : List (Str × V)} : (putF f v fs).lookup f = some v := by rw [lookup_putF, if_pos rfl]
theorem scMi : FnScope ["self", "parts", "bonds", "tables", "allowed", "table", "bond"] ["self", "parts", "bonds", "tables"] (defScope sMi) := ⟨rfl, rfl, rfl, by decide +kernel, rfl, by decide +kernel, by decide +kernel⟩
theorem ok_mi {C f D : Addr} (F : FunK K "__init__" "Mover.__init__" sMi f D) (T : TxV K mg P w base C) : FnRK P w K mg base CX0 7 f "bonds" (spMiK K C) := by
  obtain ⟨fP, fdP, mP, kP, bP, GP⟩ := T.needP
  obtain ⟨fT, fdT, mT, kT, bT, GT⟩ := T.tbs
  obtain ⟨fD, fdD, mD, kD, bD, GD⟩ := T.bds
  obtain ⟨fF, fdF, mF, kF, bF, GF⟩ := T.full
  obtain ⟨fO, fdO, mO, kO, bO, GO⟩ := T.ord
  obtain ⟨fA, fdA, mA, kA, bA, GA⟩ := T.ascT
  obtain ⟨fJ, fdJ, mJ_, kJ, bJ, GJ⟩ := T.join
  obtain ⟨tJ, mJ⟩ := T.mxJ
  obtain ⟨oc, doc, pm, cdv, ct, od, an, osl, lk, hcd⟩ := F.ex
  refine fn_starK (p1 := "self") (p2 := "parts") (pv := "tables") lk hcd scMi StX.cxUp_none F.dn (fun a b x rest => by cases rest <;> rfl) (fun a b rest => by cases rest <;> exact ⟨_, _, _, _, _, _, rfl, rfl, rfl⟩) (fun A outer s H vs Q E hr h => ?_)
  obtain ⟨x, dx, Pa, p, v, ps, rs, bs, rfl, hx, hPa, okp, hTs, okt, hAl, hj, k⟩ := h
  have r3 := hr.mono (show 3 ≤ 6 by decide)
  have r4 := hr.mono (show 4 ≤ 6 by decide)
  have r1 := hr.mono (show 1 ≤ 6 by decide)
  refine ⟨_, (pss_cons (ps_expr (pe_call GP r3 (by rfl) mP kP bP .nil pass0 (pa_cons (pv 1) pa_nil)))
      (pss_cons (ps_if (pt_not (pt_val (pe_call GT hr (by rfl) mT kT bT .nil pass0 (pa_cons (pv 1) (pa_cons (pv 3) pa_nil))))) (pss_one ps_never) pss_nil)
      (pss_cons (ps_if (pt_not (pt_val (pe_call GD r4 (by rfl) mD kD bD .nil pass0 (pa_cons (pv 3) (pa_cons (pv 2) pa_nil))))) (pss_one ps_never) pss_nil)
      (pss_cons (ps_set (i := 4) scMi.nd rfl (Or.inl rfl) (pe_ifExp (pt_cmp (pc_isN (pv 2))) (pe_call GF r1 (by rfl) mF kF bF .nil pass0 (pa_cons (pv 3) pa_nil)) (pv 2)))
      (pss_cons (ps_fld (pv 0) (pv 1) rfl)
      (pss_cons (ps_fld (pv 0) (pe_callTy call_tupOf (by rfl) T.tuple PyProof.Rows.boot_tuple (pa_cons (pe_lc (own := [("table", 5)]) (g := gName 5) (tt := tYes) (te := (tOp (rIxT K) (tVar 5) (tC (.int 0)))) rfl scMi.nd (pi_tup (pv 3)) (blkOk_by (N := ["self", "parts", "bonds", "tables", "allowed", "table", "bond"]) (sc := defScope sMi) (by decide +kernel)) (fun _ _ _ _ _ => pg_name (i := 5) scMi.nd rfl (Or.inl rfl)) (fun _ _ _ _ _ => pts_nil) (fun _ _ _ _ _ => (pe_ix ix_tup (pv 5) pe_int (fun _ _ => rfl)))) pa_nil)) rfl)
      (pss_cons (ps_fld (pv 0) (pe_callTy call_tupOf (by rfl) T.tuple PyProof.Rows.boot_tuple (pa_cons (pe_lc (own := [("table", 5)]) (g := gName 5) (tt := tYes) (te := tCall (spOrd K) [] E0 (tCons (tOp (rIxT K) (tVar 5) (tC (.int 1))) tNil)) rfl scMi.nd (pi_tup (pv 3)) (blkOk_by (N := ["self", "parts", "bonds", "tables", "allowed", "table", "bond"]) (sc := defScope sMi) (by decide +kernel)) (fun _ _ _ _ _ => pg_name (i := 5) scMi.nd rfl (Or.inl rfl)) (fun _ _ _ _ _ => pts_nil) (fun _ _ _ _ _ => (pe_call GO r1 (by rfl) mO kO bO .nil pass0 (pa_cons (pe_ix ix_tup (pv 5) pe_int (fun _ _ => rfl)) pa_nil)))) pa_nil)) rfl)
      (pss_cons (ps_fld (pv 0) (pe_callTy call_tupOf (by rfl) T.tuple PyProof.Rows.boot_tuple (pa_cons (pe_lc (own := [("table", 5)]) (g := gName 5) (tt := tYes) (te := tCall (spAscXT K) [] E0 (tCons (tOp (rIxT K) (tVar 5) (tC (.int 2))) tNil)) rfl scMi.nd (pi_tup (pv 3)) (blkOk_by (N := ["self", "parts", "bonds", "tables", "allowed", "table", "bond"]) (sc := defScope sMi) (by decide +kernel)) (fun _ _ _ _ _ => pg_name (i := 5) scMi.nd rfl (Or.inl rfl)) (fun _ _ _ _ _ => pts_nil) (fun _ _ _ _ _ => (pe_call GA r1 (by rfl) mA kA bA .nil pass0 (pa_cons (pe_ix ix_tup (pv 5) pe_int (fun _ _ => rfl)) pa_nil)))) pa_nil)) rfl)
      (pss_cons (ps_fld (pv 0) (pe_callTy call_tupOf (by rfl) T.tuple PyProof.Rows.boot_tuple (pa_cons (pe_lc (own := [("bond", 6)]) (g := gName 6) (tt := tYes) (te := tCall (spAscXT K) [] E0 (tCons (tVar 6) tNil)) rfl scMi.nd (pi_tup (pv 4)) (blkOk_by (N := ["self", "parts", "bonds", "tables", "allowed", "table", "bond"]) (sc := defScope sMi) (by decide +kernel)) (fun _ _ _ _ _ => pg_name (i := 6) scMi.nd rfl (Or.inl rfl)) (fun _ _ _ _ _ => pts_nil) (fun _ _ _ _ _ => (pe_call GA r1 (by rfl) mA kA bA .nil pass0 (pa_cons (pv 6) pa_nil)))) pa_nil)) rfl)
      (pss_cons (ps_fld (pv 0) (pe_call GJ r1 (by rfl) mJ_ kJ bJ .nil pass0 (pa_cons (pe_ix ix_tup (pe_fld (pv 0) rfl) pe_int (fun _ _ => rfl)) (pa_cons (pe_fld (pv 0) rfl) pa_nil))) rfl)
      (pss_cons (ps_if (pt_cmpR op_eq (pe_callB call_lenT (by rfl) T.len PySem.boot_len (pa_cons (pe_fld (pv 0) rfl) pa_nil)) pe_int (nomark _)) (pss_one ps_never) pss_nil)
      (pss_one (ps_if (pt_cmpR op_gt (pe_callB call_lenT (by rfl) T.len PySem.boot_len (pa_cons (pe_fld (pv 0) rfl) pa_nil)) (pe_glob (v := .int 40) (by rfl) mJ ⟨_, rfl⟩) (nomark _)) (pss_one ps_never) pss_nil))))))))))))), ?_⟩
  refine ⟨_, rfl, Pa, ps, rfl, hPa, okp, fun H1 s1 => ?_⟩
  refine ⟨_, rfl, _, rfl, Pa, p, ps, rs, rfl, sqT_up hPa s1, hTs.up s1, okt, fun H2 s2 => ⟨_, rfl, iteF ?_⟩⟩
  have lo := okt.lo; have hi := okt.hi
  rw [List.length_map] at lo hi
  have okb : OkBs (rs.map Prod.snd) bs := hAl.elim (fun h => h.2.ok fun t ht => (okt.tb t ht).pl.hi) fun ⟨B, qs, _, _, _, h⟩ => h
  have go : ∃ (B : Addr) (qs : List (Addr × Prs)), True := ⟨0, [], trivial⟩
  clear go
  have s12 := s1.trans s2
  rcases hAl with ⟨rfl, hF⟩ | ⟨B, qs, rfl, hB, eb, _⟩
  · refine ⟨_, rfl, _, rfl, p, .non, rs, rfl, hTs.up s12, by omega, .inl ⟨rfl, ⟨_, rfl, iteF ?_⟩⟩⟩
    refine ⟨_, rfl, true, congrArg V.bl (decide_eq_true rfl), iteT ?_⟩
    refine ⟨_, rfl, p, rs, rfl, hTs.up s12, lo, by omega, (fun t ht => (okt.tb t.2 (List.mem_map_of_mem ht)).pl.hi), fun H3 B qs s3 nB hFull hB3 => ?_⟩
    have eb : qs.map Prod.snd = bs := full_one hFull hF
    have sw := s12.trans s3
    have hx3 := sw _ _ hx
    have hPa3 := sqT_up hPa sw
    have hTs3 := hTs.up sw
    have K3 : Keep x H H3 := same_keep sw
    clear sw s12 s1 s2 s3
    refine ⟨_, rfl, ?_⟩
    refine ⟨_, rfl, x, C, dx, _, rfl, hx3, T.cl, T.nP, (by show 0 < 1000; decide), ?_⟩
    have k4 : Keep x H3 (upd H3 x (.ins C dx (putF "_parts" (.ref Pa) ([])))) := keep_upd
    have hx4 : upd H3 x (.ins C dx (putF "_parts" (.ref Pa) ([]))) x = some (.ins C dx (putF "_parts" (.ref Pa) ([]))) := upd_same
    generalize upd H3 x (.ins C dx (putF "_parts" (.ref Pa) ([]))) = H4 at k4 hx4 ⊢
    have hPa4 := off_ins hx3 k4 hPa3
    have hTs4 := TbsAt.kp hx3 k4 hTs3
    have hB4 := BsAt.kp hx3 k4 hB3
    have K4 : Keep x H H4 := K3.trans k4
    refine ⟨_, rfl, p, rfl, ⟨_, hTs4.1⟩, fun D nD => ?_⟩
    refine lc_fil walk_tup nD (fun i acc _ => acc = (rs.take i).map fun r => V.str r.2.nm) rfl (fun H' s' => sqT_up hTs4.1 s') ?_ ?_
    · rintro i v acc H5 H6 hi2 s5 e5 rfl ⟨rfl, hv⟩
      rw [List.getElem?_map] at hv
      obtain ⟨r, hr_, rfl⟩ := Option.map_eq_some_iff.mp hv
      obtain ⟨d, q, hq, _⟩ := (hTs4.2 r (List.mem_of_getElem? hr_)).up s5
      refine ⟨rfl, tt_yes ⟨_, rfl, r.1, _, _, _, rfl, rfl, hq, atI_nat (j := 0) rfl, ?_⟩⟩
      exact put_of nD (fun _ _ _ _ _ _ _ z => z) s5 e5 (Same.refl _) (by rw [List.length_map, List.length_take, sizeLine_eq]; omega) (by rw [List.take_add_one, hr_, List.map_append]; rfl)
    rintro acc Hc sc ec rfl
    refine ⟨D, _, rfl, SqL.of ec, fun Tn nTn => ?_⟩
    have eT : upd Hc Tn (HO.tup ((rs.take (rs.map fun r => V.ref r.1).length).map fun r => V.str r.2.nm)) Tn = some (.tup ((rs.map Prod.snd).map fun t => V.str t.nm)) := by rw [upd_same, List.length_map, List.take_length, List.map_map]; rfl
    have s5 := sc.trans (same_new (o := HO.tup ((rs.take (rs.map fun r => V.ref r.1).length).map fun r => V.str r.2.nm)) nTn)
    generalize upd Hc Tn (HO.tup ((rs.take (rs.map fun r => V.ref r.1).length).map fun r => V.str r.2.nm)) = H5 at s5 eT ⊢
    clear sc ec
    have hx5 := s5 _ _ hx4
    have hPa5 := sqT_up hPa4 s5
    have hTs5 := TbsAt.up hTs4 s5
    have hB5 := BsAt.up hB4 s5
    have K5 : Keep x H H5 := K4.trans (same_keep s5)
    have hT5 : SqT K H5 Tn ((rs.map Prod.snd).map fun t => V.str t.nm) := SqT.of eT
    refine ⟨_, rfl, x, C, dx, _, rfl, hx5, T.cl, T.nT, (by show 1 < 1000; decide), ?_⟩
    have k6 : Keep x H5 (upd H5 x (.ins C dx (putF "_tables" (.ref Tn) (putF "_parts" (.ref Pa) ([]))))) := keep_upd
    have hx6 : upd H5 x (.ins C dx (putF "_tables" (.ref Tn) (putF "_parts" (.ref Pa) ([])))) x = some (.ins C dx (putF "_tables" (.ref Tn) (putF "_parts" (.ref Pa) ([])))) := upd_same
    generalize upd H5 x (.ins C dx (putF "_tables" (.ref Tn) (putF "_parts" (.ref Pa) ([])))) = H6 at k6 hx6 ⊢
    have hPa6 := off_ins hx5 k6 hPa5
    have hTs6 := TbsAt.kp hx5 k6 hTs5
    have hB6 := BsAt.kp hx5 k6 hB5
    have hT6 := off_ins hx5 k6 hT5
    have K6 : Keep x H H6 := K5.trans k6
    refine ⟨_, rfl, p, rfl, ⟨_, hTs6.1⟩, fun D2 nD2 => ?_⟩
    refine lc_fil walk_tup nD2 (AP (α := List (Str × List Str)) (fun a pl H' => PlAt K H' a pl) (fun j pl => ∀ r, rs[j]? = some r → pl.Perm r.2.pl ∧ (pl.map Prod.fst).Pairwise fun x y => sg1 x < sg1 y)) ap_nil (fun H' s' => sqT_up hTs6.1 s') ?_ ?_
    · rintro i v acc H5 H6 hi2 s5 e5 hap ⟨rfl, hv⟩
      rw [List.getElem?_map] at hv
      rw [List.length_map] at hi2
      obtain ⟨r, hr_, rfl⟩ := Option.map_eq_some_iff.mp hv
      have rm := List.mem_of_getElem? hr_
      obtain ⟨d, q, hq, hd, _⟩ := (hTs6.2 r rm).up s5
      have okp := (okt.tb r.2 (List.mem_map_of_mem rm)).pl
      refine ⟨rfl, tt_yes ⟨_, rfl, r.1, _, _, _, rfl, rfl, hq, atI_nat (j := 1) rfl, d, r.2.pl, rfl, hd, okp.dif, by have := okp.hi; omega, fun H7 p2 pl2 s7 n7 pm up hpl => ?_⟩⟩
      exact ap_put (fun a v l H H' e k h => pl_off e k h) (fun a v H H' s h => h.up s) nD2 s5 e5 s7 hap (by omega) hpl fun r' hr' => by rw [hr_] at hr'; cases hr'; exact ⟨pm, up⟩
    rintro acc Hc sc ec ⟨ds, rfl, lds, hds, ods⟩
    rw [List.length_map] at lds
    refine ⟨D2, _, rfl, SqL.of ec, fun Ln_ nLn_ => ?_⟩
    have s7 := sc.trans (same_new (o := HO.tup (ds.map fun d => V.ref d.1)) nLn_)
    have sl := same_new (o := HO.tup (ds.map fun d => V.ref d.1)) nLn_
    have eT : upd Hc Ln_ (HO.tup (ds.map fun d => V.ref d.1)) Ln_ = some (.tup (ds.map fun d => V.ref d.1)) := upd_same
    generalize upd Hc Ln_ (HO.tup (ds.map fun d => V.ref d.1)) = H7 at s7 eT sl ⊢
    have hx7 := s7 _ _ hx6
    have hPa7 := sqT_up hPa6 s7
    have hTs7 := TbsAt.up hTs6 s7
    have hB7 := BsAt.up hB6 s7
    have hT7 := sqT_up hT6 s7
    have K7 : Keep x H H7 := K6.trans (same_keep s7)
    have hD7 : DsAt K H7 Ln_ ds := ⟨SqT.of eT, fun d hd => (hds d hd).up sl⟩
    clear sc ec eT sl hds
    refine ⟨_, rfl, x, C, dx, _, rfl, hx7, T.cl, T.nL, (by show 2 < 1000; decide), ?_⟩
    have k8 : Keep x H7 (upd H7 x (.ins C dx (putF "_placements" (.ref Ln_) (putF "_tables" (.ref Tn) (putF "_parts" (.ref Pa) ([])))))) := keep_upd
    have hx8 : upd H7 x (.ins C dx (putF "_placements" (.ref Ln_) (putF "_tables" (.ref Tn) (putF "_parts" (.ref Pa) ([]))))) x = some (.ins C dx (putF "_placements" (.ref Ln_) (putF "_tables" (.ref Tn) (putF "_parts" (.ref Pa) ([]))))) := upd_same
    generalize upd H7 x (.ins C dx (putF "_placements" (.ref Ln_) (putF "_tables" (.ref Tn) (putF "_parts" (.ref Pa) ([]))))) = H8 at k8 hx8 ⊢
    have hPa8 := off_ins hx7 k8 hPa7
    have hTs8 := TbsAt.kp hx7 k8 hTs7
    have hB8 := BsAt.kp hx7 k8 hB7
    have hT8 := off_ins hx7 k8 hT7
    have hD8 := DsAt.kp hx7 k8 hD7
    have K8 : Keep x H H8 := K7.trans k8
    refine ⟨_, rfl, p, rfl, ⟨_, hTs8.1⟩, fun D3 nD3 => ?_⟩
    refine lc_fil walk_tup nD3 (AP (α := Prs) (fun a st H' => PairsAt K H' a (prL st)) (fun j st => ∀ r, rs[j]? = some r → AscP r.2.st st)) ap_nil (fun H' s' => sqT_up hTs8.1 s') ?_ ?_
    · rintro i v acc H5 H6 hi2 s5 e5 hap ⟨rfl, hv⟩
      rw [List.getElem?_map] at hv
      rw [List.length_map] at hi2
      obtain ⟨r, hr_, rfl⟩ := Option.map_eq_some_iff.mp hv
      have rm := List.mem_of_getElem? hr_
      obtain ⟨d, q, hq, _, hst⟩ := (hTs8.2 r rm).up s5
      obtain ⟨xs, ex, hxs, hxt⟩ := hst
      have oks := (okt.tb r.2 (List.mem_map_of_mem rm)).st.len
      have lx : xs.length = r.2.st.length := by have := congrArg List.length ex; simpa using this
      have nx : ∀ y ∈ xs, y.2 ≠ [] := fun y hy => by
        have := List.mem_map_of_mem (f := Prod.snd) hy
        rw [ex] at this
        obtain ⟨z, _, e⟩ := List.mem_map.mp this
        rw [← e]; simp
      refine ⟨rfl, tt_yes ⟨_, rfl, r.1, _, _, _, rfl, rfl, hq, atI_nat (j := 2) rfl, q, xs, rfl, hxs, hxt, by omega, nx, fun H7 p2 ps2 s7 n7 hA hP => ?_⟩⟩
      rw [ex] at hA
      obtain ⟨st2, rfl, hA2⟩ := asc_prL hA
      exact ap_put (α := Prs) (fun a v l H H' e k h => pairs_off e k h) (fun a v H H' s h => PairsAt.up h s) nD3 s5 e5 s7 hap (by omega) hP fun r' hr' => by rw [hr_] at hr'; cases hr'; exact hA2
    rintro acc Hc sc ec ⟨ss, rfl, lss, hss, oss⟩
    rw [List.length_map] at lss
    refine ⟨D3, _, rfl, SqL.of ec, fun Sn nSn => ?_⟩
    have s9 := sc.trans (same_new (o := HO.tup (ss.map fun d => V.ref d.1)) nSn)
    have sl := same_new (o := HO.tup (ss.map fun d => V.ref d.1)) nSn
    have eT : upd Hc Sn (HO.tup (ss.map fun d => V.ref d.1)) Sn = some (.tup (ss.map fun d => V.ref d.1)) := upd_same
    generalize upd Hc Sn (HO.tup (ss.map fun d => V.ref d.1)) = H9 at s9 eT sl ⊢
    have hx9 := s9 _ _ hx8
    have hPa9 := sqT_up hPa8 s9
    have hTs9 := TbsAt.up hTs8 s9
    have hB9 := BsAt.up hB8 s9
    have hT9 := sqT_up hT8 s9
    have hD9 := DsAt.up hD8 s9
    have K9 : Keep x H H9 := K8.trans (same_keep s9)
    have hS9 : BsAt K H9 Sn ss := ⟨SqT.of eT, fun d hd => (hss d hd).up sl⟩
    clear sc ec eT sl hss
    refine ⟨_, rfl, x, C, dx, _, rfl, hx9, T.cl, T.nS, (by show 3 < 1000; decide), ?_⟩
    have k10 : Keep x H9 (upd H9 x (.ins C dx (putF "_steps" (.ref Sn) (putF "_placements" (.ref Ln_) (putF "_tables" (.ref Tn) (putF "_parts" (.ref Pa) ([]))))))) := keep_upd
    have hx10 : upd H9 x (.ins C dx (putF "_steps" (.ref Sn) (putF "_placements" (.ref Ln_) (putF "_tables" (.ref Tn) (putF "_parts" (.ref Pa) ([])))))) x = some (.ins C dx (putF "_steps" (.ref Sn) (putF "_placements" (.ref Ln_) (putF "_tables" (.ref Tn) (putF "_parts" (.ref Pa) ([])))))) := upd_same
    generalize upd H9 x (.ins C dx (putF "_steps" (.ref Sn) (putF "_placements" (.ref Ln_) (putF "_tables" (.ref Tn) (putF "_parts" (.ref Pa) ([])))))) = H10 at k10 hx10 ⊢
    have hPa10 := off_ins hx9 k10 hPa9
    have hTs10 := TbsAt.kp hx9 k10 hTs9
    have hB10 := BsAt.kp hx9 k10 hB9
    have hT10 := off_ins hx9 k10 hT9
    have hD10 := DsAt.kp hx9 k10 hD9
    have hS10 := BsAt.kp hx9 k10 hS9
    have K10 : Keep x H H10 := K9.trans k10
    refine ⟨_, rfl, B, rfl, ⟨_, hB10.1⟩, fun D4 nD4 => ?_⟩
    refine lc_fil walk_tup nD4 (AP (α := Prs) (fun a st H' => PairsAt K H' a (prL st)) (fun j st => ∀ r, qs[j]? = some r → AscP r.2 st)) ap_nil (fun H' s' => sqT_up hB10.1 s') ?_ ?_
    · rintro i v acc H5 H6 hi2 s5 e5 hap ⟨rfl, hv⟩
      rw [List.getElem?_map] at hv
      rw [List.length_map] at hi2
      obtain ⟨r, hr_, rfl⟩ := Option.map_eq_some_iff.mp hv
      have rm := List.mem_of_getElem? hr_
      obtain ⟨xs, ex, hxs, hxt⟩ := (hB10.2 r rm).up s5
      have oks := okb.few r.2 (by rw [← eb]; exact List.mem_map_of_mem rm)
      have lq := okb.len
      rw [← eb, List.length_map, List.length_map] at lq
      have lx : xs.length = r.2.length := by have := congrArg List.length ex; simpa using this
      have nx : ∀ y ∈ xs, y.2 ≠ [] := fun y hy => by
        have := List.mem_map_of_mem (f := Prod.snd) hy
        rw [ex] at this
        obtain ⟨z, _, e⟩ := List.mem_map.mp this
        rw [← e]; simp
      refine ⟨rfl, tt_yes ⟨_, rfl, r.1, xs, rfl, hxs, hxt, by omega, nx, fun H7 p2 ps2 s7 n7 hA hP => ?_⟩⟩
      rw [ex] at hA
      obtain ⟨st2, rfl, hA2⟩ := asc_prL hA
      exact ap_put (α := Prs) (fun a v l H H' e k h => pairs_off e k h) (fun a v H H' s h => PairsAt.up h s) nD4 s5 e5 s7 hap (by omega) hP fun r' hr' => by rw [hr_] at hr'; cases hr'; exact hA2
    rintro acc Hc sc ec ⟨cs, rfl, lcs, hcs, ocs⟩
    rw [List.length_map] at lcs
    refine ⟨D4, _, rfl, SqL.of ec, fun Qn nQn => ?_⟩
    have s11 := sc.trans (same_new (o := HO.tup (cs.map fun d => V.ref d.1)) nQn)
    have sl := same_new (o := HO.tup (cs.map fun d => V.ref d.1)) nQn
    have eT : upd Hc Qn (HO.tup (cs.map fun d => V.ref d.1)) Qn = some (.tup (cs.map fun d => V.ref d.1)) := upd_same
    generalize upd Hc Qn (HO.tup (cs.map fun d => V.ref d.1)) = H11 at s11 eT sl ⊢
    have hx11 := s11 _ _ hx10
    have hPa11 := sqT_up hPa10 s11
    have hTs11 := TbsAt.up hTs10 s11
    have hB11 := BsAt.up hB10 s11
    have hT11 := sqT_up hT10 s11
    have hD11 := DsAt.up hD10 s11
    have hS11 := BsAt.up hS10 s11
    have K11 : Keep x H H11 := K10.trans (same_keep s11)
    have hQ11 : BsAt K H11 Qn cs := ⟨SqT.of eT, fun d hd => (hcs d hd).up sl⟩
    clear sc ec eT sl hcs
    refine ⟨_, rfl, x, C, dx, _, rfl, hx11, T.cl, T.nB, (by show 4 < 1000; decide), ?_⟩
    have k12 : Keep x H11 (upd H11 x (.ins C dx (putF "_bonds" (.ref Qn) (putF "_steps" (.ref Sn) (putF "_placements" (.ref Ln_) (putF "_tables" (.ref Tn) (putF "_parts" (.ref Pa) ([])))))))) := keep_upd
    have hx12 : upd H11 x (.ins C dx (putF "_bonds" (.ref Qn) (putF "_steps" (.ref Sn) (putF "_placements" (.ref Ln_) (putF "_tables" (.ref Tn) (putF "_parts" (.ref Pa) ([]))))))) x = some (.ins C dx (putF "_bonds" (.ref Qn) (putF "_steps" (.ref Sn) (putF "_placements" (.ref Ln_) (putF "_tables" (.ref Tn) (putF "_parts" (.ref Pa) ([]))))))) := upd_same
    generalize upd H11 x (.ins C dx (putF "_bonds" (.ref Qn) (putF "_steps" (.ref Sn) (putF "_placements" (.ref Ln_) (putF "_tables" (.ref Tn) (putF "_parts" (.ref Pa) ([]))))))) = H12 at k12 hx12 ⊢
    have hPa12 := off_ins hx11 k12 hPa11
    have hTs12 := TbsAt.kp hx11 k12 hTs11
    have hB12 := BsAt.kp hx11 k12 hB11
    have hT12 := off_ins hx11 k12 hT11
    have hD12 := DsAt.kp hx11 k12 hD11
    have hS12 := BsAt.kp hx11 k12 hS11
    have hQ12 := BsAt.kp hx11 k12 hQ11
    have K12 : Keep x H H12 := K11.trans k12
    have lds : ds.length = rs.length := lds
    have lss : ss.length = rs.length := lss
    have lcs : cs.length = qs.length := lcs
    obtain ⟨d0, hd0⟩ : ∃ d0, ds[0]? = some d0 := ⟨ds[0]'(by omega), List.getElem?_eq_getElem _⟩
    obtain ⟨r0, hr0⟩ : ∃ r0, rs[0]? = some r0 := ⟨rs[0]'(by omega), List.getElem?_eq_getElem _⟩
    obtain ⟨mk1, mk2, mk3, mk4, mk5⟩ := mk_all (ts := rs.map Prod.snd) (ps := ds.map Prod.snd) (ss := ss.map Prod.snd) (by simp [lds]) (by simp [lss])
    have f0 : fst0 (mkTs (rs.map Prod.snd) (ds.map Prod.snd) (ss.map Prod.snd)) = d0.2.map Prod.fst := by
      unfold fst0
      rw [mk3]
      cases ds with
      | nil => simp at hd0
      | cons y ys => obtain rfl : y = d0 := Option.some.inj hd0; rfl
    have nrm : NormTs (rs.map Prod.snd) (mkTs (rs.map Prod.snd) (ds.map Prod.snd) (ss.map Prod.snd)) := ⟨mk1, fun i t u ht hu => by
      obtain ⟨e1, e2, e3⟩ := mk5 i t u ht hu
      rw [List.getElem?_map] at ht e2 e3
      obtain ⟨r, hr_, rfl⟩ := Option.map_eq_some_iff.mp ht
      obtain ⟨d, hd_, ed⟩ := Option.map_eq_some_iff.mp e2
      obtain ⟨s, hs_, es⟩ := Option.map_eq_some_iff.mp e3
      obtain ⟨pm, up⟩ := ods i d hd_ r hr_
      have as := oss i s hs_ r hr_
      rw [ed] at pm up
      rw [es] at as
      exact ⟨e1, pm, up, as⟩⟩
    have nrb : NormBs bs (cs.map Prod.snd) := ⟨by rw [← eb]; simp [lcs], fun i b c hb hc => by
      rw [← eb] at hb
      rw [List.getElem?_map] at hb hc
      obtain ⟨q, hq, rfl⟩ := Option.map_eq_some_iff.mp hb
      obtain ⟨c', hc', rfl⟩ := Option.map_eq_some_iff.mp hc
      exact ocs i c' hc' q hq⟩
    have hjj := hj _ _ nrm nrb
    rw [f0] at hjj
    have fb : ∀ b ∈ cs, b.2.length ≤ 64 := fun b hb => by
      obtain ⟨i, hi_⟩ := List.getElem?_of_mem hb
      have h1 := (List.getElem?_eq_some_iff.mp hi_).1
      obtain ⟨q, hq⟩ : ∃ q, qs[i]? = some q := ⟨qs[i]'(by omega), List.getElem?_eq_getElem _⟩
      have h2 := (ocs i b hi_ q hq).len
      have h3 := okb.few q.2 (by rw [← eb]; exact List.mem_map_of_mem (List.mem_of_getElem? hq))
      omega
    have lq := okb.len
    rw [← eb, List.length_map, List.length_map] at lq
    have n6 : (d0.2.map Prod.fst).length ≤ 6 := by
      rw [List.length_map, (ods 0 d0 hd0 r0 hr0).1.length_eq]
      exact (okt.tb r0.2 (List.mem_map_of_mem (List.mem_of_getElem? hr0))).pl.hi
    have fw : ∀ i, (joins (d0.2.map Prod.fst) ((cs.map Prod.snd).take i)).length ≤ 100000 := fun i => joins_few n6 (by rw [List.length_take, List.length_map]; omega) fun b hb => by
      obtain ⟨c, hc, rfl⟩ := List.mem_map.mp (List.mem_of_mem_take hb)
      exact fb c hc
    refine ⟨_, rfl, x, C, dx, _, _, rfl, hx12, T.cl, T.nL, (by rw [lk_ne (by decide +kernel), lk_ne (by decide +kernel)]; exact lk_eq), Ln_, _, _, _, rfl, rfl, hD12.1, atI_nat (j := 0) (by rw [List.getElem?_map, hd0]; rfl), _, rfl, x, C, dx, _, _, rfl, hx12, T.cl, T.nB, lk_eq, d0.1, Qn, d0.2, cs, rfl, hD12.2 d0 (List.mem_of_getElem? hd0), hQ12, by omega, fw, fb, fun H90 Jn s90 n90 hJ90 => ?_⟩
    have hx90 := s90 _ _ hx12
    have hPa90 := sqT_up hPa12 s90
    have hT90 := sqT_up hT12 s90
    have hD90 := DsAt.up hD12 s90
    have hS90 := BsAt.up hS12 s90
    have hQ90 := BsAt.up hQ12 s90
    refine ⟨_, rfl, x, C, dx, _, rfl, hx90, T.cl, T.nJ, (by show 5 < 1000; decide), ?_⟩
    have k91 : Keep x H90 (upd H90 x (.ins C dx (putF "_joints" (.ref Jn) (putF "_bonds" (.ref Qn) (putF "_steps" (.ref Sn) (putF "_placements" (.ref Ln_) (putF "_tables" (.ref Tn) (putF "_parts" (.ref Pa) ([]))))))))) := keep_upd
    have hx91 : upd H90 x (.ins C dx (putF "_joints" (.ref Jn) (putF "_bonds" (.ref Qn) (putF "_steps" (.ref Sn) (putF "_placements" (.ref Ln_) (putF "_tables" (.ref Tn) (putF "_parts" (.ref Pa) ([])))))))) x = some (.ins C dx (putF "_joints" (.ref Jn) (putF "_bonds" (.ref Qn) (putF "_steps" (.ref Sn) (putF "_placements" (.ref Ln_) (putF "_tables" (.ref Tn) (putF "_parts" (.ref Pa) ([])))))))) := upd_same
    generalize upd H90 x (.ins C dx (putF "_joints" (.ref Jn) (putF "_bonds" (.ref Qn) (putF "_steps" (.ref Sn) (putF "_placements" (.ref Ln_) (putF "_tables" (.ref Tn) (putF "_parts" (.ref Pa) ([])))))))) = H91 at k91 hx91 ⊢
    have hPa91 := off_ins hx90 k91 hPa90
    have hT91 := off_ins hx90 k91 hT90
    have hD91 := DsAt.kp hx90 k91 hD90
    have hS91 := BsAt.kp hx90 k91 hS90
    have hQ91 := BsAt.kp hx90 k91 hQ90
    have hJ91 := PairsAt.kp hx90 k91 hJ90
    have K91 : Keep x H H91 := (K12.trans (same_keep s90)).trans k91
    obtain ⟨js, ejs, hjs, hjt⟩ := id hJ91
    have ljs : js.length = (joins (d0.2.map Prod.fst) (cs.map Prod.snd)).length := by rw [← ejs, List.length_map]
    refine ⟨_, rfl, x, C, dx, _, _, rfl, hx91, T.cl, T.nJ, lk_eq, Jn, _, rfl, hjs, rfl, _, rfl, ?_⟩
    rw [decide_eq_false (fun z => by have := V.int.inj z; rw [List.length_map] at this; omega)]
    refine iteF ?_
    refine ⟨_, rfl, x, C, dx, _, _, rfl, hx91, T.cl, T.nJ, lk_eq, Jn, _, rfl, hjs, _, _, rfl, rfl, _, rfl, ?_⟩
    rw [decide_eq_false (by rw [List.length_map]; omega)]
    refine iteF ?_
    refine k H91 _ _ K91 nrm nrb ⟨dx, Pa, Tn, Ln_, Sn, Qn, Jn, ds, ss, cs, hx91, hPa91, ?_, hD91, mk3.symm, hS91, mk4.symm, hQ91, rfl, ?_⟩
    · rw [mk2]; exact hT91
    · rw [f0]; exact hJ91
  · refine ⟨_, rfl, _, rfl, p, .ref B, rs, rfl, hTs.up s12, by omega, .inr ⟨B, qs, rfl, hB.up s12, by rw [eb]; exact okb, fun H3 s3 => ⟨_, rfl, iteF ?_⟩⟩⟩
    refine ⟨_, rfl, false, congrArg V.bl (decide_eq_false (fun z => by cases z)), iteF ⟨_, rfl, ?_⟩⟩
    have sw := s12.trans s3
    have hB3 := hB.up sw
    have hx3 := sw _ _ hx
    have hPa3 := sqT_up hPa sw
    have hTs3 := hTs.up sw
    have K3 : Keep x H H3 := same_keep sw
    clear sw s12 s1 s2 s3
    refine ⟨_, rfl, ?_⟩
    refine ⟨_, rfl, x, C, dx, _, rfl, hx3, T.cl, T.nP, (by show 0 < 1000; decide), ?_⟩
    have k4 : Keep x H3 (upd H3 x (.ins C dx (putF "_parts" (.ref Pa) ([])))) := keep_upd
    have hx4 : upd H3 x (.ins C dx (putF "_parts" (.ref Pa) ([]))) x = some (.ins C dx (putF "_parts" (.ref Pa) ([]))) := upd_same
    generalize upd H3 x (.ins C dx (putF "_parts" (.ref Pa) ([]))) = H4 at k4 hx4 ⊢
    have hPa4 := off_ins hx3 k4 hPa3
    have hTs4 := TbsAt.kp hx3 k4 hTs3
    have hB4 := BsAt.kp hx3 k4 hB3
    have K4 : Keep x H H4 := K3.trans k4
    refine ⟨_, rfl, p, rfl, ⟨_, hTs4.1⟩, fun D nD => ?_⟩
    refine lc_fil walk_tup nD (fun i acc _ => acc = (rs.take i).map fun r => V.str r.2.nm) rfl (fun H' s' => sqT_up hTs4.1 s') ?_ ?_
    · rintro i v acc H5 H6 hi2 s5 e5 rfl ⟨rfl, hv⟩
      rw [List.getElem?_map] at hv
      obtain ⟨r, hr_, rfl⟩ := Option.map_eq_some_iff.mp hv
      obtain ⟨d, q, hq, _⟩ := (hTs4.2 r (List.mem_of_getElem? hr_)).up s5
      refine ⟨rfl, tt_yes ⟨_, rfl, r.1, _, _, _, rfl, rfl, hq, atI_nat (j := 0) rfl, ?_⟩⟩
      exact put_of nD (fun _ _ _ _ _ _ _ z => z) s5 e5 (Same.refl _) (by rw [List.length_map, List.length_take, sizeLine_eq]; omega) (by rw [List.take_add_one, hr_, List.map_append]; rfl)
    rintro acc Hc sc ec rfl
    refine ⟨D, _, rfl, SqL.of ec, fun Tn nTn => ?_⟩
    have eT : upd Hc Tn (HO.tup ((rs.take (rs.map fun r => V.ref r.1).length).map fun r => V.str r.2.nm)) Tn = some (.tup ((rs.map Prod.snd).map fun t => V.str t.nm)) := by rw [upd_same, List.length_map, List.take_length, List.map_map]; rfl
    have s5 := sc.trans (same_new (o := HO.tup ((rs.take (rs.map fun r => V.ref r.1).length).map fun r => V.str r.2.nm)) nTn)
    generalize upd Hc Tn (HO.tup ((rs.take (rs.map fun r => V.ref r.1).length).map fun r => V.str r.2.nm)) = H5 at s5 eT ⊢
    clear sc ec
    have hx5 := s5 _ _ hx4
    have hPa5 := sqT_up hPa4 s5
    have hTs5 := TbsAt.up hTs4 s5
    have hB5 := BsAt.up hB4 s5
    have K5 : Keep x H H5 := K4.trans (same_keep s5)
    have hT5 : SqT K H5 Tn ((rs.map Prod.snd).map fun t => V.str t.nm) := SqT.of eT
    refine ⟨_, rfl, x, C, dx, _, rfl, hx5, T.cl, T.nT, (by show 1 < 1000; decide), ?_⟩
    have k6 : Keep x H5 (upd H5 x (.ins C dx (putF "_tables" (.ref Tn) (putF "_parts" (.ref Pa) ([]))))) := keep_upd
    have hx6 : upd H5 x (.ins C dx (putF "_tables" (.ref Tn) (putF "_parts" (.ref Pa) ([])))) x = some (.ins C dx (putF "_tables" (.ref Tn) (putF "_parts" (.ref Pa) ([])))) := upd_same
    generalize upd H5 x (.ins C dx (putF "_tables" (.ref Tn) (putF "_parts" (.ref Pa) ([])))) = H6 at k6 hx6 ⊢
    have hPa6 := off_ins hx5 k6 hPa5
    have hTs6 := TbsAt.kp hx5 k6 hTs5
    have hB6 := BsAt.kp hx5 k6 hB5
    have hT6 := off_ins hx5 k6 hT5
    have K6 : Keep x H H6 := K5.trans k6
    refine ⟨_, rfl, p, rfl, ⟨_, hTs6.1⟩, fun D2 nD2 => ?_⟩
    refine lc_fil walk_tup nD2 (AP (α := List (Str × List Str)) (fun a pl H' => PlAt K H' a pl) (fun j pl => ∀ r, rs[j]? = some r → pl.Perm r.2.pl ∧ (pl.map Prod.fst).Pairwise fun x y => sg1 x < sg1 y)) ap_nil (fun H' s' => sqT_up hTs6.1 s') ?_ ?_
    · rintro i v acc H5 H6 hi2 s5 e5 hap ⟨rfl, hv⟩
      rw [List.getElem?_map] at hv
      rw [List.length_map] at hi2
      obtain ⟨r, hr_, rfl⟩ := Option.map_eq_some_iff.mp hv
      have rm := List.mem_of_getElem? hr_
      obtain ⟨d, q, hq, hd, _⟩ := (hTs6.2 r rm).up s5
      have okp := (okt.tb r.2 (List.mem_map_of_mem rm)).pl
      refine ⟨rfl, tt_yes ⟨_, rfl, r.1, _, _, _, rfl, rfl, hq, atI_nat (j := 1) rfl, d, r.2.pl, rfl, hd, okp.dif, by have := okp.hi; omega, fun H7 p2 pl2 s7 n7 pm up hpl => ?_⟩⟩
      exact ap_put (fun a v l H H' e k h => pl_off e k h) (fun a v H H' s h => h.up s) nD2 s5 e5 s7 hap (by omega) hpl fun r' hr' => by rw [hr_] at hr'; cases hr'; exact ⟨pm, up⟩
    rintro acc Hc sc ec ⟨ds, rfl, lds, hds, ods⟩
    rw [List.length_map] at lds
    refine ⟨D2, _, rfl, SqL.of ec, fun Ln_ nLn_ => ?_⟩
    have s7 := sc.trans (same_new (o := HO.tup (ds.map fun d => V.ref d.1)) nLn_)
    have sl := same_new (o := HO.tup (ds.map fun d => V.ref d.1)) nLn_
    have eT : upd Hc Ln_ (HO.tup (ds.map fun d => V.ref d.1)) Ln_ = some (.tup (ds.map fun d => V.ref d.1)) := upd_same
    generalize upd Hc Ln_ (HO.tup (ds.map fun d => V.ref d.1)) = H7 at s7 eT sl ⊢
    have hx7 := s7 _ _ hx6
    have hPa7 := sqT_up hPa6 s7
    have hTs7 := TbsAt.up hTs6 s7
    have hB7 := BsAt.up hB6 s7
    have hT7 := sqT_up hT6 s7
    have K7 : Keep x H H7 := K6.trans (same_keep s7)
    have hD7 : DsAt K H7 Ln_ ds := ⟨SqT.of eT, fun d hd => (hds d hd).up sl⟩
    clear sc ec eT sl hds
    refine ⟨_, rfl, x, C, dx, _, rfl, hx7, T.cl, T.nL, (by show 2 < 1000; decide), ?_⟩
    have k8 : Keep x H7 (upd H7 x (.ins C dx (putF "_placements" (.ref Ln_) (putF "_tables" (.ref Tn) (putF "_parts" (.ref Pa) ([])))))) := keep_upd
    have hx8 : upd H7 x (.ins C dx (putF "_placements" (.ref Ln_) (putF "_tables" (.ref Tn) (putF "_parts" (.ref Pa) ([]))))) x = some (.ins C dx (putF "_placements" (.ref Ln_) (putF "_tables" (.ref Tn) (putF "_parts" (.ref Pa) ([]))))) := upd_same
    generalize upd H7 x (.ins C dx (putF "_placements" (.ref Ln_) (putF "_tables" (.ref Tn) (putF "_parts" (.ref Pa) ([]))))) = H8 at k8 hx8 ⊢
    have hPa8 := off_ins hx7 k8 hPa7
    have hTs8 := TbsAt.kp hx7 k8 hTs7
    have hB8 := BsAt.kp hx7 k8 hB7
    have hT8 := off_ins hx7 k8 hT7
    have hD8 := DsAt.kp hx7 k8 hD7
    have K8 : Keep x H H8 := K7.trans k8
    refine ⟨_, rfl, p, rfl, ⟨_, hTs8.1⟩, fun D3 nD3 => ?_⟩
    refine lc_fil walk_tup nD3 (AP (α := Prs) (fun a st H' => PairsAt K H' a (prL st)) (fun j st => ∀ r, rs[j]? = some r → AscP r.2.st st)) ap_nil (fun H' s' => sqT_up hTs8.1 s') ?_ ?_
    · rintro i v acc H5 H6 hi2 s5 e5 hap ⟨rfl, hv⟩
      rw [List.getElem?_map] at hv
      rw [List.length_map] at hi2
      obtain ⟨r, hr_, rfl⟩ := Option.map_eq_some_iff.mp hv
      have rm := List.mem_of_getElem? hr_
      obtain ⟨d, q, hq, _, hst⟩ := (hTs8.2 r rm).up s5
      obtain ⟨xs, ex, hxs, hxt⟩ := hst
      have oks := (okt.tb r.2 (List.mem_map_of_mem rm)).st.len
      have lx : xs.length = r.2.st.length := by have := congrArg List.length ex; simpa using this
      have nx : ∀ y ∈ xs, y.2 ≠ [] := fun y hy => by
        have := List.mem_map_of_mem (f := Prod.snd) hy
        rw [ex] at this
        obtain ⟨z, _, e⟩ := List.mem_map.mp this
        rw [← e]; simp
      refine ⟨rfl, tt_yes ⟨_, rfl, r.1, _, _, _, rfl, rfl, hq, atI_nat (j := 2) rfl, q, xs, rfl, hxs, hxt, by omega, nx, fun H7 p2 ps2 s7 n7 hA hP => ?_⟩⟩
      rw [ex] at hA
      obtain ⟨st2, rfl, hA2⟩ := asc_prL hA
      exact ap_put (α := Prs) (fun a v l H H' e k h => pairs_off e k h) (fun a v H H' s h => PairsAt.up h s) nD3 s5 e5 s7 hap (by omega) hP fun r' hr' => by rw [hr_] at hr'; cases hr'; exact hA2
    rintro acc Hc sc ec ⟨ss, rfl, lss, hss, oss⟩
    rw [List.length_map] at lss
    refine ⟨D3, _, rfl, SqL.of ec, fun Sn nSn => ?_⟩
    have s9 := sc.trans (same_new (o := HO.tup (ss.map fun d => V.ref d.1)) nSn)
    have sl := same_new (o := HO.tup (ss.map fun d => V.ref d.1)) nSn
    have eT : upd Hc Sn (HO.tup (ss.map fun d => V.ref d.1)) Sn = some (.tup (ss.map fun d => V.ref d.1)) := upd_same
    generalize upd Hc Sn (HO.tup (ss.map fun d => V.ref d.1)) = H9 at s9 eT sl ⊢
    have hx9 := s9 _ _ hx8
    have hPa9 := sqT_up hPa8 s9
    have hTs9 := TbsAt.up hTs8 s9
    have hB9 := BsAt.up hB8 s9
    have hT9 := sqT_up hT8 s9
    have hD9 := DsAt.up hD8 s9
    have K9 : Keep x H H9 := K8.trans (same_keep s9)
    have hS9 : BsAt K H9 Sn ss := ⟨SqT.of eT, fun d hd => (hss d hd).up sl⟩
    clear sc ec eT sl hss
    refine ⟨_, rfl, x, C, dx, _, rfl, hx9, T.cl, T.nS, (by show 3 < 1000; decide), ?_⟩
    have k10 : Keep x H9 (upd H9 x (.ins C dx (putF "_steps" (.ref Sn) (putF "_placements" (.ref Ln_) (putF "_tables" (.ref Tn) (putF "_parts" (.ref Pa) ([]))))))) := keep_upd
    have hx10 : upd H9 x (.ins C dx (putF "_steps" (.ref Sn) (putF "_placements" (.ref Ln_) (putF "_tables" (.ref Tn) (putF "_parts" (.ref Pa) ([])))))) x = some (.ins C dx (putF "_steps" (.ref Sn) (putF "_placements" (.ref Ln_) (putF "_tables" (.ref Tn) (putF "_parts" (.ref Pa) ([])))))) := upd_same
    generalize upd H9 x (.ins C dx (putF "_steps" (.ref Sn) (putF "_placements" (.ref Ln_) (putF "_tables" (.ref Tn) (putF "_parts" (.ref Pa) ([])))))) = H10 at k10 hx10 ⊢
    have hPa10 := off_ins hx9 k10 hPa9
    have hTs10 := TbsAt.kp hx9 k10 hTs9
    have hB10 := BsAt.kp hx9 k10 hB9
    have hT10 := off_ins hx9 k10 hT9
    have hD10 := DsAt.kp hx9 k10 hD9
    have hS10 := BsAt.kp hx9 k10 hS9
    have K10 : Keep x H H10 := K9.trans k10
    refine ⟨_, rfl, B, rfl, ⟨_, hB10.1⟩, fun D4 nD4 => ?_⟩
    refine lc_fil walk_tup nD4 (AP (α := Prs) (fun a st H' => PairsAt K H' a (prL st)) (fun j st => ∀ r, qs[j]? = some r → AscP r.2 st)) ap_nil (fun H' s' => sqT_up hB10.1 s') ?_ ?_
    · rintro i v acc H5 H6 hi2 s5 e5 hap ⟨rfl, hv⟩
      rw [List.getElem?_map] at hv
      rw [List.length_map] at hi2
      obtain ⟨r, hr_, rfl⟩ := Option.map_eq_some_iff.mp hv
      have rm := List.mem_of_getElem? hr_
      obtain ⟨xs, ex, hxs, hxt⟩ := (hB10.2 r rm).up s5
      have oks := okb.few r.2 (by rw [← eb]; exact List.mem_map_of_mem rm)
      have lq := okb.len
      rw [← eb, List.length_map, List.length_map] at lq
      have lx : xs.length = r.2.length := by have := congrArg List.length ex; simpa using this
      have nx : ∀ y ∈ xs, y.2 ≠ [] := fun y hy => by
        have := List.mem_map_of_mem (f := Prod.snd) hy
        rw [ex] at this
        obtain ⟨z, _, e⟩ := List.mem_map.mp this
        rw [← e]; simp
      refine ⟨rfl, tt_yes ⟨_, rfl, r.1, xs, rfl, hxs, hxt, by omega, nx, fun H7 p2 ps2 s7 n7 hA hP => ?_⟩⟩
      rw [ex] at hA
      obtain ⟨st2, rfl, hA2⟩ := asc_prL hA
      exact ap_put (α := Prs) (fun a v l H H' e k h => pairs_off e k h) (fun a v H H' s h => PairsAt.up h s) nD4 s5 e5 s7 hap (by omega) hP fun r' hr' => by rw [hr_] at hr'; cases hr'; exact hA2
    rintro acc Hc sc ec ⟨cs, rfl, lcs, hcs, ocs⟩
    rw [List.length_map] at lcs
    refine ⟨D4, _, rfl, SqL.of ec, fun Qn nQn => ?_⟩
    have s11 := sc.trans (same_new (o := HO.tup (cs.map fun d => V.ref d.1)) nQn)
    have sl := same_new (o := HO.tup (cs.map fun d => V.ref d.1)) nQn
    have eT : upd Hc Qn (HO.tup (cs.map fun d => V.ref d.1)) Qn = some (.tup (cs.map fun d => V.ref d.1)) := upd_same
    generalize upd Hc Qn (HO.tup (cs.map fun d => V.ref d.1)) = H11 at s11 eT sl ⊢
    have hx11 := s11 _ _ hx10
    have hPa11 := sqT_up hPa10 s11
    have hTs11 := TbsAt.up hTs10 s11
    have hB11 := BsAt.up hB10 s11
    have hT11 := sqT_up hT10 s11
    have hD11 := DsAt.up hD10 s11
    have hS11 := BsAt.up hS10 s11
    have K11 : Keep x H H11 := K10.trans (same_keep s11)
    have hQ11 : BsAt K H11 Qn cs := ⟨SqT.of eT, fun d hd => (hcs d hd).up sl⟩
    clear sc ec eT sl hcs
    refine ⟨_, rfl, x, C, dx, _, rfl, hx11, T.cl, T.nB, (by show 4 < 1000; decide), ?_⟩
    have k12 : Keep x H11 (upd H11 x (.ins C dx (putF "_bonds" (.ref Qn) (putF "_steps" (.ref Sn) (putF "_placements" (.ref Ln_) (putF "_tables" (.ref Tn) (putF "_parts" (.ref Pa) ([])))))))) := keep_upd
    have hx12 : upd H11 x (.ins C dx (putF "_bonds" (.ref Qn) (putF "_steps" (.ref Sn) (putF "_placements" (.ref Ln_) (putF "_tables" (.ref Tn) (putF "_parts" (.ref Pa) ([]))))))) x = some (.ins C dx (putF "_bonds" (.ref Qn) (putF "_steps" (.ref Sn) (putF "_placements" (.ref Ln_) (putF "_tables" (.ref Tn) (putF "_parts" (.ref Pa) ([]))))))) := upd_same
    generalize upd H11 x (.ins C dx (putF "_bonds" (.ref Qn) (putF "_steps" (.ref Sn) (putF "_placements" (.ref Ln_) (putF "_tables" (.ref Tn) (putF "_parts" (.ref Pa) ([]))))))) = H12 at k12 hx12 ⊢
    have hPa12 := off_ins hx11 k12 hPa11
    have hTs12 := TbsAt.kp hx11 k12 hTs11
    have hB12 := BsAt.kp hx11 k12 hB11
    have hT12 := off_ins hx11 k12 hT11
    have hD12 := DsAt.kp hx11 k12 hD11
    have hS12 := BsAt.kp hx11 k12 hS11
    have hQ12 := BsAt.kp hx11 k12 hQ11
    have K12 : Keep x H H12 := K11.trans k12
    have lds : ds.length = rs.length := lds
    have lss : ss.length = rs.length := lss
    have lcs : cs.length = qs.length := lcs
    obtain ⟨d0, hd0⟩ : ∃ d0, ds[0]? = some d0 := ⟨ds[0]'(by omega), List.getElem?_eq_getElem _⟩
    obtain ⟨r0, hr0⟩ : ∃ r0, rs[0]? = some r0 := ⟨rs[0]'(by omega), List.getElem?_eq_getElem _⟩
    obtain ⟨mk1, mk2, mk3, mk4, mk5⟩ := mk_all (ts := rs.map Prod.snd) (ps := ds.map Prod.snd) (ss := ss.map Prod.snd) (by simp [lds]) (by simp [lss])
    have f0 : fst0 (mkTs (rs.map Prod.snd) (ds.map Prod.snd) (ss.map Prod.snd)) = d0.2.map Prod.fst := by
      unfold fst0
      rw [mk3]
      cases ds with
      | nil => simp at hd0
      | cons y ys => obtain rfl : y = d0 := Option.some.inj hd0; rfl
    have nrm : NormTs (rs.map Prod.snd) (mkTs (rs.map Prod.snd) (ds.map Prod.snd) (ss.map Prod.snd)) := ⟨mk1, fun i t u ht hu => by
      obtain ⟨e1, e2, e3⟩ := mk5 i t u ht hu
      rw [List.getElem?_map] at ht e2 e3
      obtain ⟨r, hr_, rfl⟩ := Option.map_eq_some_iff.mp ht
      obtain ⟨d, hd_, ed⟩ := Option.map_eq_some_iff.mp e2
      obtain ⟨s, hs_, es⟩ := Option.map_eq_some_iff.mp e3
      obtain ⟨pm, up⟩ := ods i d hd_ r hr_
      have as := oss i s hs_ r hr_
      rw [ed] at pm up
      rw [es] at as
      exact ⟨e1, pm, up, as⟩⟩
    have nrb : NormBs bs (cs.map Prod.snd) := ⟨by rw [← eb]; simp [lcs], fun i b c hb hc => by
      rw [← eb] at hb
      rw [List.getElem?_map] at hb hc
      obtain ⟨q, hq, rfl⟩ := Option.map_eq_some_iff.mp hb
      obtain ⟨c', hc', rfl⟩ := Option.map_eq_some_iff.mp hc
      exact ocs i c' hc' q hq⟩
    have hjj := hj _ _ nrm nrb
    rw [f0] at hjj
    have fb : ∀ b ∈ cs, b.2.length ≤ 64 := fun b hb => by
      obtain ⟨i, hi_⟩ := List.getElem?_of_mem hb
      have h1 := (List.getElem?_eq_some_iff.mp hi_).1
      obtain ⟨q, hq⟩ : ∃ q, qs[i]? = some q := ⟨qs[i]'(by omega), List.getElem?_eq_getElem _⟩
      have h2 := (ocs i b hi_ q hq).len
      have h3 := okb.few q.2 (by rw [← eb]; exact List.mem_map_of_mem (List.mem_of_getElem? hq))
      omega
    have lq := okb.len
    rw [← eb, List.length_map, List.length_map] at lq
    have n6 : (d0.2.map Prod.fst).length ≤ 6 := by
      rw [List.length_map, (ods 0 d0 hd0 r0 hr0).1.length_eq]
      exact (okt.tb r0.2 (List.mem_map_of_mem (List.mem_of_getElem? hr0))).pl.hi
    have fw : ∀ i, (joins (d0.2.map Prod.fst) ((cs.map Prod.snd).take i)).length ≤ 100000 := fun i => joins_few n6 (by rw [List.length_take, List.length_map]; omega) fun b hb => by
      obtain ⟨c, hc, rfl⟩ := List.mem_map.mp (List.mem_of_mem_take hb)
      exact fb c hc
    refine ⟨_, rfl, x, C, dx, _, _, rfl, hx12, T.cl, T.nL, (by rw [lk_ne (by decide +kernel), lk_ne (by decide +kernel)]; exact lk_eq), Ln_, _, _, _, rfl, rfl, hD12.1, atI_nat (j := 0) (by rw [List.getElem?_map, hd0]; rfl), _, rfl, x, C, dx, _, _, rfl, hx12, T.cl, T.nB, lk_eq, d0.1, Qn, d0.2, cs, rfl, hD12.2 d0 (List.mem_of_getElem? hd0), hQ12, by omega, fw, fb, fun H90 Jn s90 n90 hJ90 => ?_⟩
    have hx90 := s90 _ _ hx12
    have hPa90 := sqT_up hPa12 s90
    have hT90 := sqT_up hT12 s90
    have hD90 := DsAt.up hD12 s90
    have hS90 := BsAt.up hS12 s90
    have hQ90 := BsAt.up hQ12 s90
    refine ⟨_, rfl, x, C, dx, _, rfl, hx90, T.cl, T.nJ, (by show 5 < 1000; decide), ?_⟩
    have k91 : Keep x H90 (upd H90 x (.ins C dx (putF "_joints" (.ref Jn) (putF "_bonds" (.ref Qn) (putF "_steps" (.ref Sn) (putF "_placements" (.ref Ln_) (putF "_tables" (.ref Tn) (putF "_parts" (.ref Pa) ([]))))))))) := keep_upd
    have hx91 : upd H90 x (.ins C dx (putF "_joints" (.ref Jn) (putF "_bonds" (.ref Qn) (putF "_steps" (.ref Sn) (putF "_placements" (.ref Ln_) (putF "_tables" (.ref Tn) (putF "_parts" (.ref Pa) ([])))))))) x = some (.ins C dx (putF "_joints" (.ref Jn) (putF "_bonds" (.ref Qn) (putF "_steps" (.ref Sn) (putF "_placements" (.ref Ln_) (putF "_tables" (.ref Tn) (putF "_parts" (.ref Pa) ([])))))))) := upd_same
    generalize upd H90 x (.ins C dx (putF "_joints" (.ref Jn) (putF "_bonds" (.ref Qn) (putF "_steps" (.ref Sn) (putF "_placements" (.ref Ln_) (putF "_tables" (.ref Tn) (putF "_parts" (.ref Pa) ([])))))))) = H91 at k91 hx91 ⊢
    have hPa91 := off_ins hx90 k91 hPa90
    have hT91 := off_ins hx90 k91 hT90
    have hD91 := DsAt.kp hx90 k91 hD90
    have hS91 := BsAt.kp hx90 k91 hS90
    have hQ91 := BsAt.kp hx90 k91 hQ90
    have hJ91 := PairsAt.kp hx90 k91 hJ90
    have K91 : Keep x H H91 := (K12.trans (same_keep s90)).trans k91
    obtain ⟨js, ejs, hjs, hjt⟩ := id hJ91
    have ljs : js.length = (joins (d0.2.map Prod.fst) (cs.map Prod.snd)).length := by rw [← ejs, List.length_map]
    refine ⟨_, rfl, x, C, dx, _, _, rfl, hx91, T.cl, T.nJ, lk_eq, Jn, _, rfl, hjs, rfl, _, rfl, ?_⟩
    rw [decide_eq_false (fun z => by have := V.int.inj z; rw [List.length_map] at this; omega)]
    refine iteF ?_
    refine ⟨_, rfl, x, C, dx, _, _, rfl, hx91, T.cl, T.nJ, lk_eq, Jn, _, rfl, hjs, _, _, rfl, rfl, _, rfl, ?_⟩
    rw [decide_eq_false (by rw [List.length_map]; omega)]
    refine iteF ?_
    refine k H91 _ _ K91 nrm nrb ⟨dx, Pa, Tn, Ln_, Sn, Qn, Jn, ds, ss, cs, hx91, hPa91, ?_, hD91, mk3.symm, hS91, mk4.symm, hQ91, rfl, ?_⟩
    · rw [mk2]; exact hT91
    · rw [f0]; exact hJ91
end
end Rd

/-! Movers: Mover.of, and what a mover tells -/
namespace Rd
open PySem PySem.Spec PyProof.Rows L2 Tq Dn Dc Mk2
abbrev sMps : Stmt := inClass cMover 3
abbrev sMts : Stmt := inClass cMover 4
abbrev sMha : Stmt := inClass cMover 18
abbrev sMtd : Stmt := inClass cMover 25
abbrev sNeedM : Stmt := top 37
def spMo (K : PySem.W.Frag) (C : Addr) : Sp := fun vs H Q _ => ∃ (Pa p : Addr) (v : V) (ps : List Str) (rs : List (Addr × Tb)) (bs : List Prs), vs = [.ref C, .ref Pa, .ref p, v] ∧ SqT K H Pa (ps.map V.str) ∧ OkParts ps ∧ TbsAt K H p rs ∧ OkTbs ps (rs.map Prod.snd) ∧
  Allowed K H v (rs.map Prod.snd) bs ∧ (∀ us cs, NormTs (rs.map Prod.snd) us → NormBs bs cs → 1 ≤ (joins (fst0 us) cs).length ∧ (joins (fst0 us) cs).length ≤ 40) ∧
  ∀ H' m us cs, Same H H' → H m = none → NormTs (rs.map Prod.snd) us → NormBs bs cs → MvAt K C H' m ps us cs → Q (.ref m) H'
def spMoK (K : PySem.W.Frag) (C : Addr) : List V → Option V → Hp → VK → XK → Prop := fun vs vz H Q E => ∃ x y z, vs = [x, y, z] ∧ spMo K C [x, y, z, vz.getD .non] H Q E
/-- a mover made by its class, of the tables one by one -/
theorem made_mv {K : PySem.W.Frag} {C : Addr} {H : Hp} {Pa : Addr} {vz : Option V} {ps : List Str} {rs : List (Addr × Tb)} {bs : List Prs} {Q : VK} {E : XK} (hPa : SqT K H Pa (ps.map V.str)) (okp : OkParts ps) (hTs : ∀ r ∈ rs, TbAt K H r.1 r.2) (okt : OkTbs ps (rs.map Prod.snd))
    (hAl : Allowed K H (vz.getD .non) (rs.map Prod.snd) bs) (hj : ∀ us cs, NormTs (rs.map Prod.snd) us → NormBs bs cs → 1 ≤ (joins (fst0 us) cs).length ∧ (joins (fst0 us) cs).length ≤ 40)
    (k : ∀ H' m us cs, Same H H' → H m = none → NormTs (rs.map Prod.snd) us → NormBs bs cs → MvAt K C H' m ps us cs → Q (.ref m) H') {x dx : Addr} (nx : H x = none) (nd : H dx = none) (ne : dx ≠ x) :
    spMiK K C (.ref x :: .ref Pa :: (rs.map fun r => V.ref r.1)) vz (upd (upd H dx (.own x)) x (.ins C dx [])) (fun v H2 => v = .non ∧ Q (.ref x) H2) E := by
  have s1 : Same H (upd (upd H dx (.own x)) x (.ins C dx [])) := same_to nx (same_new nd)
  have hi := okt.hi
  rw [List.length_map] at hi
  refine ⟨_, _, _, rfl, by rw [List.length_map, sizeLine_eq]; omega, fun q nq => ?_⟩
  have s2 := s1.trans (same_new (o := HO.tup (rs.map fun r => V.ref r.1)) nq)
  refine ⟨x, dx, Pa, q, vz.getD .non, ps, rs, bs, rfl, same_new nq _ _ upd_same, sqT_up hPa s2, okp, ⟨SqT.of upd_same, fun r hr => (hTs r hr).up s2⟩, okt, hAl.up s2, hj, fun H' us cs kp n1 n2 hM => ⟨rfl, k H' x us cs (fun b o hb => kp b o (ne_of_none hb nx) (s2 b o hb)) nx n1 n2 hM⟩⟩
section
variable {P : Program} {w : World} {K : PySem.W.Frag} {mg : Str → Option Value} {base : Heap}
theorem scMo : FnScope ["cls", "parts", "tables", "bonds"] ["cls", "parts", "tables", "bonds"] (defScope sMo) := ⟨rfl, rfl, rfl, by decide +kernel, rfl, by decide +kernel, by decide +kernel⟩
theorem ok_mo {C f g D : Addr} (F : FunK K "of" "Mover.of" sMo f D) (T : TxM K mg) (M : Mk K C g) (G : FnRK P w K mg base CX0 7 g "bonds" (spMiK K C)) : FnRK P w K mg base CX0 9 f "bonds" (spMoK K C) := by
  obtain ⟨oc, doc, pm, cdv, ct, od, an, osl, lk, hcd⟩ := F.ex
  refine fn_onlyK (p1 := "cls") (p2 := "parts") (p3 := "tables") lk hcd scMo F.dn (fun a b c x => rfl) (fun a b c => ⟨_, _, _, _, _, _, rfl, rfl, rfl⟩) (fun A outer s H vs Q E hr h => ?_)
  obtain ⟨Pa, p, v, ps, rs, bs, rfl, hPa, okp, hTs, okt, hAl, hj, k⟩ := h
  refine ⟨_, (pss_cons (ps_if (pt_not (pt_val (pe_callB call_isi (by rfl) T.isi PyProof.Rows.boot_isinstance (pa_cons (pv 2) (pa_cons (pe_bltn (v := .ty "tuple") (by rfl) T.tuple PyProof.Rows.boot_tuple rfl) pa_nil))))) (pss_one ps_never) pss_nil)
      (pss_one (ps_ret (pe_clsSK (i := 0) (E := E) M G hr rfl (Or.inl rfl) pass0 (pa_cons (pv 1) (StX.pa_star (pv 2) pa_nil)) (pk_cons (pv 3) pk_nil))))), ?_⟩
  refine ⟨_, rfl, .ref p, .ty "tuple", .type "tuple", .type "tuple", true, rfl, .ty _, sqT_ty hTs.1, kit_ty (by decide +kernel), _, rfl, iteF ?_⟩
  refine ⟨rfl, _, rfl, _, rfl, p, _, rfl, .inl hTs.1, _, rfl, v, rfl, fun x dx nx nd ne => ?_⟩
  rw [List.append_nil]
  exact made_mv (vz := some v) hPa okp hTs.2 okt hAl hj k nx nd ne
end
end Rd

namespace Rd
open PySem PySem.Spec PyProof.Rows L2 Tq Dn Dc Ox
/-! ### repr of any data -/
def Shows (H : Hp) (v : V) (t : Str) : Prop :=
  (v = .non ∧ t = "None") ∨ (∃ b, v = .bl b ∧ t = if b then "True" else "False") ∨ (∃ i : Int, v = .int i ∧ i.natAbs.log2 < 1920 ∧ t = toString i) ∨ (∃ x, v = .str x ∧ (reprText x).length ≤ sizeLine ∧ t = reprText x) ∨
    (∃ a d, v = .ref a ∧ Dq H v d ∧ d.showable = true ∧ d.depth ≤ 50 ∧ d.shown.length ≤ sizeLine ∧ t = d.shown)
theorem Shows.up {H H' : Hp} {v : V} {t : Str} (h : Shows H v t) (s : Same H H') : Shows H' v t := by
  rcases h with h | h | h | h | ⟨a, d, e, hd, r⟩
  · exact .inl h
  · exact .inr (.inl h)
  · exact .inr (.inr (.inl h))
  · exact .inr (.inr (.inr (.inl h)))
  · exact .inr (.inr (.inr (.inr ⟨a, d, e, hd.keeps s, r⟩)))
def rShow : List V → Hp → VK → Prop := fun xs H Q => ∃ v t, xs = [v] ∧ Shows H v t ∧ Q (.str t) H
theorem call_show {X : Cx} (hg : X.A.guards = some []) (hu : X.A.units + 64 < cLine) (hs : ∃ o, X.base.get? sysModules = some o) : CallR X (.builtin "repr") rShow := by
  intro pins s σ H xs us Q I r h
  obtain ⟨v, t, rfl, h, q⟩ := h
  rcases h with ⟨rfl, rfl⟩ | ⟨b, rfl, rfl⟩ | ⟨i, rfl, hz, rfl⟩ | ⟨x, rfl, hz, rfl⟩ | ⟨a, d, rfl, hd, h1, h2, h3, rfl⟩
  · obtain ⟨u, rfl, ru⟩ := vals1 r
    cases (show u = Value.none from ru)
    exact PySem.P.repr_of_none ⟨.str _, H, I.tok _, ⟨_, rfl⟩, q⟩
  · obtain ⟨u, rfl, ru⟩ := vals1 r
    cases (show u = Value.bool b from ru)
    exact PySem.P.repr_of_bool ⟨.str _, H, I.tok _, ⟨_, by cases b <;> rfl⟩, q⟩
  · obtain ⟨u, rfl, tk, rfl⟩ := vals1 r
    exact PySem.P.repr_of_int hz ⟨.str _, H, I.tok _, ⟨_, rfl⟩, q⟩
  · obtain ⟨u, rfl, tk, rfl⟩ := vals1 r
    exact PySem.P.repr_of_str ⟨.str _, H, I.tok _, ⟨_, rfl⟩, q⟩ hz
  · exact call_reprD hg hu hs pins s σ H _ us Q I r ⟨a, d, rfl, hd, h1, h2, h3, q⟩
/-! ### what may raise -/
theorem passN0 {X : Cx} {σ : L2.St} : PassesAt (L2N.CX X.prog X.w) X σ E0 := fun pins H s e s' I c => by
  obtain ⟨_, _, _, _, _, _, _, _, _, _, _, _, z⟩ := c; exact z.elim
theorem okN {P : Program} {w : World} {K : PySem.W.Frag} {mg : Str → Option Value} {base : Heap} {x qual : Str} {st : Stmt} {f : Addr} {fd : FuncData} {N ps : List Str} {k : Nat} {sp : Sp} (F : Fun K x qual st f fd) (S : FnScope N ps (defScope st)) (len : ∀ vs H Q E, sp vs H Q E → vs.length = ps.length)
    (hbody : ∀ (cdv : Value) (A : Around) (outer : List Env) (s : Shared) (H : Hp) (vs : List V) (Q : VK) (E : XK), Room k (A.deeper (envOfC qual (defScope st) s.heap.objs.size f cdv)) → sp vs H Q E →
      ∃ t, PSs (cxOf (L2N.CX P w) P w K mg base N qual (defScope st) f cdv A outer s H E) (defBody st) t ∧ t { nx := fun _ H' => Q .non H', rt := Q } (start N vs) H) : FnOk P w K mg base (L2N.CX P w) (k + 1) f fd ps sp := by
  obtain ⟨oc, od, kV, doc, pm, an, cdv, ct, osl, rfl, lk, hcd⟩ := F.ex
  exact fn_of lk hcd S len fun A outer s H vs Q E hr hsp => hbody cdv A outer s H vs Q E hr hsp
def spNeed (K : PySem.W.Frag) (C CN : Addr) : Sp := fun vs H Q E => ∃ (r : Addr) (rs : RowsL) (v : V) (d : PyData), vs = [.ref r, v] ∧ RdAt K C H r rs ∧ Dp K H v d ∧
  ((numD d ((rs.length : Int) - 1) = true ∧ Q .non H) ∨ (numD d ((rs.length : Int) - 1) = false ∧ ∀ dd, H dd = none → E (.ref CN) (some dd) (upd H dd (.xd [("value", v)]))))
def spGet (K : PySem.W.Frag) (C CN : Addr) : Sp := fun vs H Q E => ∃ (r : Addr) (rs : RowsL) (v : V) (d : PyData), vs = [.ref r, v] ∧ RdAt K C H r rs ∧ Dp K H v d ∧
  ((∃ n q, v = .int ((n : Nat) : Int) ∧ rs[n]? = some q ∧ Q (.ref q.1) H) ∨ (numD d ((rs.length : Int) - 1) = false ∧ ∀ dd, H dd = none → E (.ref CN) (some dd) (upd H dd (.xd [("value", v)]))))
structure TxG (K : PySem.W.Frag) (mg : Str → Option Value) (P : Program) (w : World) (base : Heap) (C CN : Addr) : Prop extends TxR0 K mg P w base C where
  gN : mg "InvalidNumber" = some (.ref CN)
  oN : ∃ J, PySem.Mk0.OTxt K CN J "value" "InvalidNumber.__init__" "IndexError" "IndexError.__new__" PySem.Mk0.bIx
section
variable {P : Program} {w : World} {K : PySem.W.Frag} {mg : Str → Option Value} {base : Heap}
theorem scNe : FnScope ["self", "at"] ["self", "at"] (defScope sNeed) := ⟨rfl, rfl, rfl, by decide +kernel, rfl, by decide +kernel, by decide +kernel⟩
theorem ok_need {C CN f : Addr} {fd : FuncData} (F : Fun K "_need_line" "Reader._need_line" sNeed f fd) (T : TxG K mg P w base C CN) : FnOk P w K mg base (L2N.CX P w) 4 f fd ["self", "at"] (spNeed K C CN) := by
  obtain ⟨g, gd, mG, kG, bG, GG⟩ := T.within_
  obtain ⟨J, oN⟩ := T.oN
  refine okN F scNe (fun vs H Q E h => ?_) (fun cdv A outer s H vs Q E hr h => ?_)
  · obtain ⟨r, rs, v, d, rfl, _⟩ := h; rfl
  · obtain ⟨r, rs, v, d, rfl, ⟨dx, L, TT, ps, e, hL, _⟩, hd, k⟩ := h
    refine ⟨_, pss_one (ps_if (pt_not (pt_val (pe_call GG hr (by rfl) mG kG bG .nil pass0 (pa_cons (pv 1) (pa_cons (pe_op op_sub (pe_callB call_lenT (by rfl) T.len PySem.boot_len (pa_cons (pe_fld (pv 0) rfl) pa_nil)) pe_int) pa_nil)))))
      (pss_one (L2N.ps_raise rfl (L2N.takes_of rfl rfl rfl rfl) (pmk_oi oN T.gN hr (pa_cons (pv 1) pa_nil)))) pss_nil), ?_⟩
    refine ⟨_, rfl, _, rfl, r, C, dx, _, _, rfl, e, T.cl, T.nL, rd_lines L TT, L, _, rfl, hL.1, _, _, rfl, rfl, v, d, _, rfl, hd, ?_⟩
    rw [List.length_map]
    refine ⟨_, rfl, ?_⟩
    rcases k with ⟨hn, k⟩ | ⟨hn, k⟩
    · rw [hn]; exact iteF k
    · rw [hn]; exact iteT ⟨_, rfl, _, rfl, fun dd nd => k dd nd⟩
structure TxG2 (K : PySem.W.Frag) (mg : Str → Option Value) (P : Program) (w : World) (base : Heap) (C CN : Addr) : Prop extends TxG K mg P w base C CN where
  need : ∃ f fd, Meth K C "_need_line" f ∧ Binds K fd ["self", "at"] [] ∧ FnOk P w K mg base (L2N.CX P w) 4 f fd ["self", "at"] (spNeed K C CN)
theorem scGe : FnScope ["self", "at"] ["self", "at"] (defScope sGet) := ⟨rfl, rfl, rfl, by decide +kernel, rfl, by decide +kernel, by decide +kernel⟩
theorem rd_no {L T : Addr} {m : Str} (h1 : m ≠ "_lines") (h2 : m ≠ "_tested") : (rdF L T).lookup m = none := by
  rw [← rd_flds, lookup_putF, if_neg h2, lookup_putF, if_neg h1]; rfl
theorem ok_get {C CN f : Addr} {fd : FuncData} (F : Fun K "__getitem__" "Reader.__getitem__" sGet f fd) (T : TxG2 K mg P w base C CN) : FnOk P w K mg base (L2N.CX P w) 5 f fd ["self", "at"] (spGet K C CN) := by
  obtain ⟨g, gd, M, bG, GG⟩ := T.need
  refine okN F scGe (fun vs H Q E h => ?_) (fun cdv A outer s H vs Q E hr h => ?_)
  · obtain ⟨r, rs, v, d, rfl, _⟩ := h; rfl
  · obtain ⟨r, rs, v, d, rfl, hR, hd, k⟩ := h
    obtain ⟨dx, L, TT, ps, e, hL, _⟩ := id hR
    refine ⟨_, pss_cons (ps_expr (pe_meth (pv 0) T.cl M GG hr bG .nil (L2N.passes_call (L2N.takes_of rfl rfl rfl rfl) (fun _ _ _ _ h => h)) (pa_cons (pv 1) pa_nil)))
      (pss_one (ps_ret (pe_ix ix_tup (pe_fld (pv 0) rfl) (pv 1) (fun _ _ => rfl)))), ?_⟩
    refine ⟨_, rfl, r, dx, _, rfl, e, rd_no (by decide +kernel) (by decide +kernel), _, rfl, r, rs, v, d, rfl, hR, hd, ?_⟩
    rcases k with ⟨n, q, rfl, hq, k⟩ | ⟨hn, k⟩
    · cases hd
      have hn : n < rs.length := (List.getElem?_eq_some_iff.mp hq).1
      refine .inl ⟨?_, ?_⟩
      · show (decide (0 ≤ (n : Int)) && decide ((n : Int) ≤ (rs.length : Int) - 1)) = true
        simp; omega
      · exact ⟨_, rfl, r, C, dx, _, _, rfl, e, T.cl, T.nL, rd_lines L TT, _, rfl, L, _, _, .ref q.1, rfl, rfl, hL.1, atI_nat (by rw [List.getElem?_map, hq]; rfl), k⟩
    · exact .inr ⟨hn, k⟩
end
end Rd

/-! Movers: what a mover tells; whether a reader fits -/
namespace Rd
open PySem PySem.Spec PyProof.Rows L2 Tq Dn Dc Mk2
abbrev sFits : Stmt := inClass cReader 8
abbrev bVe : List Value := [.type "ValueError", .type "Exception", .type "BaseException", .type "object"]
theorem pass0A {X : Cx} {E : XK} (σ : L2.St) : PassesAt CX0 X σ E := fun _ _ _ _ _ _ h => h.elim
/-- a property of the class at C, with its promise -/
abbrev HasP (P : Program) (w : World) (K : PySem.W.Frag) (mg : Str → Option Value) (base : Heap) (C : Addr) (m : Str) (k : Nat) (sp : Sp) : Prop :=
  ∃ p g fd, PropOf K C m p g ∧ Binds K fd ["self"] [] ∧ FnOk P w K mg base CX0 k g fd ["self"] sp
abbrev HasD (P : Program) (w : World) (K : PySem.W.Frag) (mg : Str → Option Value) (base : Heap) (C : Addr) (m : Str) (k : Nat) (sp : Sp) : Prop :=
  ∃ g, Dun K C m g ∧ FnR P w K mg base CX0 k g sp
/-- another value than a mover -/
def NoMv (K : PySem.W.Frag) (CM : Addr) (H : Hp) (v : V) : Prop := ∃ t, TyX K H v t ∧ PySem.W.kitOne K t (.ref CM) = some false
def spMha (K : PySem.W.Frag) (C : Addr) : Sp := fun vs H Q _ => ∃ (m : Addr) (ps : List Str) (ts : List Tb) (bs : List Prs) (x : Str), vs = [.ref m, .str x] ∧ MvAt K C H m ps ts bs ∧ Q (.bl ((ts.map Tb.nm).contains x)) H
def spNeedM (K : PySem.W.Frag) (C CI : Addr) : Sp := fun vs H Q E => ∃ v, vs = [v] ∧ ((∃ m ps ts bs, v = .ref m ∧ MvAt K C H m ps ts bs ∧ Q .non H) ∨ (NoMv K C H v ∧ E (.ref CI) none H))
/-- whether a pair is of these tables and parts -/
def fitK (ns ps : List Str) (k : List Str) : Bool := ns.contains (k.headD Str.empty) && ps.contains (k.tail.headD Str.empty)
def fitB (ns ps : List Str) (ls : List Ln) : Bool := !(((keysOf ["look"] ls).map fun k => k.headD Str.empty).contains (ns.headD Str.empty)) && (keysOf ["read", "look", "if"] ls).all (fitK ns ps)
def spFits (K : PySem.W.Frag) (C CM CI : Addr) : Sp := fun vs H Q E => ∃ (r : Addr) (rs : RowsL) (v : V), vs = [.ref r, v] ∧ RdAt K C H r rs ∧ RdOk rs ∧
  ((∃ m ps ts bs, v = .ref m ∧ MvAt K CM H m ps ts bs ∧ 1 ≤ ts.length ∧ ∀ H', Same H H' → Q (.bl (fitB (ts.map Tb.nm) ps (lnsOf rs))) H') ∨ (NoMv K CM H v ∧ ∀ H', Same H H' → E (.ref CI) none H'))
structure TxE (K : PySem.W.Frag) (mg : Str → Option Value) (CM CI : Addr) : Prop extends TxM K mg where
  gM : mg "Mover" = some (.ref CM)
  iM : TxI K CM
  clM : Cls K CM
  gI : mg "InvalidMover" = some (.ref CI)
  xI : PySem.W.excIn K CI bVe "ValueError.__new__" = true
  kI : PySem.W.keepIn K (.ref CI) = true
  bI : PySem.W.subIn K (.ref CI) (.type "BaseException") = some true
  tI : PySem.W.typeIn K (.ref CI) = some (.type "type")
structure TxF (K : PySem.W.Frag) (mg : Str → Option Value) (P : Program) (w : World) (base : Heap) (C CM CI : Addr) : Prop extends TxR0 K mg P w base C where
  clM : Cls K CM
  mps : HasP P w K mg base CM "parts" 1 (getSp CM "_parts")
  mts : HasP P w K mg base CM "tables" 1 (getSp CM "_tables")
  mha : HasD P w K mg base CM "__contains__" 1 (spMha K CM)
  prs_ : HasP P w K mg base C "pairs" 3 (spPrs K C)
  needM : ∃ f fd, mg "need_mover" = some (.ref f) ∧ PySem.W.keepIn K (.ref f) = true ∧ Binds K fd ["mover"] [] ∧ FnOk P w K mg base (L2N.CX P w) 1 f fd ["mover"] (spNeedM K CM CI)
section
variable {P : Program} {w : World} {K : PySem.W.Frag} {mg : Str → Option Value} {base : Heap}
theorem scMps : FnScope ["self"] ["self"] (defScope sMps) := ⟨rfl, rfl, rfl, by decide +kernel, rfl, by decide +kernel, by decide +kernel⟩
theorem scMts : FnScope ["self"] ["self"] (defScope sMts) := ⟨rfl, rfl, rfl, by decide +kernel, rfl, by decide +kernel, by decide +kernel⟩
theorem scMha : FnScope ["self", "x"] ["self", "x"] (defScope sMha) := ⟨rfl, rfl, rfl, by decide +kernel, rfl, by decide +kernel, by decide +kernel⟩
theorem scNeedM : FnScope ["mover"] ["mover"] (defScope sNeedM) := ⟨rfl, rfl, rfl, by decide +kernel, rfl, by decide +kernel, by decide +kernel⟩
theorem scFits : FnScope ["self", "mover", "table", "part", "looked"] ["self", "mover"] (defScope sFits) := ⟨rfl, rfl, rfl, by decide +kernel, rfl, by decide +kernel, by decide +kernel⟩
theorem ok_mps {C f : Addr} {fd : FuncData} (F : Fun K "parts" "Mover.parts" sMps f fd) (cl : Cls K C) (n : NoAttr K C "_parts") : FnOk P w K mg base CX0 1 f fd ["self"] (getSp C "_parts") := by
  refine F.ok scMps (fun vs H Q E h => ?_) (fun cdv A outer s H vs Q E hr h => ?_)
  · obtain ⟨a, dx, fs, v, rfl, _⟩ := h; rfl
  · obtain ⟨a, dx, fs, v, rfl, ea, l, q⟩ := h
    exact ⟨_, pss_one (ps_ret (pe_fld (pv 0) rfl)), ⟨_, rfl, a, C, dx, fs, v, rfl, ea, cl, n, l, q⟩⟩
theorem ok_mts {C f : Addr} {fd : FuncData} (F : Fun K "tables" "Mover.tables" sMts f fd) (cl : Cls K C) (n : NoAttr K C "_tables") : FnOk P w K mg base CX0 1 f fd ["self"] (getSp C "_tables") := by
  refine F.ok scMts (fun vs H Q E h => ?_) (fun cdv A outer s H vs Q E hr h => ?_)
  · obtain ⟨a, dx, fs, v, rfl, _⟩ := h; rfl
  · obtain ⟨a, dx, fs, v, rfl, ea, l, q⟩ := h
    exact ⟨_, pss_one (ps_ret (pe_fld (pv 0) rfl)), ⟨_, rfl, a, C, dx, fs, v, rfl, ea, cl, n, l, q⟩⟩
theorem mv_parts {Pa T L S B J : Addr} : (mvF Pa T L S B J).lookup ("_parts" : Str) = some (.ref Pa) := by unfold mvF; rw [lk_ne (by decide +kernel), lk_ne (by decide +kernel), lk_ne (by decide +kernel), lk_ne (by decide +kernel), lk_ne (by decide +kernel), lk_eq]
theorem mv_tables {Pa T L S B J : Addr} : (mvF Pa T L S B J).lookup ("_tables" : Str) = some (.ref T) := by unfold mvF; rw [lk_ne (by decide +kernel), lk_ne (by decide +kernel), lk_ne (by decide +kernel), lk_ne (by decide +kernel), lk_eq]
theorem mv_places {Pa T L S B J : Addr} : (mvF Pa T L S B J).lookup ("_placements" : Str) = some (.ref L) := by unfold mvF; rw [lk_ne (by decide +kernel), lk_ne (by decide +kernel), lk_ne (by decide +kernel), lk_eq]
theorem mv_steps {Pa T L S B J : Addr} : (mvF Pa T L S B J).lookup ("_steps" : Str) = some (.ref S) := by unfold mvF; rw [lk_ne (by decide +kernel), lk_ne (by decide +kernel), lk_eq]
theorem mv_bonds {Pa T L S B J : Addr} : (mvF Pa T L S B J).lookup ("_bonds" : Str) = some (.ref B) := by unfold mvF; rw [lk_ne (by decide +kernel), lk_eq]
theorem nms_v (ts : List Tb) : (ts.map fun t => V.str t.nm) = (ts.map Tb.nm).map V.str := by rw [List.map_map]; rfl
theorem ok_mha {C f : Addr} {fd : FuncData} (F : Fun K "__contains__" "Mover.__contains__" sMha f fd) (cl : Cls K C) (n : NoAttr K C "_tables") : FnOk P w K mg base CX0 1 f fd ["self", "x"] (spMha K C) := by
  refine F.ok scMha (fun vs H Q E h => ?_) (fun cdv A outer s H vs Q E hr h => ?_)
  · obtain ⟨m, ps, ts, bs, x, rfl, _⟩ := h; rfl
  · obtain ⟨m, ps, ts, bs, x, rfl, ⟨dx, Pa, T, L, S, B, J, ds, ss, qs, e, hPa, hT, _⟩, k⟩ := h
    refine ⟨_, pss_one (ps_ret (pe_cmpR op_in_seq (pv 1) (pe_fld (pv 0) rfl) (by rfl))), ?_⟩
    rw [nms_v] at hT
    refine ⟨_, rfl, _, rfl, m, C, dx, _, _, rfl, e, cl, n, mv_tables, T, _, rfl, .inr hT, rfl, flat_strs _, ?_⟩
    show Q (.bl (inV (.str x) _)) _
    rw [inV_strs]
    exact k
theorem ok_needM {CM CI f : Addr} {fd : FuncData} (F : Fun K "need_mover" "need_mover" sNeedM f fd) (T : TxE K mg CM CI) : FnOk P w K mg base (L2N.CX P w) 1 f fd ["mover"] (spNeedM K CM CI) := by
  refine okN F scNeedM (fun vs H Q E h => ?_) (fun cdv A outer s H vs Q E hr h => ?_)
  · obtain ⟨v, rfl, _⟩ := h; rfl
  · obtain ⟨v, rfl, h⟩ := h
    refine ⟨_, pss_one (ps_if (pt_not (pt_val (pe_callB call_isi (by rfl) T.isi PyProof.Rows.boot_isinstance (pa_cons (pv 0) (pa_cons (pe_glob (v := .ref CM) (by rfl) T.gM rfl) pa_nil)))))
      (pss_one (L2N.ps_raise rfl (L2N.takes_of rfl rfl rfl rfl) (L2N.pmk_own PySem.F.excBase_ValueError T.xI T.gI T.kI (raises_own T.bI T.tI) (by rfl)))) pss_nil), ?_⟩
    rcases h with ⟨m, ps, ts, bs, rfl, ⟨dx, Pa, T', L, S, B, J, ds, ss, qs, e, _⟩, k⟩ | ⟨⟨t, ty, no⟩, k⟩
    · exact ⟨_, rfl, .ref m, .ref CM, .ref CM, .ref CM, true, rfl, .own CM, .base (.ins e T.clM T.iM.ha T.iM.hn T.iM.htk T.iM.hm), T.iM.self, _, rfl, iteF k⟩
    · exact ⟨_, rfl, v, .ref CM, t, .ref CM, false, rfl, .own CM, ty, no, _, rfl, iteT k⟩
theorem key_two {ws : List Str} {ls : List Ln} (h : ("go" : Str) ∉ ws) {k : List Str} (hk : k ∈ keysOf ws ls) : ∃ t p, k = [t, p] := by
  obtain ⟨l, hl, rfl⟩ := List.mem_map.mp hk
  obtain ⟨_, hw⟩ := List.mem_filter.mp hl
  cases l with
  | go n => exact absurd (List.contains_iff_mem.mp hw) h
  | ift t p n => exact ⟨t, p, rfl⟩
  | look t p => exact ⟨t, p, rfl⟩
  | read t p => exact ⟨t, p, rfl⟩
theorem asc_few {a : List (List Str)} {ps : List (List Str)} (h : Asc a ps) : ps.length ≤ a.length := by
  refine nd_len (List.nodup_iff_pairwise_ne.mpr (h.up.imp fun {x y} z e => by subst e; rw [tlt_irr] at z; cases z)) fun x hx => (h.mem x).mp hx
theorem keys_few {ws : List Str} {ls : List Ln} : (keysOf ws ls).length ≤ ls.length := by
  unfold keysOf; rw [List.length_map]; exact List.length_filter_le _ _
theorem asc_any {a ps : List (List Str)} (h : Asc a ps) (x : Str) : (ps.map fun k => k.headD Str.empty).contains x = (a.map fun k => k.headD Str.empty).contains x := by
  rw [Bool.eq_iff_iff, List.contains_iff_mem, List.contains_iff_mem]
  constructor
  · intro z; obtain ⟨k, hk, e⟩ := List.mem_map.mp z; exact List.mem_map.mpr ⟨k, (h.mem k).mp hk, e⟩
  · intro z; obtain ⟨k, hk, e⟩ := List.mem_map.mp z; exact List.mem_map.mpr ⟨k, (h.mem k).mpr hk, e⟩
theorem asc_all {a ps : List (List Str)} (h : Asc a ps) (f : List Str → Bool) : ps.all f = a.all f := by
  rw [Bool.eq_iff_iff, List.all_eq_true, List.all_eq_true]
  exact ⟨fun z k hk => z k ((h.mem k).mpr hk), fun z k hk => z k ((h.mem k).mp hk)⟩
theorem ok_fits {C CM CI f : Addr} {fd : FuncData} (F : Fun K "fits" "Reader.fits" sFits f fd) (T : TxF K mg P w base C CM CI) : FnOk P w K mg base (L2N.CX P w) 7 f fd ["self", "mover"] (spFits K C CM CI) := by
  obtain ⟨n, nd, mN, kN, bN, GN⟩ := T.needM
  obtain ⟨q, qd, mQ, kQ, bQ, GQ⟩ := T.pairs
  obtain ⟨p1, g1, d1, PT, BT, GT⟩ := T.mts
  obtain ⟨p2, g2, d2, PA, BA, GA⟩ := T.mps
  obtain ⟨p3, g3, d3, PR, BR, GR⟩ := T.prs_
  obtain ⟨g4, DH, GH⟩ := T.mha
  refine okN F scFits (fun vs H Q E h => ?_) (fun cdv A outer s H vs Q E hr h => ?_)
  · obtain ⟨r, rs, v, rfl, _⟩ := h; rfl
  · obtain ⟨r, rs, v, rfl, hR, ok, h⟩ := h
    obtain ⟨dx, L, TT, ps0, e, hL, _⟩ := id hR
    have hr2 := hr.mono (show 2 ≤ 6 by decide)
    refine ⟨_, (pss_cons (ps_expr (pe_call (E := E) GN (hr.mono (show 1 ≤ 6 by decide)) (by rfl) mN kN bN .nil (L2N.passes_call (L2N.takes_of rfl rfl rfl rfl) (fun _ _ _ _ h => h)) (pa_cons (pv 1) pa_nil)))
      (pss_cons (ps_setLc (i := 4) (own := [("table", 2), ("part", 3)]) (g := gTup K 2 (gCons (gName 2) (gCons (gName 3) gNil))) (tt := tYes) (te := tVar 2) rfl scFits.nd rfl rfl (sw_true rfl rfl rfl rfl) (pi_tup (pe_call GQ hr2 (by rfl) mQ kQ bQ .nil pass0 (pa_cons (pe_fld (pv 0) rfl) (pa_cons (pe_tup (pa_cons pe_str pa_nil)) pa_nil)))) (blkOk_by (N := ["self", "mover", "table", "part", "looked"]) (sc := defScope sFits) (by decide +kernel)) (fun _ _ _ _ _ => (pg_tup rfl (pgs_cons (pg_name (i := 2) scFits.nd rfl (Or.inl rfl)) (pgs_cons (pg_name (i := 3) scFits.nd rfl (Or.inl rfl)) pgs_nil)))) (fun _ _ _ _ _ => pts_nil) (fun _ _ _ _ _ => pv 2))
      (pss_cons (ps_if (pt_cmpR op_in_seq (pe_ix ix_tup (pe_prop (E := E0) (pv 1) T.clM PT GT hr2 BT .nil pass0 (by rfl)) pe_int (fun _ _ => rfl)) (pv 4) (by rfl)) (pss_one (ps_ret pe_bl)) pss_nil)
      (pss_one (ps_ret (pe_callB (cr_all rfl) (by rfl) T.all PyProof.Rows.boot_all (pa_cons (pe_lc (own := [("table", 2), ("part", 3)]) (g := gTup K 2 (gCons (gName 2) (gCons (gName 3) gNil))) (tt := tYes) (te := tAndV (tOp (rInO CM (spMha K CM) E0 false) (tVar 2) (tVar 1)) (tOp (rIn K false) (tVar 3) (tProp CM (getSp CM "_parts") [] E0 (tVar 1)))) rfl scFits.nd (pi_tup (pe_prop (E := E0) (pv 0) T.cl PR GR (hr.mono (show 4 ≤ 6 by decide)) BR .nil pass0 (by rfl))) (blkOk_by (N := ["self", "mover", "table", "part", "looked"]) (sc := defScope sFits) (by decide +kernel)) (fun _ _ _ _ _ => (pg_tup rfl (pgs_cons (pg_name (i := 2) scFits.nd rfl (Or.inl rfl)) (pgs_cons (pg_name (i := 3) scFits.nd rfl (Or.inl rfl)) pgs_nil)))) (fun _ _ _ _ _ => pts_nil) (fun _ _ _ _ _ => pe_and (pe_cmpR (op_inO DH GH (hr.mono (show 1 ≤ 6 by decide)) pass0A) (pv 2) (pv 1) (by rfl)) (pe_one (pe_cmpR op_in_seq (pv 3) (pe_prop (E := E0) (pv 1) T.clM PA GA hr2 BA .nil pass0 (by rfl)) (by rfl))))) pa_nil))))))), ?_⟩
    refine ⟨_, rfl, v, rfl, ?_⟩
    rcases h with ⟨m, ps, ts, bs, rfl, hM, lt, k⟩ | ⟨no, k⟩
    case inr => exact .inr ⟨no, k H (Same.refl H)⟩
    obtain ⟨dm, Pa, T', Lm, S, B, J, ds, ss, qs, em, hPa, hT, _⟩ := id hM
    refine .inl ⟨m, ps, ts, bs, rfl, hM, ?_⟩
    refine ⟨_, rfl, r, C, dx, _, _, rfl, e, T.cl, T.nL, rd_lines L TT, (by show 1 ≤ sizeLine; decide), fun t nt => ?_⟩
    have st := same_new (o := HO.tup [V.str "look"]) nt
    refine ⟨L, t, rs, ["look"], rfl, hL.up st, SqT.of upd_same, (by decide +kernel), by have := ok.few; omega, fun H1 p qs1 s1 np hA1 ⟨ws, ew, hp, hws⟩ => ?_⟩
    have s1 := st.trans s1
    have lw : ws.length ≤ 16 := by
      have h1 := asc_few hA1
      have h2 := keys_few (ws := ["look"]) (ls := lnsOf rs)
      have h3 := ok.few
      rw [← ew, List.length_map] at h1
      rw [List.length_map] at h2
      exact Nat.le_trans h1 (Nat.le_trans h2 h3)
    have two : ∀ x ∈ ws, ∃ a b, x.2 = [a, b] := fun x hx => key_two (ws := ["look"]) (by decide +kernel) ((hA1.mem _).mp (by rw [← ew]; exact List.mem_map_of_mem hx))
    refine ⟨p, rfl, ⟨_, hp⟩, fun D nD => ?_⟩
    have off : Off D (fun i acc (_ : Hp) => acc = ((ws.take i).map fun x => V.str (x.2.headD Str.empty))) := fun _ _ _ _ _ _ _ z => z
    refine lc_fil walk_tup nD (fun i acc _ => acc = ((ws.take i).map fun x => V.str (x.2.headD Str.empty))) (by simp) (fun H' s' => sqT_up hp s') ?_ ?_
    · rintro i v acc H2 H3 hi s2 e2 rfl ⟨rfl, hv⟩
      rw [List.length_map] at hi
      rw [List.getElem?_map] at hv
      obtain ⟨x, hx, rfl⟩ := Option.map_eq_some_iff.mp hv
      obtain ⟨a, b, ex⟩ := two x (List.mem_of_getElem? hx)
      have hx2 := sqT_up (hws x (List.mem_of_getElem? hx)) s2
      rw [ex] at hx2
      refine ⟨x.1, _, rfl, hx2, rfl, _, _, rfl, _, _, rfl, rfl, rfl, tt_yes ?_⟩
      refine ⟨_, rfl, ?_⟩
      refine put_of nD off s2 e2 (Same.refl _) (by rw [List.length_map, List.length_take, sizeLine_eq]; omega) ?_
      rw [List.take_add_one, hx, List.map_append]
      show _ ++ [V.str a] = _ ++ [V.str (x.2.headD Str.empty)]
      rw [ex]; rfl
    rintro acc H2 s2 e2 rfl
    rw [List.length_map, List.take_length] at e2
    have sa := s1.trans s2
    have em2 := sa _ _ em
    have hT2 := sqT_up hT sa
    have hPa2 := sqT_up hPa sa
    have len_ne : ∃ t0 ts', ts = t0 :: ts' := by
      cases ts with
      | nil => exact absurd lt (by simp)
      | cons t0 ts' => exact ⟨t0, ts', rfl⟩
    obtain ⟨t0, ts', ets⟩ := len_ne
    have hd0 : (ts.map fun t => V.str t.nm)[0]? = some (V.str t0.nm) := by rw [ets]; rfl
    have hd1 : (ts.map Tb.nm).headD Str.empty = t0.nm := by rw [ets]; rfl
    have e2' : H2 D = some (.lst ((ws.map fun x => x.2.headD Str.empty).map V.str)) := by rw [e2, List.map_map]; rfl
    have loo : ((keysOf ["look"] (lnsOf rs)).map fun k => k.headD Str.empty).contains t0.nm = (ws.map fun x => x.2.headD Str.empty).contains t0.nm := by
      rw [← asc_any hA1, ← ew, List.map_map]; rfl
    refine ⟨_, rfl, m, dm, _, rfl, em2, m, dm, _, _, rfl, em2, mv_tables, T', _, _, _, rfl, rfl, hT2, atI_nat (j := 0) hd0, _, rfl, D, _, rfl, .inl (SqL.of e2'), rfl, flat_strs _, _, rfl, ?_⟩
    show (if inV (.str t0.nm) _ = true then _ else _)
    rw [inV_strs, ← loo]
    refine ite2 (fun c => ?_) (fun c => ?_)
    · have k' := k H2 sa
      unfold fitB at k'
      rw [hd1, c, Bool.not_true, Bool.false_and] at k'
      exact k'
    refine ⟨_, rfl, r, dx, _, rfl, sa _ _ e, r, rs, rfl, hR.up sa, ok, fun H3 p3 qs3 s3 np3 hA3 ⟨us, eu, hp3, hus⟩ => ?_⟩
    have sb := sa.trans s3
    have lu : us.length ≤ 16 := by
      have h1 := asc_few hA3
      have h2 := keys_few (ws := ["read", "look", "if"]) (ls := lnsOf rs)
      have h3 := ok.few
      rw [← eu, List.length_map] at h1
      rw [List.length_map] at h2
      exact Nat.le_trans h1 (Nat.le_trans h2 h3)
    have two3 : ∀ x ∈ us, ∃ a b, x.2 = [a, b] := fun x hx => key_two (ws := ["read", "look", "if"]) (by decide +kernel) ((hA3.mem _).mp (by rw [← eu]; exact List.mem_map_of_mem hx))
    refine ⟨p3, rfl, ⟨_, hp3⟩, fun D3 nD3 => ?_⟩
    have off3 : Off D3 (fun i acc (_ : Hp) => acc = ((us.take i).map fun x => V.bl (fitK (ts.map Tb.nm) ps x.2))) := fun _ _ _ _ _ _ _ z => z
    refine lc_fil walk_tup nD3 (fun i acc _ => acc = ((us.take i).map fun x => V.bl (fitK (ts.map Tb.nm) ps x.2))) (by simp) (fun H' s' => sqT_up hp3 s') ?_ ?_
    · rintro i v acc H4 H5 hi s4 e4 rfl ⟨rfl, hv⟩
      rw [List.length_map] at hi
      rw [List.getElem?_map] at hv
      obtain ⟨x, hx, rfl⟩ := Option.map_eq_some_iff.mp hv
      obtain ⟨a, b, ex⟩ := two3 x (List.mem_of_getElem? hx)
      have hx2 := sqT_up (hus x (List.mem_of_getElem? hx)) s4
      rw [ex] at hx2
      have em4 := s4 _ _ (s3 _ _ em2)
      have hM4 := (hM.up sb).up s4
      refine ⟨x.1, _, rfl, hx2, rfl, _, _, rfl, _, _, rfl, rfl, rfl, tt_yes ?_⟩
      have fin : ∀ bb : Bool, bb = fitK (ts.map Tb.nm) ps x.2 → Put H3 D3 (fun i acc _ => acc = ((us.take i).map fun x => V.bl (fitK (ts.map Tb.nm) ps x.2))) (i + 1) (.bl bb) H5 := fun bb eb => by
        refine put_of nD3 off3 s4 e4 (Same.refl _) (by rw [List.length_map, List.length_take, sizeLine_eq]; omega) ?_
        rw [List.take_add_one, hx, List.map_append, eb]; rfl
      refine ⟨_, rfl, _, rfl, m, dm, _, rfl, em4, m, ps, ts, bs, a, rfl, hM4, (ts.map Tb.nm).contains a, rfl, _, rfl, ?_⟩
      rw [Bool.bne_false]
      have fk : fitK (ts.map Tb.nm) ps x.2 = ((ts.map Tb.nm).contains a && ps.contains b) := by rw [ex]; rfl
      refine ite2 (fun c2 => ?_) (fun c2 => ?_)
      · refine ⟨_, rfl, _, rfl, m, dm, _, rfl, em4, m, dm, _, _, rfl, em4, mv_parts, Pa, _, rfl, .inr (sqT_up hPa2 (s3.trans s4)), rfl, flat_strs _, ?_⟩
        show Put _ _ _ _ (V.bl (inV (.str b) _)) _
        rw [inV_strs]
        exact fin _ (by rw [fk, c2, Bool.true_and])
      · exact fin _ (by rw [fk, Bool.not_eq_true _ |>.mp c2, Bool.false_and])
    rintro acc H4 s4 e4 rfl
    refine ⟨D3, us.map fun x => fitK (ts.map Tb.nm) ps x.2, rfl, SqL.of (by rw [e4, List.length_map, List.take_length, List.map_map]; rfl), ?_⟩
    rw [List.all_map]
    have k' := k H4 (sb.trans s4)
    unfold fitB at k'
    rw [hd1, Bool.not_eq_true _ |>.mp c, Bool.not_false, Bool.true_and, ← asc_all hA3, ← eu, List.all_map] at k'
    exact k'
end
end Rd

/-! list(d.values()) -/
namespace Tq
open PySem PySem.Spec PyProof.Rows L2
def tListVals (te : TE) : TE := fun σ H Q => te σ H fun x H1 => ∃ (d : Addr) (kvs : List (Key × V)), x = .ref d ∧ H1 d = some (.dK kvs) ∧ ∀ p, H1 p = none → Q (.ref p) (upd H1 p (.lst (kvs.map Prod.snd)))
section
variable {X : Cx}
/-- the values drained from a view of d are those that d has -/
theorem vals_of_view {kvs : List (Key × V)} {vs : List (Key × Value)} {acc : Array Value} (kv : KV kvs vs) (h : ItemsOf (fun i v => ∃ k, vs[i]? = some (k, v)) acc vs.length) : Vals (kvs.map Prod.snd) acc.toList := by
  refine vals_of_at (by rw [List.length_map]; exact (Paired.length kv).trans (h.1.symm.trans Array.length_toList.symm)) fun j x u hx hu => ?_
  rw [Array.getElem?_toList] at hu
  obtain ⟨k, hk⟩ := h.2 j u hu
  obtain ⟨y, hy, r⟩ := KV.at' kv hk
  rw [List.getElem?_map, hy] at hx
  cases hx
  exact r
theorem pe_listVals {e : Expr} {te : TE} {p apos cpos pos : Pos} (hc : X.calm = true) (he : PE X e te) (hg : Gl X "list") (hm : X.mg "list" = none) (hv : bootBuiltins "list" = some (.type "list")) (hb : attributeBase e "values" X.env (eval e X.env) = eval e X.env := by rfl) (hl : (apos.endLine == cpos.line) = true := by rfl)
    (hs : starEach [.Call (.Attribute e "values" apos) [] [] cpos] X.env = (false, eval (.Call (.Attribute e "values" apos) [] [] cpos) X.env) :: starEach [] X.env := by rfl) :
    PE X (.Call (.Name "list" p) [.Call (.Attribute e "values" apos) [] [] cpos] [] pos) (tListVals te) := by
  refine ⟨fun pins s σ H Q I hq => wpAny_Call_Name_kw (ld_blt I hg hm hv (PyProof.Rows.callWith_type1 ?_ hs rfl))⟩
  rw [hs]
  refine Calls.spliced_cons (wpAny_Call_method (T := "dict") (id := "dict.values") hb rfl hl F.plainAttrs_dict F.slot_dict_values F.type_dict_values (thn (he.run pins s σ H _ I hq) ?_))
  rintro _ s1 ⟨_, H1, I1, rx, d, kvs, rfl, hd, q⟩
  cases rx
  obtain ⟨few, low, vs, kv, of⟩ := I1.hok d _ hd
  obtain ⟨ep, at_⟩ := of.dictAt
  have I2 : Inv X pins σ H1 { s1 with heap := s1.heap.push { cls := .type "dict_values", data := .fields #[.ref d] } } := I1.kept (t' := s1.toks) fun b ob q => Heap.get?_push_of_some _ q
  refine ⟨of.typeIs, of.mapOf.noDict, ?_⟩
  refine method_meetsIn F.slot_dict_values F.entry_dict_values rfl (PySem.evalArgs_none ⟨rfl, of.typeIs, F.args_dict_values_1 _, _, meets_dict_values (mixKind X.prog X.w) d low, ⟨vs, of⟩, ?_⟩)
  refine Calls.spliced_nil (PySem.W.kdl_call (PySem.W.kdl_values (knd := mixKind X.prog X.w) (kvs := vs) (ep := ep)) (I2.ok.hd hc) ⟨⟨_, Heap.get?_push_size _ rfl, rfl, rfl⟩, at_.push _⟩ (by rw [← Paired.length kv]; exact few) fun h' tk acc c kp hS hacc => ?_)
  refine ⟨.ref _, _, I2.laid kp (Nat.le_refl _) (show ObjOk X.prog X.w _ _ _ (.lst (kvs.map Prod.snd)) from ⟨by rw [List.length_map]; exact few, acc.toList, c, vals_of_view kv hacc, ?_⟩), rfl, q _ (I2.hok.fresh (Nat.le_refl _))⟩
  rw [Array.toArray_toList]; exact hS
end
end Tq

/-! Movers: new names -/
namespace Rd
open PySem PySem.Spec PyProof.Rows L2 Tq Dn Dc Mk2
abbrev sNew : Stmt := top 33
/-- a dict from texts to texts -/
abbrev prT (r : Str × Str) : Key × V := (Sum.inr r.1, V.str r.2)
abbrev TxD (H : Hp) (d : Addr) (kv : List (Str × Str)) : Prop := H d = some (.dK (kv.map prT))
structure GivenOk (ns : List Str) (gs : List (Str × Str)) : Prop where
  len : gs.length = ns.length
  dif : (gs.map Prod.fst).Nodup
  has : ∀ n ∈ ns, n ∈ gs.map Prod.fst
  nm : ∀ r ∈ gs, nameS r.2 = true
  new : (gs.map Prod.snd).Nodup
/-- the new name of a name -/
def newOf (gs : List (Str × Str)) (n : Str) : Str := ((gs.find? fun r => decide (r.1 = n)).map Prod.snd).getD n
def spNew (K : PySem.W.Frag) : Sp := fun vs H Q _ => ∃ (N : Addr) (v : V) (ns : List Str), vs = [.ref N, v] ∧ SqT K H N (ns.map V.str) ∧ ns.Nodup ∧ ns.length ≤ 8 ∧
  ((v = .non ∧ ∀ H' d, Same H H' → H d = none → TxD H' d (ns.map fun n => (n, n)) → Q (.ref d) H') ∨
    ∃ g gs, v = .ref g ∧ TxD H g gs ∧ GivenOk ns gs ∧ ∀ H' d, Same H H' → H d = none → TxD H' d (ns.map fun n => (n, newOf gs n)) → Q (.ref d) H')
def spIsOneT (K : PySem.W.Frag) : Sp := fun vs H Q _ => ∃ (d : Addr) (gs : List (Str × Str)) (x : Str), vs = [.ref d, .str x] ∧ TxD H d gs ∧ x ∈ gs.map Prod.fst ∧ Q (.bl true) H
theorem put_tx {es : List (Str × Str)} {n y : Str} (h : n ∉ es.map Prod.fst) : putK (es.map prT) (Sum.inr n : Key) (.str y) = (es ++ [(n, y)]).map prT := by
  unfold putK
  rw [if_neg]
  · rw [List.map_append]; rfl
  · rw [List.any_map]
    intro z
    obtain ⟨e, he, q⟩ := List.any_eq_true.mp z
    have q' : (Sum.inr e.1 : Key) = Sum.inr n := of_decide_eq_true q
    exact h (by rw [← Sum.inr.inj q']; exact List.mem_map_of_mem (f := Prod.fst) he)
theorem tx_val {x y : Str} : ∀ {gs : List (Str × Str)}, (gs.map Prod.fst).Nodup → (x, y) ∈ gs → valV (gs.map prT) (Sum.inr x : Key) = some (.str y)
  | [], _, h => nomatch h
  | (a, b) :: gs, nd, h => by
    rw [List.map_cons, List.nodup_cons] at nd
    rcases List.mem_cons.mp h with e | h
    · cases e; exact valV_pos rfl
    · show valV (prT (a, b) :: gs.map prT) _ = _
      rw [valV_neg]
      · exact tx_val nd.2 h
      · intro z
        refine nd.1 ?_
        rw [show a = x from Sum.inr.inj z]
        exact List.mem_map_of_mem (f := Prod.fst) (a := (x, y)) h
theorem newOf_mem {n : Str} : ∀ {gs : List (Str × Str)}, n ∈ gs.map Prod.fst → (n, newOf gs n) ∈ gs
  | [], h => nomatch h
  | (a, b) :: gs, h => by
    unfold newOf
    by_cases e : a = n
    · rw [List.find?_cons_of_pos (by exact decide_eq_true e)]
      subst e; exact List.mem_cons_self
    · rw [List.find?_cons_of_neg (by rw [decide_eq_false e]; exact Bool.false_ne_true)]
      rcases List.mem_cons.mp h with z | z
      · exact absurd z.symm e
      · exact .tail _ (newOf_mem z)
section
variable {P : Program} {w : World} {K : PySem.W.Frag} {mg : Str → Option Value} {base : Heap}
/-- a dict from the names that a tuple has, one by one -/
theorem dict_of {ns : List Str} {fn : Str → Str} (nd : ns.Nodup) (few : ns.length ≤ 8) {N D : Addr} {H1 : Hp} (hN : SqT K H1 N (ns.map V.str)) (nD : H1 D = none) {vs : List Nat} {σ : L2.St} {tt : TT} {tk tv : TE} {g : TG} {Qd : Hp → Prop}
    (step : ∀ H2 n (Z : V → V → Hp → Prop) (E2 : Hp → Prop), n ∈ ns → Same H1 H2 → Z (.str n) (.str (fn n)) H2 → g (.str n) (wipe σ vs) H2 fun σ2 H3 => wipe σ2 vs = wipe σ vs ∧ tt σ2 H3 fun b H4 => if b = true then tk σ2 H4 fun y H5 => tv σ2 H5 fun z H6 => Z y z H6 else E2 H4)
    (out : ∀ H2, Same H1 H2 → TxD H2 D (ns.map fun n => (n, fn n)) → Qd H2) :
    ∃ W : Nat → Nat → Hp → Prop, (∃ m, W 0 m (upd H1 D (.dK []))) ∧ ∀ i m H, W i m H →
      ((Itt K N).stop i H ∧ Qd H) ∨ ((Itt K N).go i H ∧ ∃ Nx : Hp → Prop, (∀ H', Nx H' → ∃ m', m' < m ∧ W (i + 1) m' H') ∧ ∀ x H', (Itt K N).yld i H x H' → g x (wipe σ vs) H' fun σ2 H2 => wipe σ2 vs = wipe σ vs ∧ tt σ2 H2 fun b H3 =>
        if b = true then tk σ2 H3 fun y H4 => tv σ2 H4 fun z H5 => ∃ kvs k, y = kV k ∧ H5 D = some (.dK kvs) ∧ kvs.length < sizeLine ∧ Nx (upd H5 D (.dK (putK kvs k z))) else Nx H3) := by
  refine dc_fil walk_tup nD (fun i kvs _ => kvs = ((ns.take i).map fun n => (n, fn n)).map prT) (by simp) (fun H' s' => sqT_up hN s') ?_ ?_
  · rintro i v kvs H2 H3 hi s2 e2 rfl ⟨rfl, hv⟩
    rw [List.getElem?_map] at hv
    obtain ⟨n, hn, rfl⟩ := Option.map_eq_some_iff.mp hv
    refine step H3 n _ _ (List.mem_of_getElem? hn) s2 ?_
    refine putD_of (k := Sum.inr n) nD s2 e2 (Same.refl _) (by rw [List.length_map, List.length_map, List.length_take, sizeLine_eq]; omega) ?_
    rw [put_tx, List.take_add_one, hn, List.map_append (f := fun n => (n, fn n))]
    · rfl
    · rw [List.map_map]
      intro z
      have z : n ∈ (ns.take i).map id := z
      rw [List.map_id] at z
      obtain ⟨k, hk, hk2⟩ := List.getElem_of_mem z
      rw [List.length_take] at hk
      obtain ⟨h1, h2⟩ := List.getElem?_eq_some_iff.mp hn
      rw [List.getElem_take] at hk2
      exact (List.pairwise_iff_getElem.mp (List.nodup_iff_pairwise_ne.mp nd)) k i (by omega) h1 (by omega) (hk2.trans h2.symm)
  · rintro kvs H2 s2 e2 rfl
    rw [List.length_map, List.take_length] at e2
    exact out H2 s2 e2

theorem scNew : FnScope ["names", "given", "name"] ["names", "given"] (defScope sNew) := ⟨rfl, rfl, rfl, by decide +kernel, rfl, by decide +kernel, by decide +kernel⟩
theorem ok_isOneT {f : Addr} {fd : FuncData} (F : Fun K "is_one_of" "is_one_of" sIsOne f fd) (T : TxM K mg) : FnOk P w K mg base CX0 1 f fd ["names", "value"] (spIsOneT K) := by
  refine F.ok scIsOne (fun vs H Q E h => ?_) (fun cdv A outer s H vs Q E hr h => ?_)
  · obtain ⟨d, gs, x, rfl, _⟩ := h; rfl
  · obtain ⟨d, gs, x, rfl, hd, hx, k⟩ := h
    have hu := hr.units
    have hu1 := Nat.lt_of_le_of_lt (Nat.add_le_add_left (show 1 ≤ 64 by decide) _) hu
    refine ⟨_, (pss_one (ps_ret (pe_and (pe_callB call_isi (by rfl) T.isi PyProof.Rows.boot_isinstance (pa_cons (pv 1) (pa_cons (pe_bltn (v := .ty "str") (by rfl) T.str (by decide +kernel) rfl) pa_nil))) (pe_one (pe_cmp (pc_din hu1 (pv 1) (pv 0))))))), ?_⟩
    refine ⟨_, rfl, .str x, .ty "str", .type "str", .type "str", true, rfl, .ty _, .base (.str _), kit_ty (by decide +kernel), _, rfl, iteT ?_⟩
    refine ⟨_, rfl, _, rfl, d, _, rfl, DGet.k (k := Sum.inr x) hd, ?_⟩
    obtain ⟨r, hr_, e⟩ := List.mem_map.mp hx
    rw [show (valV (gs.map prT) (Sum.inr x : Key)).isSome = true by
      rw [← valV_any, List.any_map]
      exact List.any_eq_true.mpr ⟨r, hr_, decide_eq_true (congrArg Sum.inr e)⟩]
    exact k
theorem ok_new {f : Addr} {fd : FuncData} (F : Fun K "new_names" "new_names" sNew f fd) (T : TxM K mg) (hO : Has P w K mg base "is_one_of" 1 ["names", "value"] (spIsOneT K)) (hN : Has P w K mg base "is_name" 1 ["value"] (spName K)) : FnOk P w K mg base CX0 2 f fd ["names", "given"] (spNew K) := by
  obtain ⟨fO, fdO, mO, kO, bO, GO⟩ := hO
  obtain ⟨fN, fdN, mN, kN, bN, GN⟩ := hN
  refine F.ok scNew (fun vs H Q E h => ?_) (fun cdv A outer s H vs Q E hr h => ?_)
  · obtain ⟨N, v, ns, rfl, _⟩ := h; rfl
  · obtain ⟨N, v, ns, rfl, hNs, nd, few, h⟩ := h
    have hu := hr.units
    have hu1 := Nat.lt_of_le_of_lt (Nat.add_le_add_left (show 1 ≤ 64 by decide) _) hu
    refine ⟨_, (pss_cons (ps_if (pt_cmp (pc_isN (pv 1))) (pss_one (ps_ret (pe_dc (own := [("name", 2)]) (g := gName 2) (tt := tYes) (tk := tVar 2) (tv := tVar 2) rfl scNew.nd (pi_tup (pv 0)) (blkOk_by (N := ["names", "given", "name"]) (sc := defScope sNew) (by decide +kernel)) (fun _ _ _ _ _ => pg_name (i := 2) scNew.nd rfl (Or.inl rfl)) (fun _ _ _ _ _ => pts_nil) (fun _ _ _ _ _ => pv 2) (fun _ _ _ _ _ => pv 2)))) pss_nil)
      (pss_cons (ps_if (PW.pt (pw_or (pt_not (pt_val (pe_callB call_isi (by rfl) T.isi PyProof.Rows.boot_isinstance (pa_cons (pv 1) (pa_cons (pe_bltn (v := .ty "dict") (by rfl) T.dict (by decide +kernel) rfl) pa_nil))))) (pw_or1 (pt_cmpR op_ne (pe_callB call_lenD (by rfl) T.len PySem.boot_len (pa_cons (pv 1) pa_nil)) (pe_callB call_lenT (by rfl) T.len PySem.boot_len (pa_cons (pv 0) pa_nil)) (nomark _))))) (pss_one ps_never) pss_nil)
      (pss_cons (ps_if (pt_not (pt_val (pe_callB (cr_all rfl) (by rfl) T.all PyProof.Rows.boot_all (pa_cons (pe_lc (own := [("name", 2)]) (g := gName 2) (tt := tYes) (te := tAndV (tCall (spIsOneT K) [] E0 (tCons (tVar 1) (tCons (tVar 2) tNil))) (tCall (spName K) [] E0 (tCons (tDGet (tVar 1) (tVar 2)) tNil))) rfl scNew.nd (pi_tup (pv 0)) (blkOk_by (N := ["names", "given", "name"]) (sc := defScope sNew) (by decide +kernel)) (fun _ _ _ _ _ => pg_name (i := 2) scNew.nd rfl (Or.inl rfl)) (fun _ _ _ _ _ => pts_nil) (fun _ _ _ _ _ => (pe_and (pe_call GO (hr.mono (show 1 ≤ 1 by decide)) (by rfl) mO kO bO .nil pass0 (pa_cons (pv 1) (pa_cons (pv 2) pa_nil))) (pe_one (pe_call GN (hr.mono (show 1 ≤ 1 by decide)) (by rfl) mN kN bN .nil pass0 (pa_cons (pe_dget hu1 (pv 1) (pv 2) (fun _ _ => rfl)) pa_nil)))))) pa_nil)))) (pss_one ps_never) pss_nil)
      (pss_cons (ps_if (pt_cmpR op_ne (pe_callB call_lenTx (by rfl) T.len PySem.boot_len (pa_cons (pe_callTy (cr_setT rfl) (by rfl) T.set PyProof.Rows.boot_set (pa_cons (pe_listVals rfl (pv 1) (by rfl) T.list PyProof.Rows.boot_list) pa_nil)) pa_nil)) (pe_callB call_lenT (by rfl) T.len PySem.boot_len (pa_cons (pv 0) pa_nil)) (nomark _)) (pss_one ps_never) pss_nil)
      (pss_one (ps_ret (pe_dc (own := [("name", 2)]) (g := gName 2) (tt := tYes) (tk := tVar 2) (tv := tDGet (tVar 1) (tVar 2)) rfl scNew.nd (pi_tup (pv 0)) (blkOk_by (N := ["names", "given", "name"]) (sc := defScope sNew) (by decide +kernel)) (fun _ _ _ _ _ => pg_name (i := 2) scNew.nd rfl (Or.inl rfl)) (fun _ _ _ _ _ => pts_nil) (fun _ _ _ _ _ => pv 2) (fun _ _ _ _ _ => pe_dget hu1 (pv 1) (pv 2) (fun _ _ => rfl))))))))), ?_⟩
    rcases h with ⟨rfl, k⟩ | ⟨g, gs, rfl, hg, ok, k⟩
    · refine ⟨_, rfl, true, congrArg V.bl (decide_eq_true rfl), iteT ?_⟩
      refine ⟨_, rfl, N, rfl, ⟨_, hNs⟩, fun D nD => ?_⟩
      exact dict_of (fn := fun n => n) nd few hNs nD (fun H2 n Z E2 hn s2 z => ⟨rfl, tt_yes ⟨_, rfl, _, rfl, z⟩⟩) (fun H2 s2 hD => k H2 D s2 nD hD)
    refine ⟨_, rfl, false, congrArg V.bl (decide_eq_false (fun z => by cases z)), iteF ?_⟩
    refine ⟨_, rfl, .ref g, .ty "dict", .type "dict", .type "dict", true, rfl, .ty _, .base (.dK hg), kit_ty (by decide +kernel), _, rfl, iteF ?_⟩
    refine ⟨_, rfl, g, _, rfl, hg, _, rfl, N, _, rfl, hNs, ?_⟩
    have neq : ∀ {a b : Int}, a = b → V.bl (!decide (V.int a = V.int b)) = .bl false := fun e => by rw [decide_eq_true (congrArg V.int e)]; rfl
    have lg := ok.len
    refine ⟨rfl, false, neq (by rw [List.length_map, List.length_map]; omega), iteF ?_⟩
    refine ⟨_, rfl, N, rfl, ⟨_, hNs⟩, fun D hD => ?_⟩
    have off : Off D (fun i acc (_ : Hp) => acc = List.replicate i (V.bl true)) := fun _ _ _ _ _ _ _ z => z
    refine lc_fil walk_tup hD (fun i acc _ => acc = List.replicate i (V.bl true)) rfl (fun H' s' => sqT_up hNs s') ?_ ?_
    · rintro i v acc H2 H3 hi s2 e2 rfl ⟨rfl, hv⟩
      rw [List.length_map] at hi
      rw [List.getElem?_map] at hv
      obtain ⟨n, hn, rfl⟩ := Option.map_eq_some_iff.mp hv
      have hm := ok.has n (List.mem_of_getElem? hn)
      have hz := newOf_mem hm
      have nz := ok.nm _ hz
      refine ⟨rfl, tt_yes ?_⟩
      refine ⟨_, rfl, _, rfl, g, gs, n, rfl, s2 _ _ hg, hm, true, rfl, iteT ?_⟩
      refine ⟨_, rfl, _, rfl, g, _, rfl, .inl ⟨_, Sum.inr n, .inl (s2 _ _ hg), rfl, (tx_val ok.dif hz).symm⟩, .str (newOf gs n), .str (newOf gs n), rfl, .str _, fun s z => by cases z; exact name_sz nz, fun H4 s4 => ?_⟩
      rw [show nameD (.str (newOf gs n)) = true from nz]
      exact put_of hD off s2 e2 s4 (by rw [List.length_replicate, sizeLine_eq]; omega) (rep_snoc _ _)
    rintro acc H2 s2 e2 rfl
    refine ⟨D, List.replicate _ true, rfl, SqL.of (by rw [e2, List.map_replicate]), _, rfl, ?_⟩
    rw [all_rep]
    refine iteF ?_
    have hg2 := s2 _ _ hg
    refine ⟨_, rfl, g, _, rfl, hg2, fun p np => ?_⟩
    have s3 := same_new (o := HO.lst ((gs.map prT).map Prod.snd)) np
    refine ⟨p, gs.map Prod.snd, rfl, SqL.of (by rw [upd_same, List.map_map, List.map_map]; rfl), by rw [List.length_map]; omega, fun a L na mem le => ?_⟩
    have s4 := same_new (o := SetT P w a L) na
    have sa := (s2.trans s3).trans s4
    have lL : L.length = ns.length := by
      have h1 := nd_len ok.new (ys := L) fun x hx => (mem x).mpr hx
      rw [List.length_map] at h1 le
      omega
    refine ⟨a, L, rfl, upd_same, _, rfl, N, _, rfl, sqT_up hNs sa, ?_⟩
    refine ⟨rfl, false, neq (by rw [List.length_map]; omega), iteF ?_⟩
    refine ⟨_, rfl, N, rfl, ⟨_, sqT_up hNs sa⟩, fun D2 nD2 => ?_⟩
    refine dict_of (fn := newOf gs) nd few (sqT_up hNs sa) nD2 (fun H5 n Z E2 hn s5 z => ⟨rfl, tt_yes ⟨_, rfl, ?_⟩⟩) (fun H5 s5 hD => k H5 D2 (sa.trans s5) (sa.free nD2) hD)
    exact ⟨_, rfl, _, rfl, g, _, rfl, .inl ⟨_, Sum.inr n, .inl (s5 _ _ (sa _ _ hg)), rfl, (tx_val ok.dif (newOf_mem (ok.has n hn))).symm⟩, z⟩
end
end Rd

/-! A method of an instance called with keywords alone -/
namespace Mk2
open PySem PySem.Spec PyProof.Rows L2
def tMethKw (C : Addr) (m : Str) (nk : Nat) (sp : Sp) (gV : List V → List V → List V) (E : XK) (ta : TE) (tk : TA) : TE := fun σ H Q => ta σ H fun x H1 => ∃ a dx fs, x = .ref a ∧ H1 a = some (.ins C dx fs) ∧ fs.lookup m = none ∧ tk σ H1 fun zs H2 => zs.length = nk ∧ sp (gV [.ref a] zs) H2 Q E
section
variable {X : Cx} {CX : CXT} {k : Nat} {f C : Addr} {fd : FuncData} {ps ks : List Str} {sp : Sp} {E : XK} {o : Expr} {m : Str} {apos pos : Pos} {kws : List Keyword} {ta : TE} {tk : TA} {g : List Value → List Value → List Value} {gV : List V → List V → List V}
/-- o.m(k = v, ..) -/
theorem pe_methKw {pl : Sem Bool} (ho : PE X o ta) (c : Cls X.K C) (hm : Meth X.K C m f) (F : FnOk X.prog X.w X.K X.mg X.base CX k f fd ps sp) (hr : Room k X.A) (hb : KBn X.K fd ps 1 ks g gV) (hx : Passes CX X E) (hkw : PK X kws tk)
    (hall : (backToKw pos (keywordEach kws X.env)).all (·.1.isSome) = true := by rfl) (hks : (backToKw pos (keywordEach kws X.env)).filterMap (·.1) = ks := by rfl)
    (hpl : ((backTo pos (starEach [] X.env)).any (·.1) || (backToKw pos (keywordEach kws X.env)).any (·.1.isNone)) = false := by rfl)
    (ht : eval (.Call (.Attribute o m apos) [] kws pos) X.env = (do
      let ov ← eval o X.env
      standAt apos.atName
      let (f, first) ← holding [ov] (getMethod ov m pl)
      callWith pos f first (backTo pos (starEach [] X.env)) (backToKw pos (keywordEach kws X.env))) := by rfl) :
    PE X (.Call (.Attribute o m apos) [] kws pos) (tMethKw C m ks.length sp gV E ta tk) := by
  refine ⟨fun pins s σ H Q I h => PySem.W.methodCall_KW (pl := pl) (thn (ho.run pins s σ H _ I h) ?_) ht⟩
  rintro _ s1 ⟨_, H1, I1, rx, a, dx, fs, rfl, ea, l, q⟩
  cases rx
  refine getmeth_ok I1 ea c hm l (PySem.W.callWith_KW0 (first := [.ref a]) (h₀ := X.base) I.ok.mod.kin hm.kp hall (thn (hkw.run pos pins s1 σ H1 _ I1 q) fun ws s2 ⟨zs, H2, I2, rz, nz, q2⟩ => ⟨I2.kIn, ?_⟩) hpl)
  rw [hks]
  exact run_fnN (us := [.ref a]) (vs := [.ref a]) F hr hb hx I2 (.cons rfl .nil) rz rfl nz q2
end
end Mk2

/-! A name set to a dict by a comprehension -/
namespace Tq
open PySem PySem.Spec PyProof.Rows L2
theorem sw_trueD {kx vx : Expr} {gs : List Comprehension} {scope : Scope} {pos py : Pos} {y : Str} {l : Nat} {env : Env} (hk : env.scope.kind = .function) (hy : env.scope.names.lookup y = some .local) (hl : (py.line == pos.line) = true)
    (ha : (scope.names.any fun (n, k) => n == y && (k == .local || k == .cell)) = false) : swapsWith (.DictComp kx vx gs scope pos) (some (.Name y py)) l env = pure true := by
  have k1 : env.kindOf y = some .local := hy
  have k2 : env.blockKind = .function := by unfold Env.blockKind; rw [hk]; rfl
  simp only [swapsWith, k2, k1, ha, Expr.pos, hl]
  first | rfl | simp
section
variable {X : Cx}
theorem ps_setDc {i : Nat} {y : Str} {py : Pos} {kx vx tg iter : Expr} {ifs : List Expr} {scope : Scope} {own : List (Str × Nat)} {pos spos : Pos} {wi : TI} {g : TG} {tt : TT} {tk tv : TE} (hc : X.calm = true) (hN : X.N.Nodup) (hy : X.N[i]? = some y) (loc : X.env.scope.names.lookup y = some .local)
    (sw : swapsWith (.DictComp kx vx [⟨tg, iter, ifs, 0⟩] scope pos) (some (.Name y py)) spos.line X.env = pure true) (hi : PI X tg iter wi) (ok : BlkOk X.N X.env.scope scope own)
    (hg : ∀ (s : Shared) (H : Hp) (C : Addr) (cl : List (Str × Addr)) (fp : List Addr), PG (X.blk s H scope (compEnvC scope cl C X.env) fp) tg g) (ht : ∀ (s : Shared) (H : Hp) (C : Addr) (cl : List (Str × Addr)) (fp : List Addr), PTs (X.blk s H scope (compEnvC scope cl C X.env) fp) ifs tt)
    (hk : ∀ (s : Shared) (H : Hp) (C : Addr) (cl : List (Str × Addr)) (fp : List Addr), PE (X.blk s H scope (compEnvC scope cl C X.env) fp) kx tk)
    (he : ∀ (s : Shared) (H : Hp) (C : Addr) (cl : List (Str × Addr)) (fp : List Addr), PE (X.blk s H scope (compEnvC scope cl C X.env) fp) vx tv) (hs : ∀ x, foldedSetIterable iter X.env x = pure x := by intro _; rfl) :
    PS X (.Assign [.Name y py] (.DictComp kx vx [⟨tg, iter, ifs, 0⟩] scope pos) spos) (tAsg (tDc wi g tt tk tv (own.map (·.2))) (gName i)) := by
  refine ⟨fun pins s σ H D I h => ?_⟩
  rw [exec_Assign_Name_used _ _ _ _ sw]
  refine wpAny_bind (wpAny_standAt (wpAny_bind (wpAny_bind (thn (dc_core (Q := fun x H1 => gName i x σ H1 D.nx) (Qf := fun _ s' => SP X pins D .next s') (use := some (assign (.Name y py) X.env)) hc hN I hi ok hg ht hk he hs h ?_) fun _ _ q => wpAny_pure (wpAny_pure q)))))
  intro L C s1 m H1 I1 q hn fpk
  refine wpAny_assign_Name (store_ok2 (v := V.ref L) I1 hN hy (.inl loc) rfl (fun s2 I2 ⟨a, sb, ha⟩ => ?_) (.inr loc))
  obtain ⟨none_, ne, nfs, ex, ncell, npin⟩ := fpk
  have away : C ≠ a := ha.elim (fun z => z ▸ ne) fun z => fun e => ncell y a z e.symm
  exact ⟨m, hn.sameBut sb away, fun h3 sb3 => ⟨_, H1, I2.turned (t' := s2.toks) (fun b o hb e => (sb3.2 b hb).trans e) none_ ne ex ncell npin, q⟩⟩
end
end Tq

/-! Movers: the tables as they are passed; renamed -/
namespace Rd
open PySem PySem.Spec PyProof.Rows L2 Tq Dn Dc Mk2
abbrev sRen : Stmt := inClass cMover 15
theorem tb_off {K : PySem.W.Frag} {D a : Addr} {H H' : Hp} {l : List V} {t : Tb} (hD : H D = some (.lst l)) (k : Keep D H H') (h : TbAt K H a t) : TbAt K H' a t :=
  let ⟨d, q, x, y, z⟩ := h; ⟨d, q, off_seq hD k x, pl_off hD k y, pairs_off hD k z⟩
def spMtd (K : PySem.W.Frag) (C : Addr) : Sp := fun vs H Q _ => ∃ (m : Addr) (ps : List Str) (ts : List Tb) (bs : List Prs), vs = [.ref m] ∧ MvAt K C H m ps ts bs ∧ ts.length ≤ 3 ∧
  ∀ H' p rs, Same H H' → H p = none → TbsAt K H' p rs → rs.map Prod.snd = ts → Q (.ref p) H'
structure TxM0 (K : PySem.W.Frag) (mg : Str → Option Value) (C : Addr) : Prop extends TxM K mg where
  cl : Cls K C
  nP : NoAttr K C "_parts"
  nT : NoAttr K C "_tables"
  nL : NoAttr K C "_placements"
  nS : NoAttr K C "_steps"
  nB : NoAttr K C "_bonds"
section
variable {P : Program} {w : World} {K : PySem.W.Frag} {mg : Str → Option Value} {base : Heap}
theorem scMtd : FnScope ["self", "at", "name"] ["self"] (defScope sMtd) := ⟨rfl, rfl, rfl, by decide +kernel, rfl, by decide +kernel, by decide +kernel⟩
theorem ok_mtd {C f : Addr} {fd : FuncData} (F : Fun K "_told" "Mover._told" sMtd f fd) (T : TxM0 K mg C) : FnOk P w K mg base CX0 1 f fd ["self"] (spMtd K C) := by
  refine F.ok scMtd (fun vs H Q E h => ?_) (fun cdv A outer s H vs Q E hr h => ?_)
  · obtain ⟨m, ps, ts, bs, rfl, _⟩ := h; rfl
  · obtain ⟨m, ps, ts, bs, rfl, ⟨dx, Pa, T', L, S, B, J, ds, ss, qs, e, hPa, hT, hD, ed, hS, es, hB, eb, hJ⟩, few, k⟩ := h
    refine ⟨_, (pss_one (ps_ret (pe_callTy call_tupOf (by rfl) T.tuple PyProof.Rows.boot_tuple (pa_cons (pe_lc (own := [("at", 1), ("name", 2)]) (g := (gTup K 2 (gCons (gName 1) (gCons (gName 2) gNil)))) (tt := tYes) (te := tTup (tCons (tVar 2) (tCons (tOp (rIxT K) (tFld K (tVar 0) "_placements") (tVar 1)) (tCons (tOp (rIxT K) (tFld K (tVar 0) "_steps") (tVar 1)) tNil)))) rfl scMtd.nd (pi_enumT (by rfl) T.enum (pa_cons (pe_fld (pv 0) rfl) pa_nil)) (blkOk_by (N := ["self", "at", "name"]) (sc := defScope sMtd) (by decide +kernel)) (fun _ _ _ _ _ => pg_tup rfl (pgs_cons (pg_name (i := 1) scMtd.nd rfl (Or.inl rfl)) (pgs_cons (pg_name (i := 2) scMtd.nd rfl (Or.inl rfl)) pgs_nil))) (fun _ _ _ _ _ => pts_nil) (fun _ _ _ _ _ => (pe_tup (pa_cons (pv 2) (pa_cons (pe_ix ix_tup (pe_fld (pv 0) rfl) (pv 1) (fun _ _ => rfl)) (pa_cons (pe_ix ix_tup (pe_fld (pv 0) rfl) (pv 1) (fun _ _ => rfl)) pa_nil)))))) pa_nil)))), ?_⟩
    have ld : ds.length = ts.length := by have := congrArg List.length ed; simpa using this
    have ls : ss.length = ts.length := by have := congrArg List.length es; simpa using this
    refine ⟨_, rfl, m, C, dx, _, _, rfl, e, T.cl, T.nT, mv_tables, T', _, rfl, hT, fun D nD => ?_⟩
    refine lc_fil walk_enumT nD (AP (α := Tb) (fun a t H' => TbAt K H' a t) (fun j t => ts[j]? = some t)) ap_nil (fun H' s' => sqT_up hT s') ?_ ?_
    · rintro i v acc H2 H3 hi s2 e2 hap ⟨Tt, x, y, rfl, nT, rfl, hx, hy⟩
      rw [List.length_map] at hi
      obtain rfl : V.int (i : Nat) = x := Option.some.inj hx
      have hy : (ts.map fun t => V.str t.nm)[i]? = some y := hy
      rw [List.getElem?_map] at hy
      obtain ⟨t, ht, rfl⟩ := Option.map_eq_some_iff.mp hy
      obtain ⟨d, hd⟩ : ∃ d, ds[i]? = some d := ⟨ds[i]'(by omega), List.getElem?_eq_getElem _⟩
      obtain ⟨q, hq⟩ : ∃ q, ss[i]? = some q := ⟨ss[i]'(by omega), List.getElem?_eq_getElem _⟩
      have ed2 : d.2 = t.pl := by
        have h1 : (ds.map Prod.snd)[i]? = some d.2 := by rw [List.getElem?_map, hd]; rfl
        rw [ed, List.getElem?_map, ht] at h1
        exact (Option.some.inj h1).symm
      have es2 : q.2 = t.st := by
        have h1 : (ss.map Prod.snd)[i]? = some q.2 := by rw [List.getElem?_map, hq]; rfl
        rw [es, List.getElem?_map, ht] at h1
        exact (Option.some.inj h1).symm
      have st := same_new (o := HO.tup [V.int (i : Nat), V.str t.nm]) nT
      have s3 := s2.trans st
      have e3 := s3 _ _ e
      refine ⟨Tt, _, rfl, SqT.of upd_same, rfl, _, _, rfl, _, _, rfl, rfl, rfl, tt_yes ?_⟩
      refine ⟨_, rfl, _, rfl, m, C, dx, _, _, rfl, e3, T.cl, T.nL, mv_places, _, rfl, L, _, _, _, rfl, rfl, sqT_up hD.1 s3, atI_nat (j := i) (by rw [List.getElem?_map, hd]; rfl), ?_⟩
      refine ⟨_, rfl, m, C, dx, _, _, rfl, e3, T.cl, T.nS, mv_steps, _, rfl, S, _, _, _, rfl, rfl, sqT_up hS.1 s3, atI_nat (j := i) (by rw [List.getElem?_map, hq]; rfl), ?_⟩
      refine ⟨(by show 3 ≤ sizeLine; decide), fun a na => ?_⟩
      have s4 := st.trans (same_new (o := HO.tup [V.str t.nm, .ref d.1, .ref q.1]) na)
      have s5 := s2.trans s4
      refine ap_put (fun a v l H H' e k h => tb_off e k h) (fun a v H H' s h => h.up s) nD s2 e2 s4 hap (by omega) (v := t) ⟨d.1, q.1, SqT.of upd_same, ?_, ?_⟩ ht
      · rw [← ed2]; exact (hD.2 d (List.mem_of_getElem? hd)).up s5
      · rw [← es2]; exact (hS.2 q (List.mem_of_getElem? hq)).up s5
    rintro acc Hc sc ec ⟨rs, rfl, lrs, hrs, ors⟩
    rw [List.length_map] at lrs
    refine ⟨D, _, rfl, SqL.of ec, fun p np => ?_⟩
    have sp_ := same_new (o := HO.tup (rs.map fun d => V.ref d.1)) np
    refine k _ p rs (sc.trans sp_) (sc.free np) ⟨SqT.of upd_same, fun r hr => (hrs r hr).up sp_⟩ ?_
    refine List.ext_getElem? fun i => ?_
    by_cases h : i < rs.length
    · have h1 : rs[i]? = some rs[i] := List.getElem?_eq_getElem h
      rw [List.getElem?_map, h1, ors i _ h1]; rfl
    · rw [List.getElem?_eq_none (by rw [List.length_map]; omega), List.getElem?_eq_none (by omega)]
end
/-! renamed -/
/-- fn tells the new names of these names -/
def NewOf (H : Hp) (v : V) (ns : List Str) (fn : Str → Str) : Prop := (v = .non ∧ fn = fun n => n) ∨ ∃ g gs, v = .ref g ∧ TxD H g gs ∧ GivenOk ns gs ∧ fn = newOf gs
theorem NewOf.up {H H' : Hp} {v : V} {ns : List Str} {fn : Str → Str} (h : NewOf H v ns fn) (s : Same H H') : NewOf H' v ns fn := h.imp id fun ⟨g, gs, a, b, c⟩ => ⟨g, gs, a, s _ _ b, c⟩
theorem snd_one {a b y : Str} : ∀ {gs : List (Str × Str)}, (gs.map Prod.snd).Nodup → (a, y) ∈ gs → (b, y) ∈ gs → a = b
  | [], _, h, _ => nomatch h
  | (c, d) :: gs, nd, ha, hb => by
    rw [List.map_cons, List.nodup_cons] at nd
    rcases List.mem_cons.mp ha with e | ha2
    · rcases List.mem_cons.mp hb with e2 | hb2
      · exact (congrArg Prod.fst e).trans (congrArg Prod.fst e2).symm
      · exact absurd (List.mem_map_of_mem (f := Prod.snd) hb2) (by rw [show (b, y).2 = d from congrArg Prod.snd e]; exact nd.1)
    · rcases List.mem_cons.mp hb with e2 | hb2
      · exact absurd (List.mem_map_of_mem (f := Prod.snd) ha2) (by rw [show (a, y).2 = d from congrArg Prod.snd e2]; exact nd.1)
      · exact snd_one nd.2 ha2 hb2
theorem NewOf.inj {H : Hp} {v : V} {ns : List Str} {fn : Str → Str} (h : NewOf H v ns fn) {a b : Str} (ha : a ∈ ns) (hb : b ∈ ns) (e : fn a = fn b) : a = b := by
  rcases h with ⟨_, rfl⟩ | ⟨g, gs, _, _, ok, rfl⟩
  · exact e
  · have h1 := newOf_mem (ok.has a ha)
    have h2 := newOf_mem (ok.has b hb)
    rw [e] at h1
    exact snd_one ok.new h1 h2
theorem NewOf.name {H : Hp} {v : V} {ns : List Str} {fn : Str → Str} (h : NewOf H v ns fn) (nm : ∀ n ∈ ns, nameS n = true) {a : Str} (ha : a ∈ ns) : nameS (fn a) = true := by
  rcases h with ⟨_, rfl⟩ | ⟨g, gs, _, _, ok, rfl⟩
  · exact nm a ha
  · exact ok.nm _ (newOf_mem (ok.has a ha))
theorem ap_app {α : Type} {Pr : Addr → α → Hp → Prop} {R : Nat → α → Prop} {H H4 : Hp} {D a : Addr} {i : Nat} {acc : List V} {v : α} (off : ∀ a v l H H', H D = some (.lst l) → Keep D H H' → Pr a v H → Pr a v H') (up : ∀ a v H H', Same H H' → Pr a v H → Pr a v H')
    (e : H D = some (.lst acc)) (s4 : Same H H4) (h : AP Pr R i acc H) (few : i < 1000) (p : Pr a v H4) (r : R i v) : AP Pr R (i + 1) (acc ++ [.ref a]) (upd H4 D (.lst (acc ++ [.ref a]))) := by
  obtain ⟨acc2, h1, _, _, acc3, h3, h4⟩ := ap_put (H1 := fun _ => none) off up rfl (fun _ _ z => nomatch z) e s4 h few p r
  rw [s4 _ _ e] at h1
  cases h1
  rw [upd_same] at h3
  cases h3
  exact h4
def spNewU (K : PySem.W.Frag) : Sp := fun vs H Q _ => ∃ (N : Addr) (v : V) (ns : List Str) (fn : Str → Str), vs = [.ref N, v] ∧ SqT K H N (ns.map V.str) ∧ ns.Nodup ∧ ns.length ≤ 8 ∧ NewOf H v ns fn ∧ ∀ H' d, Same H H' → H d = none → TxD H' d (ns.map fun n => (n, fn n)) → Q (.ref d) H'
theorem spNewU_to {K : PySem.W.Frag} {vs : List V} {H : Hp} {Q : VK} {E : XK} (h : spNewU K vs H Q E) : spNew K vs H Q E := by
  obtain ⟨N, v, ns, fn, rfl, hN, nd, few, n, k⟩ := h
  refine ⟨N, v, ns, rfl, hN, nd, few, ?_⟩
  rcases n with ⟨rfl, rfl⟩ | ⟨g, gs, rfl, hg, ok, rfl⟩
  · exact .inl ⟨rfl, k⟩
  · exact .inr ⟨g, gs, rfl, hg, ok, k⟩
theorem fnok_imp {P : Program} {w : World} {K : PySem.W.Frag} {mg : Str → Option Value} {base : Heap} {CX : CXT} {k : Nat} {f : Addr} {fd : FuncData} {ps : List Str} {sa sb : Sp} (F : FnOk P w K mg base CX k f fd ps sa) (h : ∀ vs H Q E, sb vs H Q E → sa vs H Q E) : FnOk P w K mg base CX k f fd ps sb :=
  ⟨fun vs H Q E q => F.len _ _ _ _ (h _ _ _ _ q), fun A outer s H args us vs Q E hr e0 hb r q => F.run A outer s H args us vs Q E hr e0 hb r (h _ _ _ _ q)⟩
structure PlTo (fp : Str → Str) (a b : List (Str × List Str)) : Prop where
  len : b.length = a.length
  at_ : ∀ (i : Nat) x y, a[i]? = some x → b[i]? = some y → y.1 = x.1 ∧ AscS (x.2.map fp) y.2
structure TbTo (fp ft : Str → Str) (t u : Tb) : Prop where
  nm : u.nm = ft t.nm
  pl : PlTo fp t.pl u.pl
  st : u.st = t.st
structure TbsTo (fp ft : Str → Str) (ts us : List Tb) : Prop where
  len : us.length = ts.length
  at_ : ∀ (i : Nat) t u, ts[i]? = some t → us[i]? = some u → TbTo fp ft t u
theorem PlTo.names {fp : Str → Str} {a b : List (Str × List Str)} (h : PlTo fp a b) : b.map Prod.fst = a.map Prod.fst := by
  refine List.ext_getElem? fun i => ?_
  have len := h.len
  by_cases l : i < a.length
  · have h1 : a[i]? = some a[i] := List.getElem?_eq_getElem l
    have h2 : b[i]? = some (b[i]'(by omega)) := List.getElem?_eq_getElem _
    rw [List.getElem?_map, List.getElem?_map, h1, h2]
    exact congrArg some (h.at_ i _ _ h1 h2).1
  · rw [List.getElem?_eq_none (by rw [List.length_map]; omega), List.getElem?_eq_none (by rw [List.length_map]; omega)]
theorem TbsTo.nms {fp ft : Str → Str} {a b : List Tb} (h : TbsTo fp ft a b) : b.map Tb.nm = (a.map Tb.nm).map ft := by
  refine List.ext_getElem? fun i => ?_
  have len := h.len
  by_cases l : i < a.length
  · have h1 : a[i]? = some a[i] := List.getElem?_eq_getElem l
    have h2 : b[i]? = some (b[i]'(by omega)) := List.getElem?_eq_getElem _
    rw [List.getElem?_map, List.getElem?_map, List.getElem?_map, h1, h2]
    exact congrArg some (h.at_ i _ _ h1 h2).nm
  · rw [List.getElem?_eq_none (by rw [List.length_map]; omega), List.getElem?_eq_none (by rw [List.length_map, List.length_map]; omega)]
theorem nodup_mapOn {f : Str → Str} : ∀ {l : List Str}, l.Nodup → (∀ a ∈ l, ∀ b ∈ l, f a = f b → a = b) → (l.map f).Nodup
  | [], _, _ => List.nodup_nil
  | x :: l, nd, h => by
    rw [List.nodup_cons] at nd
    rw [List.map_cons, List.nodup_cons]
    refine ⟨fun z => ?_, nodup_mapOn nd.2 fun a ha b hb => h a (.tail _ ha) b (.tail _ hb)⟩
    obtain ⟨y, hy, e⟩ := List.mem_map.mp z
    exact nd.1 (by rw [← h y (.tail _ hy) x List.mem_cons_self e]; exact hy)
theorem pair_nd {l : List Str} (h : l.Pairwise fun x y => sg1 x < sg1 y) : l.Nodup := List.nodup_iff_pairwise_ne.mpr (h.imp fun {a b} z e => by subst e; exact absurd z (List.lt_irrefl _))
theorem asc_len {a b : List Str} (nd : a.Nodup) (h : AscS a b) : b.length = a.length := by
  have h1 := nd_len nd fun x hx => (h.mem x).mpr hx
  have h2 := nd_len (pair_nd h.up) fun x hx => (h.mem x).mp hx
  omega
theorem parts_to {H : Hp} {v : V} {ps qs : List Str} {fp : Str → Str} (n : NewOf H v ps fp) (ok : OkParts ps) (h : AscS (ps.map fp) qs) : OkParts qs := by
  have l := asc_len (nodup_mapOn (pair_nd ok.up) fun a ha b hb e => n.inj ha hb e) h
  rw [List.length_map] at l
  have lo := ok.lo; have hi := ok.hi
  refine ⟨by omega, by omega, fun p hp => ?_, h.up⟩
  obtain ⟨x, hx, rfl⟩ := List.mem_map.mp ((h.mem p).mp hp)
  exact n.name ok.nm hx
theorem some_to {ps qs q q' : List Str} {fp : Str → Str} (hp : AscS (ps.map fp) qs) (ok : OkSome ps q) (h : AscS (q.map fp) q') : OkSome qs q' := by
  have l := nd_len (pair_nd h.up) fun x hx => (h.mem x).mp hx
  rw [List.length_map] at l
  refine ⟨Nat.le_trans l ok.len, fun x hx => ?_, h.up⟩
  obtain ⟨y, hy, rfl⟩ := List.mem_map.mp ((h.mem x).mp hx)
  exact (hp.mem _).mpr (List.mem_map_of_mem (ok.of y hy))
theorem pl_to {ps qs : List Str} {a b : List (Str × List Str)} {fp : Str → Str} (hp : AscS (ps.map fp) qs) (ok : OkPl ps a) (h : PlTo fp a b) : OkPl qs b := by
  have e := h.names
  have len := h.len
  refine ⟨by rw [len]; exact ok.lo, by rw [len]; exact ok.hi, fun p hp2 => ?_, by rw [e]; exact ok.dif, fun p hp2 => ?_⟩
  · have : p.1 ∈ a.map Prod.fst := by rw [← e]; exact List.mem_map_of_mem hp2
    obtain ⟨x, hx, ex⟩ := List.mem_map.mp this
    rw [← ex]; exact ok.nm x hx
  · obtain ⟨i, hi⟩ := List.getElem?_of_mem hp2
    have l : i < b.length := (List.getElem?_eq_some_iff.mp hi).1
    have h1 : a[i]? = some (a[i]'(by omega)) := List.getElem?_eq_getElem _
    exact some_to hp (ok.parts _ (List.mem_of_getElem? h1)) (h.at_ i _ _ h1 hi).2
theorem prs_to {a a2 b b2 : List (Str × List Str)} {st : Prs} (e1 : a2.map Prod.fst = a.map Prod.fst) (e2 : b2.map Prod.fst = b.map Prod.fst) (ok : OkPrs a b st) : OkPrs a2 b2 st := ⟨ok.len, fun p hp => by rw [e1]; exact ok.one p hp, fun p hp => by rw [e2]; exact ok.two p hp⟩
theorem tbs_to {H : Hp} {v : V} {ps qs : List Str} {ts us : List Tb} {fp ft : Str → Str} (hp : AscS (ps.map fp) qs) (n : NewOf H v (ts.map Tb.nm) ft) (ok : OkTbs ps ts) (h : TbsTo fp ft ts us) : OkTbs qs us := by
  have len := h.len
  have lo := ok.lo; have hi := ok.hi
  refine ⟨by omega, by omega, fun u hu => ?_, ?_⟩
  · obtain ⟨i, hi⟩ := List.getElem?_of_mem hu
    have l : i < us.length := (List.getElem?_eq_some_iff.mp hi).1
    have h1 : ts[i]? = some (ts[i]'(by omega)) := List.getElem?_eq_getElem _
    have z := h.at_ i _ _ h1 hi
    have o := ok.tb _ (List.mem_of_getElem? h1)
    refine ⟨?_, pl_to hp o.pl z.pl, ?_, ?_⟩
    · rw [z.nm]
      refine n.name (fun x hx => ?_) (List.mem_map_of_mem (List.mem_of_getElem? h1))
      obtain ⟨t, ht, rfl⟩ := List.mem_map.mp hx
      exact (ok.tb t ht).nm
    · rw [z.st]; exact prs_to z.pl.names z.pl.names o.st
    · rw [z.st]; exact o.dif
  · rw [h.nms]; exact nodup_mapOn ok.dif fun a ha b hb e => n.inj ha hb e
theorem bs_to {ts us : List Tb} {bs : List Prs} {fp ft : Str → Str} (ok : OkBs ts bs) (h : TbsTo fp ft ts us) : OkBs us bs := by
  have len := h.len
  have lb := ok.len
  refine ⟨by omega, fun i t u b ht hu hb => ?_⟩
  have l1 : i < us.length := (List.getElem?_eq_some_iff.mp ht).1
  have l2 : i + 1 < us.length := (List.getElem?_eq_some_iff.mp hu).1
  have h1 : ts[i]? = some (ts[i]'(by omega)) := List.getElem?_eq_getElem _
  have h2 : ts[i + 1]? = some (ts[i + 1]'(by omega)) := List.getElem?_eq_getElem _
  exact prs_to (h.at_ i _ _ h1 ht).pl.names (h.at_ (i + 1) _ _ h2 hu).pl.names (ok.at_ i _ _ b h1 h2 hb)
theorem okD {P : Program} {w : World} {K : PySem.W.Frag} {mg : Str → Option Value} {base : Heap} {x qual : Str} {params : Arguments} {body : List Stmt} {scope : Scope} {dvs : List V} {kws : List (Str × V)} {f : Addr} {fd : FuncData} {N ps : List Str} {k : Nat} {sp : Sp} (F : FunD K x qual params body scope dvs kws f fd) (S : FnScope N ps scope) (len : ∀ vs H Q E, sp vs H Q E → vs.length = ps.length)
    (hb : ∀ (cdv : Value) (A : Around) (outer : List Env) (s : Shared) (H : Hp) (vs : List V) (Q : VK) (E : XK), Room k (A.deeper (envOfC qual scope s.heap.objs.size f cdv)) → sp vs H Q E →
      ∃ t, PSs (cxOf CX0 P w K mg base N qual scope f cdv A outer s H E).nox body t ∧ t { nx := fun _ H' => Q .non H', rt := Q } (start N vs) H) : FnOk P w K mg base CX0 (k + 1) f fd ps sp :=
  FunD.ok F S len fun cdv A outer s H vs Q E hr h => by
    obtain ⟨t, p, q⟩ := hb cdv A outer s H vs Q E hr h
    exact ⟨t, p.nox, q⟩
theorem sqT_dk {K : PySem.W.Frag} {H : Hp} {d b : Addr} {kvs : List (Key × V)} {u : HO} {xs : List V} (hd : H d = some (.dK kvs)) (h : SqT K H b xs) : SqT K (upd H d u) b xs := by
  rcases h with (h | ⟨o, h⟩) | h
  · exact .inl (.inl ((upd_ne (fun z => by rw [z, hd] at h; cases h)).trans h))
  · exact .inl (.inr ⟨o, (upd_ne (fun z => by rw [z, hd] at h; cases h)).trans h⟩)
  · exact .inr h
theorem dk_ne {H : Hp} {d e : Addr} {rs : PlR} {kv : List (Str × Str)} (h : H d = some (.dK (rs.map prP))) (h2 : TxD H e kv) (lo : 1 ≤ kv.length) : e ≠ d := by
  intro z
  subst z
  have := HO.dK.inj (Option.some.inj (h.symm.trans h2))
  cases kv with
  | nil => exact absurd lo (by simp)
  | cons x xs =>
    cases rs with
    | nil => cases this
    | cons r rs => exact absurd (congrArg Prod.snd (List.cons.inj this).1) (fun z => by cases z)
theorem mv_no {Pa T L S B J : Addr} : (mvF Pa T L S B J).lookup ("_told" : Str) = none := by
  unfold mvF; rw [lk_ne (by decide +kernel), lk_ne (by decide +kernel), lk_ne (by decide +kernel), lk_ne (by decide +kernel), lk_ne (by decide +kernel), lk_ne (by decide +kernel)]; rfl
structure TxRn (K : PySem.W.Frag) (mg : Str → Option Value) (P : Program) (w : World) (base : Heap) (C : Addr) : Prop extends TxM0 K mg C where
  gM : mg "Mover" = some (.ref C)
  new_ : Has P w K mg base "new_names" 2 ["names", "given"] (spNewU K)
  ascS : Has P w K mg base "ascending" 1 ["values"] (spAscS K)
  told : ∃ f fd, Meth K C "_told" f ∧ Binds K fd ["self"] [] ∧ FnOk P w K mg base CX0 1 f fd ["self"] (spMtd K C)
  of_ : ∃ mc p g, ClX.CRead K C mc ∧ ClX.CMet K C mc "of" p g ∧ FnRK P w K mg base CX0 9 g "bonds" (spMoK K C)
def spRen (K : PySem.W.Frag) (C : Addr) : Sp := fun vs H Q _ => ∃ (m : Addr) (vp vt : V) (ps : List Str) (ts : List Tb) (bs : List Prs) (fp ft : Str → Str), vs = [.ref m, vp, vt] ∧ MvAt K C H m ps ts bs ∧ OkParts ps ∧ OkTbs ps ts ∧ OkBs ts bs ∧ NewOf H vp ps fp ∧ NewOf H vt (ts.map Tb.nm) ft ∧
  (∀ us ws cs, TbsTo fp ft ts us → NormTs us ws → NormBs bs cs → 1 ≤ (joins (fst0 ws) cs).length ∧ (joins (fst0 ws) cs).length ≤ 40) ∧
  ∀ H' m' qs us ws cs, Same H H' → H m' = none → AscS (ps.map fp) qs → TbsTo fp ft ts us → NormTs us ws → NormBs bs cs → MvAt K C H' m' qs ws cs → Q (.ref m') H'
section
variable {P : Program} {w : World} {K : PySem.W.Frag} {mg : Str → Option Value} {base : Heap}
theorem scRen : FnScope ["self", "parts", "tables", "part_names", "table_names", "told", "name", "placements", "steps", "places", "new_parts", "place", "part"] ["self", "parts", "tables"] (defScope sRen) := ⟨rfl, rfl, rfl, by decide +kernel, rfl, by decide +kernel, by decide +kernel⟩
theorem ok_ren {C f : Addr} {fd : FuncData} (F : FunD K "renamed" "Mover.renamed" (defArgs sRen) (defBody sRen) (defScope sRen) [] [("parts", .non), ("tables", .non)] f fd) (T : TxRn K mg P w base C) : FnOk P w K mg base CX0 10 f fd ["self", "parts", "tables"] (spRen K C) := by
  obtain ⟨fN, dN, mN, kN, bN, GN⟩ := T.new_
  obtain ⟨fA, dA, mA, kA, bA, GA⟩ := T.ascS
  obtain ⟨fT, dT, MT, bT, GT⟩ := T.told
  obtain ⟨mc, pc, gO, CRd, CMt, GO⟩ := T.of_
  refine okD F scRen (fun vs H Q E h => ?_) (fun cdv A outer s H vs Q E hr h => ?_)
  · obtain ⟨m, vp, vt, ps, ts, bs, fp, ft, rfl, _⟩ := h; rfl
  · obtain ⟨m, vp, vt, ps, ts, bs, fp, ft, rfl, hM, okp, okt, okb, np, nt, hj, k⟩ := h
    have hu := hr.units
    have hu1 := Nat.lt_of_le_of_lt (Nat.add_le_add_left (show 1 ≤ 64 by decide) _) hu
    have r1 := hr.mono (show 1 ≤ 9 by decide)
    have r2 := hr.mono (show 2 ≤ 9 by decide)
    refine ⟨_, (pss_cons (ps_set (i := 3) scRen.nd rfl (Or.inr rfl) (pe_call GN r2 (by rfl) mN kN bN .nil pass0 (pa_cons (pe_fld (pv 0) rfl) (pa_cons (pv 1) pa_nil))))
      (pss_cons (ps_set (i := 4) scRen.nd rfl (Or.inl rfl) (pe_call GN r2 (by rfl) mN kN bN .nil pass0 (pa_cons (pe_fld (pv 0) rfl) (pa_cons (pv 2) pa_nil))))
      (pss_cons (ps_set (i := 5) scRen.nd rfl (Or.inl rfl) (pe_lst pa_nil))
      (pss_cons (ps_for PassesOwn.never rfl (pi_tup (pe_meth0 (E := E0) (pv 0) T.cl MT GT r1 bT .nil pass0)) (pg_tup rfl (pgs_cons (pg_name (i := 6) scRen.nd rfl (.inl rfl)) (pgs_cons (pg_name (i := 7) scRen.nd rfl (.inr rfl)) (pgs_cons (pg_name (i := 8) scRen.nd rfl (.inl rfl)) pgs_nil)))) (pss_cons (ps_lock (ps_setDc (i := 9) (own := [("place", 11)]) (g := gName 11) (tt := tYes) (tk := tVar 11) (tv := (tCall (spAscS K) [] E0 (tCons (tLc (iTup K (tDGet (tVar 7) (tVar 11))) (gName 12) tYes (tDGet (tVar 3) (tVar 12)) [12]) tNil))) rfl scRen.nd rfl rfl (sw_trueD rfl rfl rfl rfl) (pi_keys (pv 7)) (blkOk_by (N := ["self", "parts", "tables", "part_names", "table_names", "told", "name", "placements", "steps", "places", "new_parts", "place", "part"]) (sc := defScope sRen) (by decide +kernel)) (fun _ _ _ _ _ => pg_name (i := 11) scRen.nd rfl (Or.inl rfl)) (fun _ _ _ _ _ => pts_nil) (fun _ _ _ _ _ => pv 11) (fun _ _ _ _ _ => (pe_call GA r1 (by rfl) mA kA bA .nil pass0 (pa_cons (pe_lc (own := [("part", 12)]) (g := gName 12) (tt := tYes) (te := tDGet (tVar 3) (tVar 12)) rfl scRen.nd (pi_tup (pe_dget hu1 (pv 7) (pv 11) (fun _ _ => rfl))) (blkOk_by (N := ["self", "parts", "tables", "part_names", "table_names", "told", "name", "placements", "steps", "places", "new_parts", "place", "part"]) (by rfl)) (fun _ _ _ _ _ => pg_name (i := 12) scRen.nd rfl (Or.inl rfl)) (fun _ _ _ _ _ => pts_nil) (fun _ _ _ _ _ => (pe_dget hu1 (pv 3) (pv 12) (fun _ _ => rfl)))) pa_nil)))))
      (pss_one (ps_expr (pe_bm PySem.F.plainAttrs_list PySem.F.slot_list_append PySem.F.type_list_append mt_append (pv 5) (pa_cons (pe_tup (pa_cons (pe_dget hu1 (pv 4) (pv 6) (fun _ _ => rfl)) (pa_cons (pv 9) (pa_cons (pv 8) pa_nil)))) pa_nil))))))
      (pss_cons (ps_set (i := 10) scRen.nd rfl (Or.inl rfl) (pe_call GA r1 (by rfl) mA kA bA .nil pass0 (pa_cons (pe_lc (own := [("part", 12)]) (g := gName 12) (tt := tYes) (te := tDGet (tVar 3) (tVar 12)) rfl scRen.nd (pi_tup (pe_fld (pv 0) rfl)) (blkOk_by (N := ["self", "parts", "tables", "part_names", "table_names", "told", "name", "placements", "steps", "places", "new_parts", "place", "part"]) (sc := defScope sRen) (by decide +kernel)) (fun _ _ _ _ _ => pg_name (i := 12) scRen.nd rfl (Or.inl rfl)) (fun _ _ _ _ _ => pts_nil) (fun _ _ _ _ _ => (pe_dget hu1 (pv 3) (pv 12) (fun _ _ => rfl)))) pa_nil)))
      (pss_one (ps_ret (pe_cmethK (E := E0) (pe_glob (v := .ref C) (by rfl) T.gM rfl) CRd CMt GO hr pass0 (pa_cons (pv 10) (pa_cons (pe_callTy call_tupOf (by rfl) T.tuple PyProof.Rows.boot_tuple (pa_cons (pv 5) pa_nil)) pa_nil)) (pk_cons (pe_fld (pv 0) rfl) pk_nil))))))))), ?_⟩
    obtain ⟨dx, Pa, T', L, S, B, J, ds, ss, qs, e, hPa, hT, hD, ed, hS, es, hB, eb, hJ⟩ := id hM
    have lo := okt.lo; have hi := okt.hi; have plo := okp.lo; have phi := okp.hi
    rw [nms_v] at hT
    refine ⟨_, rfl, m, C, dx, _, _, rfl, e, T.cl, T.nP, mv_parts, _, rfl, Pa, vp, ps, fp, rfl, hPa, pair_nd okp.up, (by omega), np, fun H1 d1 s1 n1 hd1 => ?_⟩
    refine ⟨_, rfl, m, C, dx, _, _, rfl, s1 _ _ e, T.cl, T.nT, mv_tables, _, rfl, T', vt, ts.map Tb.nm, ft, rfl, sqT_up hT s1, okt.dif, (by rw [List.length_map]; omega), nt.up s1, fun H2 d2 s2 n2 hd2 => ?_⟩
    have s12 := s1.trans s2
    refine ⟨(by show 0 ≤ sizeLine; decide), fun l nl => ?_⟩
    have s3 := same_new (o := HO.lst []) nl
    have e3 : upd H2 l (HO.lst []) l = some (.lst []) := upd_same
    generalize upd H2 l (HO.lst []) = H3 at s3 e3 ⊢
    have sA := s12.trans s3
    have nl0 : H l = none := s12.free nl
    have hd13 := s3 _ _ (s2 _ _ hd1)
    have hd23 := s3 _ _ hd2
    refine ⟨_, rfl, m, dx, _, rfl, sA _ _ e, mv_no, m, ps, ts, bs, rfl, hM.up sA, hi, fun H4 p rs s4 n4 hTs ers => ?_⟩
    have e4 : H4 l = some (.lst []) := s4 _ _ e3
    have hd1 := s4 _ _ hd13
    have hd2 := s4 _ _ hd23
    have lrs : rs.length = ts.length := by have := congrArg List.length ers; simpa using this
    have sB := sA.trans s4
    clear s4 hd13 hd23
    refine ⟨p, rfl, ⟨_, hTs.1⟩, ?_⟩
    refine for_it walk_tup (fun i σ H' => Keep l H4 H' ∧ ∃ (acc : List V) (b6 b7 b8 b9 : Option V), σ = [some (.ref m), some vp, some vt, some (.ref d1), some (.ref d2), some (.ref l), b6, b7, b8, b9, none, none, none] ∧ H' l = some (.lst acc) ∧ AP (α := Tb) (fun a t H' => TbAt K H' a t) (fun j u => ∀ t, ts[j]? = some t → TbTo fp ft t u) i acc H') ⟨fun _ _ _ h => h, [], none, none, none, none, rfl, e4, ap_nil⟩ (fun i σ H' _ z => off_seq e4 z.1 hTs.1) ?_ ?_
    · rintro i x σ Ha Hb hi ⟨kp, acc, b6, b7, b8, b9, rfl, el, hap⟩ ⟨rfl, hx⟩
      rw [List.length_map] at hi
      rw [List.getElem?_map] at hx
      obtain ⟨r, hri, rfl⟩ := Option.map_eq_some_iff.mp hx
      have rm := List.mem_of_getElem? hri
      have hti : ts[i]? = some r.2 := by rw [← ers, List.getElem?_map, hri]; rfl
      have okr := okt.tb r.2 (List.mem_of_getElem? hti)
      obtain ⟨d, q, hq, ⟨pr, hd, hpr, epl⟩, hst⟩ := tb_off e4 kp (hTs.2 r rm)
      have nel : ∀ {b : Addr} {o : HO}, H4 b = some o → (∀ l, o ≠ .lst l) → b ≠ l := fun h n z => by rw [z, e4] at h; cases h; exact n _ rfl
      have h1 := kp d1 _ (nel hd1 fun _ z => by cases z) hd1
      have h2 := kp d2 _ (nel hd2 fun _ z => by cases z) hd2
      have lpr : pr.length = r.2.pl.length := by rw [← epl, List.length_map]
      have plo2 := okr.pl.lo; have phi2 := okr.pl.hi
      have ndp : (pr.map (·.1)).Nodup := by rw [← fst_pl, epl]; exact okr.pl.dif
      have nd1 : d1 ≠ d := dk_ne hd h1 (by rw [List.length_map]; omega)
      refine ⟨r.1, _, rfl, hq, rfl, _, _, rfl, _, _, rfl, _, _, rfl, rfl, ?_⟩
      refine ⟨d, _, hd, trivial, fun od => ?_⟩
      refine ⟨_, rfl, d, od, rfl, .inl ⟨_, upd_same, fun D nD => ?_⟩⟩
      have nDd : D ≠ d := fun z => by rw [z, upd_same] at nD; cases nD
      refine dc_fil walk_keys nD (fun i kvs H' => ∃ es : PlR, kvs = es.map prP ∧ es.length = i ∧ (∀ (j : Nat) e r, es[j]? = some e → pr[j]? = some r → e.1 = r.1 ∧ AscS (r.2.2.map fp) e.2.2) ∧ ∀ e ∈ es, SqT K H' e.2.1 (e.2.2.map V.str)) ⟨[], rfl, rfl, (fun j e r z => by simp at z), fun e z => nomatch z⟩ (fun H' s' => s' _ _ upd_same) ?_ ?_
      · rintro j v kvs H5 H6 hj2 s5 e5 ⟨es, rfl, les, ees, hes⟩ ⟨rfl, kk, vv, hv, rfl⟩
        rw [List.length_map] at hj2
        rw [List.getElem?_map] at hv
        obtain ⟨y, hy, ey⟩ := Option.map_eq_some_iff.mp hv
        cases ey
        have ym := List.mem_of_getElem? hy
        have hyq : SqT K H6 y.2.1 (y.2.2.map V.str) := sqT_up (sqT_lock hd (hpr y ym)) s5
        have oky := okr.pl.parts (y.1, y.2.2) (by rw [← epl]; exact List.mem_map_of_mem (f := fun r : Str × Addr × List Str => (r.1, r.2.2)) ym)
        have h16 : TxD H6 d1 (ps.map fun n => (n, fp n)) := s5 _ _ ((upd_ne nd1).trans h1)
        have tn : y.1 ∉ es.map (·.1) := by
          intro z
          obtain ⟨ex, hex, e1⟩ := List.mem_map.mp z
          obtain ⟨k0, hk0⟩ := List.getElem?_of_mem hex
          have lk0 : k0 < es.length := (List.getElem?_eq_some_iff.mp hk0).1
          have hp0 : pr[k0]? = some (pr[k0]'(by omega)) := List.getElem?_eq_getElem _
          have e2 := (ees k0 _ _ hk0 hp0).1
          have a1 : (pr.map (·.1))[k0]? = some y.1 := by rw [List.getElem?_map, hp0, ← e1, e2]; rfl
          have a2 : (pr.map (·.1))[j]? = some y.1 := by rw [List.getElem?_map, hy]; rfl
          obtain ⟨b1, c1⟩ := List.getElem?_eq_some_iff.mp a1
          obtain ⟨b2, c2⟩ := List.getElem?_eq_some_iff.mp a2
          exact (List.pairwise_iff_getElem.mp (List.nodup_iff_pairwise_ne.mp ndp)) k0 j b1 b2 (by omega) (c1.trans c2.symm)
        refine ⟨rfl, tt_yes ⟨_, rfl, ?_⟩⟩
        refine ⟨_, rfl, _, rfl, d, _, rfl, .inl ⟨_, Sum.inr y.1, .inr ⟨od, s5 _ _ upd_same⟩, rfl, (pl_val (by rw [fst_pl]; exact ndp) hy).symm⟩, y.2.1, rfl, ⟨_, hyq⟩, fun D5 nD5 => ?_⟩
        have off5 : Off D5 (fun i acc (_ : Hp) => acc = ((y.2.2.take i).map fun x => V.str (fp x))) := fun _ _ _ _ _ _ _ z => z
        refine lc_fil walk_tup nD5 (fun i acc _ => acc = ((y.2.2.take i).map fun x => V.str (fp x))) (by simp) (fun H' s' => sqT_up hyq s') ?_ ?_
        · rintro i2 v acc2 H7 H8 hi2 s7 e7 rfl ⟨rfl, hv2⟩
          rw [List.length_map] at hi2
          rw [List.getElem?_map] at hv2
          obtain ⟨x, hx2, rfl⟩ := Option.map_eq_some_iff.mp hv2
          have xp := oky.of x (List.mem_of_getElem? hx2)
          have few2 := oky.len
          have fewy : y.2.2.length ≤ 64 := few2
          refine ⟨rfl, tt_yes ⟨_, rfl, _, rfl, d1, _, rfl, .inl ⟨_, Sum.inr x, .inl (s7 _ _ h16), rfl, (tx_val (y := fp x) (by rw [List.map_map]; exact (List.map_id ps).symm ▸ pair_nd okp.up) (List.mem_map_of_mem (f := fun n => (n, fp n)) xp)).symm⟩, ?_⟩⟩
          refine put_of nD5 off5 s7 e7 (Same.refl _) (by rw [List.length_map, List.length_take, sizeLine_eq]; omega) ?_
          rw [List.take_add_one, hx2, List.map_append]; rfl
        rintro acc2 H7 s7 e7 rfl
        rw [List.length_map, List.take_length] at e7
        have fewy : y.2.2.length ≤ 64 := oky.len
        refine ⟨D5, y.2.2.map fp, rfl, SqL.of (by rw [e7, List.map_map]; rfl), by have := nd_len (pair_nd oky.up) oky.of; rw [List.length_map]; exact Nat.lt_of_le_of_lt this (by omega), fun H9 p9 ts9 s9 n9 hA9 le9 eP9 => ?_⟩
        have s79 := s7.trans s9
        refine putD_of (k := Sum.inr y.1) (kvs := es.map prP) nD s5 e5 s79 (by rw [List.length_map, sizeLine_eq]; omega) ⟨es ++ [(y.1, p9, ts9)], put_pl (r := (y.1, p9, ts9)) tn, by rw [List.length_append, les]; rfl, fun j0 e0 r0 he0 hr0 => ?_, fun e0 he0 => ?_⟩
        · by_cases hj0 : j0 < j
          · rw [List.getElem?_append_left (by omega)] at he0; exact ees j0 e0 r0 he0 hr0
          · rw [List.getElem?_append_right (by omega)] at he0
            have e00 : j0 - es.length = 0 := by
              cases q0 : j0 - es.length with
              | zero => rfl
              | succ n => rw [q0] at he0; simp at he0
            obtain rfl : j0 = j := by omega
            rw [e00] at he0
            cases he0
            rw [hy] at hr0; cases hr0
            exact ⟨rfl, hA9⟩
        · refine sqT_dk (s79 _ _ e5) ?_
          rcases List.mem_append.mp he0 with z | z
          · exact sqT_up (hes e0 z) s79
          · rw [List.mem_singleton.mp z]; exact SqT.of eP9
      rintro kvs H5 s5 e5 ⟨es, rfl, les, ees, hes⟩
      rw [List.length_map] at les
      refine ⟨s5 _ _ upd_same, ?_⟩
      have su := lock_same hd s5
      have eD : upd H5 d (.dK (pr.map prP)) D = some (.dK (es.map prP)) := (upd_ne nDd).trans e5
      have hes2 : ∀ e ∈ es, SqT K (upd H5 d (.dK (pr.map prP))) e.2.1 (e.2.2.map V.str) := fun e he => sqT_free (s5 _ _ upd_same) (hes e he)
      generalize upd H5 d (.dK (pr.map prP)) = H6 at su eD hes2 ⊢
      clear s5 e5 hes
      have pl2 : PlTo fp r.2.pl (plOf es) := by
        refine ⟨by rw [List.length_map, les, lpr], fun j x y hx2 hy2 => ?_⟩
        rw [← epl, List.getElem?_map] at hx2
        obtain ⟨x0, hx0, rfl⟩ := Option.map_eq_some_iff.mp hx2
        rw [List.getElem?_map] at hy2
        obtain ⟨y0, hy0, rfl⟩ := Option.map_eq_some_iff.mp hy2
        exact ees j y0 x0 hy0 hx0
      have h26 := su _ _ h2
      have el6 := su _ _ el
      refine ⟨_, rfl, .inl ⟨rfl, _, SqL.of el6⟩, _, rfl, _, rfl, d2, _, rfl, .inl ⟨_, Sum.inr r.2.nm, .inl h26, rfl, (tx_val (y := ft r.2.nm) (by rw [List.map_map]; exact (List.map_id (ts.map Tb.nm)).symm ▸ okt.dif) (List.mem_map_of_mem (f := fun n => (n, ft n)) (List.mem_map_of_mem (List.mem_of_getElem? hti)))).symm⟩, _, rfl, _, rfl, (by show 3 ≤ sizeLine; decide), fun a na => ?_⟩
      have sa := same_new (o := HO.tup [V.str (ft r.2.nm), V.ref D, V.ref q]) na
      have ea : upd H6 a (HO.tup [V.str (ft r.2.nm), V.ref D, V.ref q]) a = some (.tup [V.str (ft r.2.nm), V.ref D, V.ref q]) := upd_same
      generalize upd H6 a (HO.tup [V.str (ft r.2.nm), V.ref D, V.ref q]) = H7 at sa ea ⊢
      have s67 := su.trans sa
      have lacc : acc.length < sizeLine := by
        obtain ⟨ds0, e0, l0, _⟩ := hap
        rw [e0, List.length_map, l0, sizeLine_eq]; omega
      refine ⟨l, acc, .ref a, rfl, rfl, s67 _ _ el, lacc, (kp.trans (same_keep s67)).trans keep_upd, _, _, _, _, _, rfl, upd_same, ?_⟩
      refine ap_app (v := (⟨ft r.2.nm, plOf es, r.2.st⟩ : Tb)) (fun a v l H H' e k h => tb_off e k h) (fun a v H H' s h => h.up s) el s67 hap (by omega) ⟨D, q, SqT.of ea, ⟨es, sa _ _ eD, fun r hr => sqT_up (hes2 r hr) sa, rfl⟩, hst.up s67⟩ fun t ht => ?_
      rw [hti] at ht
      cases ht
      exact ⟨rfl, pl2, rfl⟩
    rintro σ Hc ⟨kp, acc, b6, b7, b8, b9, rfl, el, ⟨us, rfl, lus, hus, ous⟩⟩
    rw [List.length_map] at lus
    have nel : ∀ {b : Addr} {o : HO}, H4 b = some o → (∀ l, o ≠ .lst l) → b ≠ l := fun h n z => by rw [z, e4] at h; cases h; exact n _ rfl
    have emc := kp m _ (nel (sB _ _ e) fun _ z => by cases z) (sB _ _ e)
    have h1 := kp d1 _ (nel hd1 fun _ z => by cases z) hd1
    have hPac := off_seq e4 kp (sqT_up hPa sB)
    have hBc : BsAt K Hc B qs := ⟨off_seq e4 kp (sqT_up hB.1 sB), fun b hb => pairs_off e4 kp ((hB.2 b hb).up sB)⟩
    have sc : Same H Hc := fun b o h => kp b o (fun z => by rw [z, nl0] at h; cases h) (sB _ _ h)
    refine ⟨_, rfl, m, C, dx, _, _, rfl, emc, T.cl, T.nP, mv_parts, Pa, rfl, ⟨_, hPac⟩, fun D nD => ?_⟩
    refine lc_fil walk_tup nD (fun i acc _ => acc = ((ps.take i).map fun x => V.str (fp x))) (by simp) (fun H' s' => sqT_up hPac s') ?_ ?_
    · rintro i2 v acc2 H7 H8 hi2 s7 e7 rfl ⟨rfl, hv2⟩
      rw [List.length_map] at hi2
      rw [List.getElem?_map] at hv2
      obtain ⟨x, hx2, rfl⟩ := Option.map_eq_some_iff.mp hv2
      refine ⟨rfl, tt_yes ⟨_, rfl, _, rfl, d1, _, rfl, .inl ⟨_, Sum.inr x, .inl (s7 _ _ h1), rfl, (tx_val (y := fp x) (by rw [List.map_map]; exact (List.map_id ps).symm ▸ pair_nd okp.up) (List.mem_map_of_mem (f := fun n => (n, fp n)) (List.mem_of_getElem? hx2))).symm⟩, ?_⟩⟩
      refine put_of nD (fun _ _ _ _ _ _ _ z => z) s7 e7 (Same.refl _) (by rw [List.length_map, List.length_take, sizeLine_eq]; omega) ?_
      rw [List.take_add_one, hx2, List.map_append]; rfl
    rintro acc2 H5 s5 e5 rfl
    rw [List.length_map, List.take_length] at e5
    refine ⟨D, ps.map fp, rfl, SqL.of (by rw [e5, List.map_map]; rfl), by rw [List.length_map]; omega, fun H6 pn qn s6 nn hA _ ePn => ?_⟩
    have s56 := s5.trans s6
    refine ⟨rfl, _, rfl, _, rfl, l, _, rfl, SqL.of (s56 _ _ el), fun p2 np2 => ?_⟩
    have s7 := same_new (o := HO.tup (us.map fun d => V.ref d.1)) np2
    have e7 : upd H6 p2 (HO.tup (us.map fun d => V.ref d.1)) p2 = some (.tup (us.map fun d => V.ref d.1)) := upd_same
    generalize upd H6 p2 (HO.tup (us.map fun d => V.ref d.1)) = H7 at s7 e7 ⊢
    have s57 := s56.trans s7
    refine ⟨_, rfl, m, C, dx, _, _, rfl, s57 _ _ emc, T.cl, T.nB, mv_bonds, _, rfl, _, _, _, rfl, ?_⟩
    have hto : TbsTo fp ft ts (us.map Prod.snd) := ⟨by rw [List.length_map, lus, lrs], fun i t u ht hu => by
      rw [List.getElem?_map] at hu
      obtain ⟨u0, hu0, rfl⟩ := Option.map_eq_some_iff.mp hu
      exact ous i u0 hu0 t ht⟩
    refine ⟨pn, p2, .ref B, qn, us, bs, rfl, sqT_up (SqT.of ePn) s7, parts_to np okp hA, ⟨SqT.of e7, fun r hr => (hus r hr).up s57⟩, tbs_to hA nt okt hto, .inr ⟨B, qs, rfl, hBc.up s57, eb, bs_to okb hto⟩, fun ws cs n1 n2 => hj _ ws cs hto n1 n2, fun H' m' ws cs s' nm n1 n2 hM => ?_⟩
    have sz := sc.trans s57
    exact k H' m' qn _ ws cs (sz.trans s') (sz.free nm) hA hto n1 n2 hM
end
end Rd

/-! Movers of tables with two placements and all bonds: how many joint placements they have; what a mover keeps is in order -/
namespace Rd
open PySem PySem.Spec PyProof.Rows L2 Tq Dn Dc Mk2
def two : List Str := ["new", "old"]
def F4 : Prs := [("new", "new"), ("new", "old"), ("old", "new"), ("old", "old")]
structure Two (ts : List Tb) (bs : List Prs) : Prop where
  lo : 1 ≤ ts.length
  hi : ts.length ≤ 3
  pl : ∀ t ∈ ts, (t.pl.map Prod.fst).Perm two
  len : bs.length + 1 = ts.length
  bs : ∀ b ∈ bs, AscP b F4
theorem two_sorted : two.Pairwise fun x y => sg1 x < sg1 y := by decide +kernel
theorem perm_two {l : List Str} (p : l.Perm two) (up : l.Pairwise fun x y => sg1 x < sg1 y) : l = two := ascS_one up two_sorted fun k => p.mem_iff
theorem ascP_one {a b c : Prs} (h1 : AscP a b) (h2 : AscP a c) : b = c := by
  have e : prL b = prL c := asc_one (Asc.up h1) (Asc.up h2) fun k => (Asc.mem h1 k).trans (Asc.mem h2 k).symm
  have inj : ∀ {x y : Prs}, prL x = prL y → x = y := by
    intro x
    induction x with
    | nil => intro y h; cases y with
      | nil => rfl
      | cons a l => cases h
    | cons p x ih => intro y h; cases y with
      | nil => cases h
      | cons q y =>
        have h1 := (List.cons.inj h).1
        have h2 := ih (List.cons.inj h).2
        have e1 := (List.cons.inj h1).1
        have e2 := (List.cons.inj (List.cons.inj h1).2).1
        rw [h2, show p = q from Prod.ext e1 e2]
  exact inj e
theorem F4_up : (prL F4).Pairwise fun x y => tlt x y = true := by decide +kernel
theorem F4_self : AscP F4 F4 := ⟨F4_up, fun _ => Iff.rfl⟩
theorem NormTs.nms {ts us : List Tb} (h : NormTs ts us) : us.map Tb.nm = ts.map Tb.nm := by
  refine List.ext_getElem? fun i => ?_
  have len := h.len
  by_cases l : i < ts.length
  · have h1 : ts[i]? = some ts[i] := List.getElem?_eq_getElem l
    have h2 : us[i]? = some (us[i]'(by omega)) := List.getElem?_eq_getElem _
    rw [List.getElem?_map, List.getElem?_map, h1, h2]
    exact congrArg some (h.at_ i _ _ h1 h2).nm
  · rw [List.getElem?_eq_none (by rw [List.length_map]; omega), List.getElem?_eq_none (by rw [List.length_map]; omega)]
theorem norm_tb {ps : List Str} {t u : Tb} (ok : OkTb ps t) (h : NormTb t u) : OkTb ps u := by
  have pm := h.pl
  have pf : (u.pl.map Prod.fst).Perm (t.pl.map Prod.fst) := pm.map _
  refine ⟨by rw [h.nm]; exact ok.nm, ⟨by rw [pm.length_eq]; exact ok.pl.lo, by rw [pm.length_eq]; exact ok.pl.hi, fun p hp => ok.pl.nm p (pm.mem_iff.mp hp), pf.nodup_iff.mpr ok.pl.dif, fun p hp => ok.pl.parts p (pm.mem_iff.mp hp)⟩, ⟨?_, fun p hp => pf.mem_iff.mpr (ok.st.one p ((h.st.mem p).mp hp)), fun p hp => pf.mem_iff.mpr (ok.st.two p ((h.st.mem p).mp hp))⟩, fun p hp => ok.dif p ((h.st.mem p).mp hp)⟩
  exact Nat.lt_of_le_of_lt h.st.len ok.st.len
theorem norm_ok {ps : List Str} {ts us : List Tb} (ok : OkTbs ps ts) (h : NormTs ts us) : OkTbs ps us := by
  have len := h.len
  refine ⟨by rw [len]; exact ok.lo, by rw [len]; exact ok.hi, fun u hu => ?_, by rw [h.nms]; exact ok.dif⟩
  obtain ⟨i, hi⟩ := List.getElem?_of_mem hu
  have l : i < us.length := (List.getElem?_eq_some_iff.mp hi).1
  have h1 : ts[i]? = some (ts[i]'(by omega)) := List.getElem?_eq_getElem _
  exact norm_tb (ok.tb _ (List.mem_of_getElem? h1)) (h.at_ i _ _ h1 hi)
theorem norm_bs {ts us : List Tb} {bs cs : List Prs} (ok : OkBs ts bs) (h : NormTs ts us) (hb : NormBs bs cs) : OkBs us cs := by
  have len := h.len
  have lb := hb.len
  have lk := ok.len
  refine ⟨by omega, fun i t u c ht hu hc => ?_⟩
  have l1 : i < us.length := (List.getElem?_eq_some_iff.mp ht).1
  have l2 : i + 1 < us.length := (List.getElem?_eq_some_iff.mp hu).1
  have l3 : i < cs.length := (List.getElem?_eq_some_iff.mp hc).1
  have h1 : ts[i]? = some (ts[i]'(by omega)) := List.getElem?_eq_getElem _
  have h2 : ts[i + 1]? = some (ts[i + 1]'(by omega)) := List.getElem?_eq_getElem _
  have h3 : bs[i]? = some (bs[i]'(by omega)) := List.getElem?_eq_getElem _
  have o := ok.at_ i _ _ _ h1 h2 h3
  have a := hb.at_ i _ _ h3 hc
  have p1 := (h.at_ i _ _ h1 ht).pl.map Prod.fst
  have p2 := (h.at_ (i + 1) _ _ h2 hu).pl.map Prod.fst
  exact ⟨Nat.lt_of_le_of_lt a.len o.len, fun p hp => p1.mem_iff.mpr (o.one p ((a.mem p).mp hp)), fun p hp => p2.mem_iff.mpr (o.two p ((a.mem p).mp hp))⟩
theorem two_norm {ts us : List Tb} {bs cs : List Prs} (h : Two ts bs) (n : NormTs ts us) (nb : NormBs bs cs) : Two us cs ∧ (∀ u ∈ us, u.pl.map Prod.fst = two) ∧ cs = List.replicate (ts.length - 1) F4 := by
  have len := n.len
  have lb := nb.len
  have lk := h.len
  have hp : ∀ u ∈ us, (u.pl.map Prod.fst).Perm two ∧ u.pl.map Prod.fst = two := fun u hu => by
    obtain ⟨i, hi⟩ := List.getElem?_of_mem hu
    have l : i < us.length := (List.getElem?_eq_some_iff.mp hi).1
    have h1 : ts[i]? = some (ts[i]'(by omega)) := List.getElem?_eq_getElem _
    have z := n.at_ i _ _ h1 hi
    have pm := (z.pl.map Prod.fst).trans (h.pl _ (List.mem_of_getElem? h1))
    exact ⟨pm, perm_two pm z.up⟩
  have hc : ∀ c ∈ cs, c = F4 := fun c hc => by
    obtain ⟨i, hi⟩ := List.getElem?_of_mem hc
    have l : i < cs.length := (List.getElem?_eq_some_iff.mp hi).1
    have h1 : bs[i]? = some (bs[i]'(by omega)) := List.getElem?_eq_getElem _
    exact ascP_one (nb.at_ i _ _ h1 hi) (h.bs _ (List.mem_of_getElem? h1))
  refine ⟨⟨by rw [len]; exact h.lo, by rw [len]; exact h.hi, fun u hu => (hp u hu).1, by omega, fun c hc2 => by rw [hc c hc2]; exact F4_self⟩, fun u hu => (hp u hu).2, ?_⟩
  exact List.eq_replicate_iff.mpr ⟨by omega, hc⟩
theorem joins_two : ∀ n, n < 3 → 1 ≤ (joins two (List.replicate n F4)).length ∧ (joins two (List.replicate n F4)).length ≤ 40 := by decide +kernel
theorem two_joins {ts us : List Tb} {bs cs : List Prs} (h : Two ts bs) (n : NormTs ts us) (nb : NormBs bs cs) : 1 ≤ (joins (fst0 us) cs).length ∧ (joins (fst0 us) cs).length ≤ 40 := by
  obtain ⟨h2, hp, rfl⟩ := two_norm h n nb
  have e : fst0 us = two := by
    have lo := h2.lo
    cases us with
    | nil => exact absurd lo (by simp)
    | cons u us => exact hp u List.mem_cons_self
  rw [e]
  have hi := h.hi
  exact joins_two _ (by omega)
theorem two_to {fp ft : Str → Str} {ts us : List Tb} {bs : List Prs} (h : Two ts bs) (z : TbsTo fp ft ts us) : Two us bs := by
  have len := z.len
  refine ⟨by rw [len]; exact h.lo, by rw [len]; exact h.hi, fun u hu => ?_, by rw [len]; exact h.len, h.bs⟩
  obtain ⟨i, hi⟩ := List.getElem?_of_mem hu
  have l : i < us.length := (List.getElem?_eq_some_iff.mp hi).1
  have h1 : ts[i]? = some (ts[i]'(by omega)) := List.getElem?_eq_getElem _
  rw [(z.at_ i _ _ h1 hi).pl.names]
  exact h.pl _ (List.mem_of_getElem? h1)
/-- two names in some order, paired with two in some order -/
theorem full_two {ts : List Tb} {bs : List Prs} (lo : 1 ≤ ts.length) (hi : ts.length ≤ 3) (pl : ∀ t ∈ ts, (t.pl.map Prod.fst).Perm two) (h : FullBs ts bs) : Two ts bs := by
  have len := h.len
  refine ⟨lo, hi, pl, len, fun b hb => ?_⟩
  obtain ⟨i, hi2⟩ := List.getElem?_of_mem hb
  have l : i < bs.length := (List.getElem?_eq_some_iff.mp hi2).1
  have h1 : ts[i]? = some (ts[i]'(by omega)) := List.getElem?_eq_getElem _
  have h2 : ts[i + 1]? = some (ts[i + 1]'(by omega)) := List.getElem?_eq_getElem _
  have e := h.at_ i _ _ h1 h2
  rw [hi2] at e
  cases e
  have p1 := pl _ (List.mem_of_getElem? h1)
  have p2 := pl _ (List.mem_of_getElem? h2)
  refine ⟨F4_up, fun k => ?_⟩
  have m4 : ∀ k, k ∈ prL F4 ↔ ∃ a ∈ two, ∃ b ∈ two, k = [a, b] := by
    intro k
    constructor
    · intro z
      obtain ⟨p, hp, rfl⟩ := List.mem_map.mp z
      exact ⟨p.1, (show ∀ p ∈ F4, p.1 ∈ two by decide +kernel) p hp, p.2, (show ∀ p ∈ F4, p.2 ∈ two by decide +kernel) p hp, rfl⟩
    · rintro ⟨a, ha, b, hb, rfl⟩
      exact List.mem_map.mpr ⟨(a, b), (show ∀ a ∈ two, ∀ b ∈ two, (a, b) ∈ F4 by decide +kernel) a ha b hb, rfl⟩
  rw [m4]
  constructor
  · rintro ⟨a, ha, b, hb, rfl⟩
    refine List.mem_map.mpr ⟨(a, b), ?_, rfl⟩
    simp only [fullP, fullN]
    exact List.mem_flatMap.mpr ⟨a, p1.mem_iff.mpr ha, List.mem_map.mpr ⟨b, p2.mem_iff.mpr hb, rfl⟩⟩
  · intro z
    obtain ⟨p, hp, rfl⟩ := List.mem_map.mp z
    simp only [fullP, fullN] at hp
    obtain ⟨a, ha, hab⟩ := List.mem_flatMap.mp hp
    obtain ⟨c, hcc, rfl⟩ := List.mem_map.mp hab
    exact ⟨a, p1.mem_iff.mp ha, c, p2.mem_iff.mp hcc, rfl⟩
end Rd

/-! What the law draws: a line of some words and parts -/
namespace Rd
open PySem PySem.Spec PyProof.Rows L2 Tq Dn Dc Mk2
abbrev sMv : Stmt := top 51
abbrev sLn : Stmt := top 52
abbrev sRi : Stmt := top 53
abbrev sSp : Stmt := top 54
abbrev sRt : Stmt := top 55
abbrev sLw : Stmt := top 56
/-- tuples put together, empty or not -/
def rCatU (K : PySem.W.Frag) : R2 := fun x y H Q => ∃ a b xs ys, x = .ref a ∧ y = .ref b ∧ SqT K H a xs ∧ SqT K H b ys ∧ xs.length + ys.length ≤ sizeLine ∧ ∀ q H', Same H H' → SqT K H' q (xs ++ ys) → Q (.ref q) H'
theorem op_catU {X : Cx} : OpR X (binaryOp .Add) (rCatU X.K) := fun pins s σ H x y v u Q I rx ry ⟨a, b, xs, ys, e1, e2, ha, hb, hz, k⟩ =>
  op_catA pins s σ H x y v u Q I rx ry ⟨a, b, xs, ys, e1, e2, ha, hb, hz, fun e => k b H (Same.refl H) (by rw [e]; exact hb), fun _ e => k a H (Same.refl H) (by rw [e, List.append_nil]; exact ha), fun _ _ p np => k p _ (same_new np) (SqT.of upd_same)⟩
/-- a part of a tuple, or all of it -/
def rSlU (K : PySem.W.Frag) : V → Option Int → Option Int → Hp → VK → Prop := fun x lo hi H Q => ∃ a xs, x = .ref a ∧ SqT K H a xs ∧ ∀ q H', Same H H' → SqT K H' q (cutV xs lo hi) → Q (.ref q) H'
theorem sl_tupU {X : Cx} : SlR X (rSlU X.K) := fun pins s σ H x v vl vu lo hi sl Q I rx hs pl pu ⟨a, xs, e, ha, k⟩ =>
  sl_tupA pins s σ H x v vl vu lo hi sl Q I rx hs pl pu ⟨a, xs, e, ha, fun ⟨h1, h2⟩ => k a H (Same.refl H) (by
    unfold cutV
    rw [h1, h2, List.drop_zero, Nat.sub_zero, List.take_length]; exact ha), fun _ p np => k p _ (same_new np) (SqT.of upd_same)⟩
theorem cut_to {xs : List V} {n : Nat} (h : n ≤ xs.length) : cutV xs none (some (n : Int)) = xs.take n := by
  unfold cutV
  rw [HT.sIx_none, HT.sIx_nat, List.drop_zero, Nat.sub_zero, Nat.min_eq_left h]
theorem cut_from {xs : List V} {n : Nat} (h : n ≤ xs.length) : cutV xs (some (n : Int)) none = xs.drop n := by
  unfold cutV
  rw [HT.sIx_none, HT.sIx_nat, Nat.min_eq_left h]
  exact List.take_of_length_le (by rw [List.length_drop]; exact Nat.le_refl _)
theorem sub_len {α : Type} [DecidableEq α] : ∀ {xs ys : List α}, xs.Nodup → (∀ x ∈ xs, x ∈ ys) → xs.length ≤ ys.length
  | [], _, _, _ => Nat.zero_le _
  | x :: xs, ys, nd, h => by
    obtain ⟨n1, n2⟩ := List.nodup_cons.mp nd
    have hx := h x List.mem_cons_self
    have ih := sub_len (xs := xs) (ys := ys.erase x) n2 fun z hz => by
      have hz2 := h z (.tail _ hz)
      exact (List.mem_erase_of_ne (fun e => n1 (by rw [← e]; exact hz))).mpr hz2
    rw [List.length_erase_of_mem hx] at ih
    have : 0 < ys.length := List.length_pos_of_mem hx
    rw [List.length_cons]; omega
theorem pick_s {xs : List Str} {i : Nat} {x : V} (h : (xs.map V.str)[i]? = some x) : ∃ s ∈ xs, x = .str s := by
  rw [List.getElem?_map] at h
  obtain ⟨s, hs, rfl⟩ := Option.map_eq_some_iff.mp h
  exact ⟨s, List.mem_of_getElem? hs, rfl⟩
theorem keep_free {p q : Addr} {H H' : Hp} (k : Keep p H H') (hD : DiceAt H' p) (n : H' q = none) : H q = none := by
  obtain ⟨a, b, c, hp, _⟩ := hD
  cases e : H q with
  | none => rfl
  | some o =>
    have hq : q ≠ p := fun z => by rw [z, hp] at n; cases n
    rw [k q o hq e] at n; cases n
/-- what is new stands apart from the dice -/
theorem dice_ne {p q : Addr} {H : Hp} (hD : DiceAt H p) (n : H q = none) : q ≠ p := fun e => by
  obtain ⟨a, b, c, hp, _⟩ := hD
  rw [e, hp] at n; cases n
theorem dice_upd {p q : Addr} {H : Hp} {o : HO} (hD : DiceAt H p) (n : q ≠ p) : DiceAt (upd H q o) p := by
  obtain ⟨a, b, c, hp, h⟩ := hD
  exact ⟨a, b, c, by rw [upd_ne (Ne.symm n)]; exact hp, h⟩
def T3 : List Str := ["item", "order", "buyer"]
def A3 : List Str := ["arch", "live", "warm"]
/-- a drawn line -/
def Ln.of (ws ps : List Str) (m : Nat) : Ln → Prop
  | .go n => n ≤ m
  | .ift t p n => t ∈ ws ∧ p ∈ ps ∧ n ≤ m
  | .look t p => t ∈ ws ∧ p ∈ ps ∧ t ≠ ws.headD Str.empty
  | .read t p => t ∈ ws ∧ p ∈ ps
structure TxE2 (K : PySem.W.Frag) (mg : Str → Option Value) (P : Program) (w : World) (base : Heap) : Prop extends TxM K mg where
  roll : Has P w K mg base "_law_roll" 1 ["_law_dice_here", "_law_total"] spRoll
  one : Has P w K mg base "_law_one_of" 2 ["_law_dice_here", "_law_items"] spOne
def spLn (K : PySem.W.Frag) : Sp := fun vs H Q _ => ∃ (p W Pa : Addr) (m : Nat) (ws ps : List Str), vs = [.ref p, .ref W, .ref Pa, .int (m : Int)] ∧ DiceAt H p ∧ H W = some (.lst (ws.map V.str)) ∧ W ≠ p ∧ SqT K H Pa (ps.map V.str) ∧ 1 ≤ ws.length ∧ ws.length ≤ 3 ∧ 1 ≤ ps.length ∧ ps.length ≤ 4 ∧ m ≤ 16 ∧
  ∀ a l H', Keep p H H' → DiceAt H' p → H a = none → H' a = some (.tup l.vs) → Ln.of ws ps m l → Q (.ref a) H'
section
variable {P : Program} {w : World} {K : PySem.W.Frag} {mg : Str → Option Value} {base : Heap}
theorem scLn : FnScope ["_law_dice_here", "_law_words", "_law_parts", "_law_size", "_law_way", "_law_table", "_law_part"] ["_law_dice_here", "_law_words", "_law_parts", "_law_size"] (defScope sLn) := ⟨rfl, rfl, rfl, by decide +kernel, rfl, by decide +kernel, by decide +kernel⟩
theorem ok_ln {f : Addr} {fd : FuncData} (F : Fun K "_law_line" "_law_line" sLn f fd) (T : TxE2 K mg P w base) : FnOk P w K mg base CX0 3 f fd ["_law_dice_here", "_law_words", "_law_parts", "_law_size"] (spLn K) := by
  obtain ⟨fR, fdR, mR, kR, bR, GR⟩ := T.roll
  obtain ⟨fO, fdO, mO, kO, bO, GO⟩ := T.one
  refine F.ok scLn (fun vs H Q E h => ?_) (fun cdv A outer s H vs Q E hr h => ?_)
  · obtain ⟨p, W, Pa, m, ws, ps, rfl, _⟩ := h; rfl
  · obtain ⟨p, W, Pa, m, ws, ps, rfl, hD, hW, neW, hPa, w1, w3, p1, p4, hm, k⟩ := h
    have hr1 : Room 1 _ := hr.mono (by decide)
    refine ⟨_, (pss_cons (ps_par3 (i := 4) (j := 5) (l := 6) rfl scLn.nd rfl rfl rfl (by decide) (by decide) (by decide) rfl rfl rfl (pa_cons (pe_call GR hr1 (by rfl) mR kR bR .nil pass0 (pa_cons (pv 0) (pa_cons pe_int pa_nil))) (pa_cons (pe_call GO hr (by rfl) mO kO bO .nil pass0 (pa_cons (pv 0) (pa_cons (pv 1) pa_nil))) (pa_cons (pe_call GO hr (by rfl) mO kO bO .nil pass0 (pa_cons (pv 0) (pa_cons (pe_callTy call_list_of (by rfl) T.list (by decide +kernel) (pa_cons (pv 2) pa_nil)) pa_nil))) pa_nil))) (by rfl))
      (pss_cons (ps_if (pt_cmpR op_eq (pv 4) pe_int (nomark _)) (pss_one (ps_ret (pe_tup (pa_cons pe_str (pa_cons (pe_call GR hr1 (by rfl) mR kR bR .nil pass0 (pa_cons (pv 0) (pa_cons (pe_op op_add (pv 3) pe_int) pa_nil))) pa_nil))))) pss_nil)
      (pss_cons (ps_if (pt_cmpR op_eq (pv 4) pe_int (nomark _)) (pss_one (ps_ret (pe_tup (pa_cons pe_str (pa_cons (pv 5) (pa_cons (pv 6) (pa_cons (pe_call GR hr1 (by rfl) mR kR bR .nil pass0 (pa_cons (pv 0) (pa_cons (pe_op op_add (pv 3) pe_int) pa_nil))) pa_nil))))))) pss_nil)
      (pss_one (ps_ret (pe_ifExp (PW.pt (pw_and (pt_cmpR op_lt (pv 4) pe_int (nomark _)) (pw_and1 (pt_cmpR op_ne (pv 5) (pe_ix ix_list (pv 1) pe_int (fun _ _ => rfl)) (nomark _))))) (pe_tup (pa_cons pe_str (pa_cons (pv 5) (pa_cons (pv 6) pa_nil)))) (pe_tup (pa_cons pe_str (pa_cons (pv 5) (pa_cons (pv 6) pa_nil)))))))))), ?_⟩
    obtain ⟨a, b, c, hp, ha⟩ := id hD
    refine ⟨_, rfl, p, 8, a, b, c, rfl, hp, ha, by decide, by decide, fun r x1 y1 z1 h1 h2 h3 => ?_⟩
    have k1 : Keep p H (upd H p (.lst [.int x1, .int y1, .int z1])) := keep_upd
    have d1 : DiceAt (upd H p (.lst [.int x1, .int y1, .int z1])) p := .upd h3
    generalize upd H p (HO.lst [V.int x1, V.int y1, V.int z1]) = H1 at k1 d1 ⊢
    refine ⟨_, rfl, _, rfl, p, W, _, rfl, d1, k1 _ _ neW hW, neW, by rw [List.length_map]; omega, by rw [List.length_map]; omega, fun i1 v1 a1 b1 c1 hv1 ha1 => ?_⟩
    obtain ⟨t, ht, rfl⟩ := pick_s hv1
    have k2 : Keep p H (upd H1 p (.lst [.int a1, .int b1, .int c1])) := k1.trans keep_upd
    have d2 : DiceAt (upd H1 p (.lst [.int a1, .int b1, .int c1])) p := .upd ha1
    generalize upd H1 p (HO.lst [V.int a1, V.int b1, V.int c1]) = H2 at k2 d2 ⊢
    refine ⟨_, rfl, _, rfl, Pa, _, rfl, .inr (off_seq hp k2 hPa), fun l2 n2 => ?_⟩
    have e2 := dice_ne d2 n2
    refine ⟨p, l2, _, rfl, dice_upd d2 e2, upd_same, e2, by rw [List.length_map]; omega, by rw [List.length_map]; omega, fun i2 v2 a2 b2 c2 hv2 ha2 => ?_⟩
    obtain ⟨q, hq, rfl⟩ := pick_s hv2
    have k3 : Keep p H (upd (upd H2 l2 (.lst (ps.map V.str))) p (.lst [.int a2, .int b2, .int c2])) := (k2.trans (keep_new n2)).trans keep_upd
    have d3 : DiceAt (upd (upd H2 l2 (.lst (ps.map V.str))) p (.lst [.int a2, .int b2, .int c2])) p := .upd ha2
    generalize upd (upd H2 l2 (HO.lst (ps.map V.str))) p (HO.lst [V.int a2, V.int b2, V.int c2]) = H3 at k3 d3 ⊢
    obtain ⟨a3, b3, c3, hp3, ha3⟩ := id d3
    have fin : ∀ (l : Ln) (H4 : Hp), Keep p H H4 → DiceAt H4 p → l.of ws ps m → ∀ u, H4 u = none → Q (.ref u) (upd H4 u (.tup l.vs)) := fun l H4 k4 d4 dr u nu =>
      k u l _ (k4.trans (keep_new nu)) (dice_upd d4 (dice_ne d4 nu)) (keep_free k4 d4 nu) upd_same dr
    refine ⟨_, _, _, rfl, ?_⟩
    refine ⟨_, rfl, rfl, _, rfl, ite2 (fun c0 => ?_) (fun c0 => ?_)⟩
    · refine ⟨_, rfl, _, rfl, _, _, rfl, rfl, p, _, a3, b3, c3, rfl, hp3, ha3, by omega, by omega, fun n x y z g1 g2 g3 => ?_⟩
      refine ⟨(by show 2 ≤ sizeLine; decide), fun u nu => ?_⟩
      have := fin (.go n.toNat) _ (k3.trans keep_upd) (.upd g3) (by show n.toNat ≤ m; omega) u nu
      rw [show ((Ln.go n.toNat).vs) = [.str "go", .int n] by show [V.str "go", V.int (n.toNat : Int)] = _; rw [Int.toNat_of_nonneg g1]] at this
      exact this
    refine ⟨_, rfl, rfl, _, rfl, ite2 (fun c1' => ?_) (fun c1' => ?_)⟩
    · refine ⟨_, rfl, _, rfl, _, rfl, _, rfl, _, _, rfl, rfl, p, _, a3, b3, c3, rfl, hp3, ha3, by omega, by omega, fun n x y z g1 g2 g3 => ?_⟩
      refine ⟨(by show 4 ≤ sizeLine; decide), fun u nu => ?_⟩
      have := fin (.ift t q n.toNat) _ (k3.trans keep_upd) (.upd g3) ⟨ht, hq, by omega⟩ u nu
      rw [show ((Ln.ift t q n.toNat).vs) = [.str "if", .str t, .str q, .int n] by show [V.str "if", V.str t, V.str q, V.int (n.toNat : Int)] = _; rw [Int.toNat_of_nonneg g1]] at this
      exact this
    have hW3 := k3 _ _ neW hW
    have hd0 : (ws.map V.str)[0]? = some (.str (ws.headD Str.empty)) := by
      cases ws with
      | nil => exact absurd w1 (by simp)
      | cons x xs => rfl
    refine ⟨_, rfl, _, _, rfl, rfl, _, rfl, ite2 (fun c2 => ?_) (fun c2 => ?_)⟩
    · refine ⟨_, rfl, _, rfl, W, _, _, _, rfl, rfl, SqL.of hW3, atI_nat (j := 0) hd0, rfl, _, rfl, ite2 (fun c3 => ?_) (fun c3 => ?_)⟩
      · refine ⟨_, rfl, _, rfl, (by show 3 ≤ sizeLine; decide), fun u nu => fin (.look t q) _ k3 d3 ⟨ht, hq, fun e => ?_⟩ u nu⟩
        rw [e] at c3
        simp at c3
      · exact ⟨_, rfl, _, rfl, (by show 3 ≤ sizeLine; decide), fun u nu => fin (.read t q) _ k3 d3 ⟨ht, hq⟩ u nu⟩
    · exact ⟨_, rfl, _, rfl, (by show 3 ≤ sizeLine; decide), fun u nu => fin (.read t q) _ k3 d3 ⟨ht, hq⟩ u nu⟩
end
end Rd

/-! What the law draws: a mover -/
namespace Rd
open PySem PySem.Spec PyProof.Rows L2 Tq Dn Dc Mk2
def mkT (a b : Str) (w : Str) : Tb := ⟨w, [("new", [a]), ("old", [b])], [("new", "old")]⟩
def fullL : List Tb → List Prs
  | t :: u :: r => fullP t u :: fullL (u :: r)
  | _ => []
theorem full_is : ∀ {ts : List Tb}, 1 ≤ ts.length → FullBs ts (fullL ts)
  | [], h => absurd h (by simp)
  | [t], _ => ⟨rfl, fun i x y h1 h2 => by simp at h2⟩
  | t :: u :: r, _ => by
    have ih := full_is (ts := u :: r) (by simp)
    refine ⟨by rw [fullL, List.length_cons, ih.len]; rfl, fun i x y h1 h2 => ?_⟩
    cases i with
    | zero => cases h1; cases h2; rfl
    | succ j => exact ih.at_ j x y h1 h2
theorem merge_two {a b : Addr} {x y : List Str} : mergeK [] [((Sum.inr "new" : Key), V.ref a), (Sum.inr "old", .ref b)] = ([("new", a, x), ("old", b, y)] : PlR).map prP := by
  show putK (putK [] (Sum.inr "new" : Key) (V.ref a)) (Sum.inr "old") (.ref b) = _
  have h1 := put_pl (es := []) (r := ("new", a, x)) (fun z => nomatch z)
  have h2 := put_pl (es := [("new", a, x)]) (r := ("old", b, y)) (by show ("old" : Str) ∉ [("new" : Str)]; decide +kernel)
  exact (congrArg (fun l => putK l (Sum.inr "old" : Key) (.ref b)) h1).trans h2
theorem mkT_ok {ps : List Str} {a b w : Str} (ha : a ∈ ps) (hb : b ∈ ps) (hw : nameS w = true) : OkTb ps (mkT a b w) := by
  have s1 : ∀ x ∈ ps, OkSome ps [x] := fun x hx => ⟨by simp, fun y hy => by rw [List.mem_singleton.mp hy]; exact hx, List.pairwise_singleton _ _⟩
  refine ⟨hw, ⟨by show 1 ≤ 2; decide, by show 2 ≤ 6; decide, fun p hp => ?_, by show [("new" : Str), "old"].Nodup; decide +kernel, fun p hp => ?_⟩, ⟨by show 1 < 64; decide, fun p hp => ?_, fun p hp => ?_⟩, fun p hp => ?_⟩
  · rcases List.mem_cons.mp hp with rfl | hp
    · show nameS "new" = true; decide +kernel
    · rw [List.mem_singleton.mp hp]; show nameS "old" = true; decide +kernel
  · rcases List.mem_cons.mp hp with rfl | hp
    · exact s1 a ha
    · rw [List.mem_singleton.mp hp]; exact s1 b hb
  · rw [List.mem_singleton.mp hp]; show ("new" : Str) ∈ [("new" : Str), "old"]; decide +kernel
  · rw [List.mem_singleton.mp hp]; show ("old" : Str) ∈ [("new" : Str), "old"]; decide +kernel
  · rw [List.mem_singleton.mp hp]; show ("new" : Str) ≠ "old"; decide +kernel
theorem dice_up {p : Addr} {H H' : Hp} (d : DiceAt H p) (s : Same H H') : DiceAt H' p := let ⟨a, b, c, e, h⟩ := d; ⟨a, b, c, s _ _ e, h⟩
structure Words (ws : List Str) : Prop where
  lo : 1 ≤ ws.length
  hi : ws.length ≤ 3
  nm : ∀ w ∈ ws, nameS w = true
  dif : ws.Nodup
theorem mkTs_ok {ps : List Str} {a b : Str} {ws : List Str} (ha : a ∈ ps) (hb : b ∈ ps) (h : Words ws) : OkTbs ps (ws.map (mkT a b)) := by
  refine ⟨by rw [List.length_map]; exact h.lo, by rw [List.length_map]; exact h.hi, fun t ht => ?_, ?_⟩
  · obtain ⟨w, hw, rfl⟩ := List.mem_map.mp ht
    exact mkT_ok ha hb (h.nm w hw)
  · rw [List.map_map]
    have : (ws.map (Tb.nm ∘ mkT a b)) = ws := (List.map_congr_left (fun w _ => rfl)).trans (List.map_id ws)
    rw [this]; exact h.dif
theorem mkTs_two {a b : Str} {ws : List Str} (h : Words ws) : Two (ws.map (mkT a b)) (fullL (ws.map (mkT a b))) := by
  refine full_two (by rw [List.length_map]; exact h.lo) (by rw [List.length_map]; exact h.hi) (fun t ht => ?_) (full_is (by rw [List.length_map]; exact h.lo))
  obtain ⟨w, hw, rfl⟩ := List.mem_map.mp ht
  exact List.Perm.refl _
theorem words_T3 : ∀ n, n < 3 → Words (T3.take (n + 1)) := by
  intro n h
  have : n = 0 ∨ n = 1 ∨ n = 2 := by omega
  rcases this with rfl | rfl | rfl <;> exact ⟨by decide +kernel, by decide +kernel, by decide +kernel, by decide +kernel⟩
theorem parts_A3 : ∀ n, n < 2 → OkParts (A3.take (n + 2)) := by
  intro n h
  have : n = 0 ∨ n = 1 := by omega
  rcases this with rfl | rfl <;> exact ⟨by decide +kernel, by decide +kernel, by decide +kernel, by decide +kernel⟩
/-- a mover of these words and parts, with two placements in each table -/
structure Mvd (K : PySem.W.Frag) (C : Addr) (H : Hp) (m : Addr) (ws ps : List Str) (us : List Tb) (cs : List Prs) : Prop where
  at_ : MvAt K C H m ps us cs
  parts : OkParts ps
  tbs : OkTbs ps us
  nms : us.map Tb.nm = ws
  bs : OkBs us cs
  two : Two us cs
theorem Mvd.up {K : PySem.W.Frag} {C : Addr} {H H' : Hp} {m : Addr} {ws ps : List Str} {us : List Tb} {cs : List Prs} (h : Mvd K C H m ws ps us cs) (s : Same H H') : Mvd K C H' m ws ps us cs := ⟨h.at_.up s, h.parts, h.tbs, h.nms, h.bs, h.two⟩
theorem mvd_of {K : PySem.W.Frag} {C : Addr} {H : Hp} {m : Addr} {ps : List Str} {ts us : List Tb} {cs : List Prs} (h : MvAt K C H m ps us cs) (okp : OkParts ps) (okt : OkTbs ps ts) (t2 : Two ts (fullL ts)) (n : NormTs ts us) (nb : NormBs (fullL ts) cs) : Mvd K C H m (ts.map Tb.nm) ps us cs :=
  ⟨h, okp, norm_ok okt n, n.nms, norm_bs ((full_is okt.lo).ok fun t ht => (okt.tb t ht).pl.hi) n nb, (two_norm t2 n nb).1⟩
def spMv (K : PySem.W.Frag) (C : Addr) : Sp := fun vs H Q _ => ∃ p, vs = [.ref p] ∧ DiceAt H p ∧ ∀ H' a Pa W m n k us cs, Keep p H H' → DiceAt H' p → H a = none → H' a = some (.tup [.ref Pa, .ref W, .ref m]) → n < 3 → k < 2 → SqT K H' Pa ((A3.take (k + 2)).map V.str) → H' W = some (.lst ((T3.take (n + 1)).map V.str)) → W ≠ p → H W = none →
  Mvd K C H' m (T3.take (n + 1)) (A3.take (k + 2)) us cs → Q (.ref a) H'
structure TxE3 (K : PySem.W.Frag) (mg : Str → Option Value) (P : Program) (w : World) (base : Heap) (C : Addr) : Prop extends TxE2 K mg P w base where
  gM : mg "Mover" = some (.ref C)
  mof : HasC P w K mg base C "of" 9 (fun vs H Q E => spMoK K C vs none H Q E)
section
variable {P : Program} {w : World} {K : PySem.W.Frag} {mg : Str → Option Value} {base : Heap}
theorem scMv : FnScope ["_law_dice_here", "_law_parts", "_law_words", "_law_rows", "_law_word"] ["_law_dice_here"] (defScope sMv) := ⟨rfl, rfl, rfl, by decide +kernel, rfl, by decide +kernel, by decide +kernel⟩
theorem ok_mv {C f : Addr} {fd : FuncData} (F : Fun K "_law_mover" "_law_mover" sMv f fd) (T : TxE3 K mg P w base C) : FnOk P w K mg base CX0 10 f fd ["_law_dice_here"] (spMv K C) := by
  obtain ⟨fR, fdR, mR, kR, bR, GR⟩ := T.roll
  obtain ⟨mc, p0, g0, cr, cm, G0⟩ := T.mof
  refine F.ok scMv (fun vs H Q E h => ?_) (fun cdv A outer s H vs Q E hr h => ?_)
  · obtain ⟨p, rfl, _⟩ := h; rfl
  · obtain ⟨p, rfl, hD, k⟩ := h
    have hr1 := hr.mono (show 1 ≤ 9 by decide)
    refine ⟨_, (pss_cons (ps_set (i := 1) scMv.nd rfl (Or.inr rfl) (pe_slice sl_tupU (pe_tup (pa_cons pe_str (pa_cons pe_str (pa_cons pe_str pa_nil)))) po_none (po_some (pe_op op_add pe_int (pe_call GR hr1 (by rfl) mR kR bR .nil pass0 (pa_cons (pv 0) (pa_cons pe_int pa_nil)))))))
      (pss_cons (ps_set (i := 2) scMv.nd rfl (Or.inl rfl) (pe_slice sl_list (pe_lst (pa_cons pe_str (pa_cons pe_str (pa_cons pe_str pa_nil)))) po_none (po_some (pe_op op_add pe_int (pe_call GR hr1 (by rfl) mR kR bR .nil pass0 (pa_cons (pv 0) (pa_cons pe_int pa_nil)))))))
      (pss_cons (ps_set (i := 3) scMv.nd rfl (Or.inl rfl) (pe_callTy call_tupOf (by rfl) T.tuple PyProof.Rows.boot_tuple (pa_cons (pe_lc (own := [("_law_word", 4)]) (g := gName 4) (tt := tYes) (te := tTup (tCons (tVar 4) (tCons (tDisp [(tC (.str "new"), tTup (tCons (tOp (rIxT K) (tVar 1) (tC (.int 0))) tNil)), (tC (.str "old"), tTup (tCons (tOp (rIxT K) (tVar 1) (tC (.int 1))) tNil))]) (tCons (tTup (tCons (tTup (tCons (tC (.str "new")) (tCons (tC (.str "old")) tNil))) tNil)) tNil)))) rfl scMv.nd (pi_list (pv 2)) (blkOk_by (N := ["_law_dice_here", "_law_parts", "_law_words", "_law_rows", "_law_word"]) (sc := defScope sMv) (by decide +kernel)) (fun _ _ _ _ _ => pg_name (i := 4) scMv.nd rfl (Or.inl rfl)) (fun _ _ _ _ _ => pts_nil) (fun _ _ _ _ _ => (pe_tup (pa_cons (pv 4) (pa_cons (pe_disp (pps_cons pe_str (pe_tup (pa_cons (pe_ix ix_tup (pv 1) pe_int (fun _ _ => rfl)) pa_nil)) (pps_cons pe_str (pe_tup (pa_cons (pe_ix ix_tup (pv 1) pe_int (fun _ _ => rfl)) pa_nil)) pps_nil)) rfl rfl (by simp) (by decide)) (pa_cons (pe_tup (pa_cons (pe_tup (pa_cons pe_str (pa_cons pe_str pa_nil))) pa_nil)) pa_nil)))))) pa_nil)))
      (pss_one (ps_ret (pe_tup (pa_cons (pv 1) (pa_cons (pv 2) (pa_cons (ClX.pe_cmeth (E := E0) (pe_glob (v := .ref C) (by rfl) T.gM rfl) cr cm G0 hr pass0 (pa_cons (pv 1) (pa_cons (pv 3) pa_nil))) pa_nil))))))))), ?_⟩
    refine ⟨(by show 3 ≤ sizeLine; decide), fun t1 n1 => ?_⟩
    have e1 := dice_ne hD n1
    have k1 : Keep p H (upd H t1 (.tup [.str "arch", .str "live", .str "warm"])) := keep_new n1
    have d1 := dice_upd (o := HO.tup [V.str "arch", .str "live", .str "warm"]) hD e1
    have x1 : SqT K (upd H t1 (.tup [.str "arch", .str "live", .str "warm"])) t1 (A3.map V.str) := SqT.of upd_same
    generalize upd H t1 (HO.tup [V.str "arch", .str "live", .str "warm"]) = H1 at k1 d1 x1 ⊢
    obtain ⟨a1, b1, c1, hp1, ha1⟩ := id d1
    refine ⟨_, rfl, p, 2, a1, b1, c1, rfl, hp1, ha1, by decide, by decide, fun r1 y1 y2 y3 g1 g2 g3 => ?_⟩
    obtain ⟨kk, rfl⟩ : ∃ n : Nat, r1 = (n : Int) := ⟨r1.toNat, (Int.toNat_of_nonneg g1).symm⟩
    have hk2 : kk < 2 := by omega
    have k2 : Keep p H1 (upd H1 p (.lst [.int y1, .int y2, .int y3])) := keep_upd
    have d2 : DiceAt (upd H1 p (.lst [.int y1, .int y2, .int y3])) p := .upd g3
    have x2 := off_seq hp1 k2 x1
    have k02 := k1.trans k2
    generalize upd H1 p (HO.lst [V.int y1, V.int y2, V.int y3]) = H2 at d2 x2 k02 ⊢
    clear k1 d1 hp1 k2 x1
    refine ⟨_, _, rfl, rfl, _, rfl, t1, _, rfl, x2, fun Pa H3 s3 hPa => ?_⟩
    have cut1 : cutV (A3.map V.str) none (some (2 + (kk : Int))) = (A3.take (kk + 2)).map V.str := by
      rw [show (2 : Int) + (kk : Int) = ((kk + 2 : Nat) : Int) by omega, cut_to (by rw [List.length_map]; show kk + 2 ≤ 3; omega), List.map_take]
    rw [cut1] at hPa
    have d3 := dice_up d2 s3
    have K3 : Keep p H H3 := k02.trans (same_keep s3)
    clear k02 d2 x2 s3 cut1
    refine ⟨(by show 3 ≤ sizeLine; decide), fun l1 nl => ?_⟩
    have el := dice_ne d3 nl
    have s4 := same_new (o := HO.lst [V.str "item", .str "order", .str "buyer"]) nl
    have L4 : upd H3 l1 (HO.lst [V.str "item", .str "order", .str "buyer"]) l1 = some (.lst (T3.map V.str)) := upd_same
    generalize upd H3 l1 (HO.lst [V.str "item", .str "order", .str "buyer"]) = H4 at s4 L4 ⊢
    have d4 := dice_up d3 s4
    have K4 : Keep p H H4 := K3.trans (same_keep s4)
    have P4 := sqT_up hPa s4
    clear K3 hPa s4
    obtain ⟨a4, b4, c4, hp4, ha4⟩ := id d4
    refine ⟨_, rfl, p, 3, a4, b4, c4, rfl, hp4, ha4, by decide, by decide, fun r2 y1 y2 y3 g1 g2 g3 => ?_⟩
    obtain ⟨n, rfl⟩ : ∃ n : Nat, r2 = (n : Int) := ⟨r2.toNat, (Int.toNat_of_nonneg g1).symm⟩
    have hn3 : n < 3 := by omega
    have k5 : Keep p H4 (upd H4 p (.lst [.int y1, .int y2, .int y3])) := keep_upd
    have d5 : DiceAt (upd H4 p (.lst [.int y1, .int y2, .int y3])) p := .upd g3
    have P5 := off_seq hp4 k5 P4
    have L5 := k5 _ _ el L4
    have K5 := K4.trans k5
    generalize upd H4 p (HO.lst [V.int y1, V.int y2, V.int y3]) = H5 at d5 P5 L5 K5 ⊢
    clear k5 hp4 d4 P4 L4 K4
    refine ⟨_, _, rfl, rfl, _, rfl, l1, _, rfl, SqL.of L5, fun W nW => ?_⟩
    have cut2 : cutV (T3.map V.str) none (some (1 + (n : Int))) = (T3.take (n + 1)).map V.str := by
      rw [show (1 : Int) + (n : Int) = ((n + 1 : Nat) : Int) by omega, cut_to (by rw [List.length_map]; show n + 1 ≤ 3; omega), List.map_take]
    have eW : upd H5 W (.lst (cutV (T3.map V.str) none (some (1 + (n : Int))))) W = some (.lst ((T3.take (n + 1)).map V.str)) := by rw [upd_same, cut2]
    have s6 := same_new (o := HO.lst (cutV (T3.map V.str) none (some (1 + (n : Int))))) nW
    generalize upd H5 W (HO.lst (cutV (T3.map V.str) none (some (1 + (n : Int))))) = H6 at eW s6 ⊢
    have neW := dice_ne d5 nW
    have nW0 := keep_free K5 d5 nW
    have d6 := dice_up d5 s6
    have K6 := K5.trans (same_keep s6)
    have P6 := sqT_up P5 s6
    clear cut2 L5 P5 d5 K5 s6 nW
    have wok := words_T3 n hn3
    have pok := parts_A3 kk hk2
    have mA : ("arch" : Str) ∈ A3.take (kk + 2) := List.mem_cons_self
    have mL : ("live" : Str) ∈ A3.take (kk + 2) := .tail _ List.mem_cons_self
    have at0 : ((A3.take (kk + 2)).map V.str)[0]? = some (.str "arch") := rfl
    have at1 : ((A3.take (kk + 2)).map V.str)[1]? = some (.str "live") := rfl
    generalize hws : T3.take (n + 1) = ws at eW wok k
    generalize hps : A3.take (kk + 2) = ps at P6 pok mA mL at0 at1 k
    have w3 := wok.hi
    refine ⟨_, rfl, W, rfl, ⟨_, SqL.of eW⟩, fun D nD => ?_⟩
    refine lc_fil walk_list nD (AP (α := Tb) (fun a t H' => TbAt K H' a t) (fun j t => ∀ w, ws[j]? = some w → t = mkT "arch" "live" w)) ap_nil (fun H' s' => sqL_up (SqL.of eW) s') ?_ ?_
    · rintro i v acc Hx Hy hi s2 e2 hap ⟨rfl, hv⟩
      rw [List.length_map] at hi
      rw [List.getElem?_map] at hv
      obtain ⟨wd, hw, rfl⟩ := Option.map_eq_some_iff.mp hv
      have Px := sqT_up P6 s2
      refine ⟨rfl, tt_yes ?_⟩
      refine ⟨_, rfl, fun d nd => ?_⟩
      have q0 := same_new (o := HO.dK []) nd
      have ed0 : upd Hy d (HO.dK []) d = some (.dK []) := upd_same
      generalize upd Hy d (HO.dK []) = Ha at q0 ed0 ⊢
      refine ⟨_, rfl, Pa, _, _, _, rfl, rfl, sqT_up Px q0, atI_nat (j := 0) at0, (by show 1 ≤ sizeLine; decide), fun q1 nq1 => ?_⟩
      have z1 := same_new (o := HO.tup [V.str "arch"]) nq1
      have eq1 : SqT K (upd Ha q1 (HO.tup [V.str "arch"])) q1 ([("arch" : Str)].map V.str) := SqT.of upd_same
      generalize upd Ha q1 (HO.tup [V.str "arch"]) = Hb at z1 eq1 ⊢
      refine ⟨_, rfl, Pa, _, _, _, rfl, rfl, sqT_up Px (q0.trans z1), atI_nat (j := 1) at1, (by show 1 ≤ sizeLine; decide), fun q2 nq2 => ?_⟩
      have z2 := same_new (o := HO.tup [V.str "live"]) nq2
      have eq2 : SqT K (upd Hb q2 (HO.tup [V.str "live"])) q2 ([("live" : Str)].map V.str) := SqT.of upd_same
      have eq1' := sqT_up eq1 z2
      generalize upd Hb q2 (HO.tup [V.str "live"]) = Hc at z2 eq2 eq1' ⊢
      have edc := z2 _ _ (z1 _ _ ed0)
      refine ⟨edc, [(Sum.inr "new", .ref q1), (Sum.inr "old", .ref q2)], rfl, (by show 2 ≤ 15; decide), ?_⟩
      have zd : Same Hy (upd Hc d (.dK (mergeK [] [((Sum.inr "new" : Key), V.ref q1), (Sum.inr "old", .ref q2)]))) := same_to nd ((q0.trans z1).trans z2)
      have e1 := sqT_dk (u := .dK (mergeK [] [((Sum.inr "new" : Key), V.ref q1), (Sum.inr "old", .ref q2)])) edc eq1'
      have e2' := sqT_dk (u := .dK (mergeK [] [((Sum.inr "new" : Key), V.ref q1), (Sum.inr "old", .ref q2)])) edc eq2
      have ed : upd Hc d (.dK (mergeK [] [((Sum.inr "new" : Key), V.ref q1), (Sum.inr "old", .ref q2)])) d = some (.dK (([("new", q1, ["arch"]), ("old", q2, ["live"])] : PlR).map prP)) := by rw [upd_same, merge_two]
      generalize upd Hc d (.dK (mergeK [] [((Sum.inr "new" : Key), V.ref q1), (Sum.inr "old", .ref q2)])) = Hd at zd e1 e2' ed ⊢
      clear edc eq1' eq2 eq1 z1 z2 q0 ed0
      refine ⟨(by show 2 ≤ sizeLine; decide), fun q3 nq3 => ⟨(by show 1 ≤ sizeLine; decide), fun q4 nq4 => ⟨(by show 3 ≤ sizeLine; decide), fun a na => ?_⟩⟩⟩
      have y3 := same_new (o := HO.tup [V.str "new", .str "old"]) nq3
      have eq3 : SqT K (upd Hd q3 (HO.tup [V.str "new", .str "old"])) q3 ([("new" : Str), "old"].map V.str) := SqT.of upd_same
      generalize upd Hd q3 (HO.tup [V.str "new", .str "old"]) = He at y3 eq3 nq4 na ⊢
      have y4 := same_new (o := HO.tup [V.ref q3]) nq4
      have eq4 : SqT K (upd He q4 (HO.tup [V.ref q3])) q4 [V.ref q3] := SqT.of upd_same
      generalize upd He q4 (HO.tup [V.ref q3]) = Hf at y4 eq4 na ⊢
      have y5 := same_new (o := HO.tup [V.str wd, V.ref d, V.ref q4]) na
      have yy := (y3.trans y4).trans y5
      refine ap_put (α := Tb) (v := mkT "arch" "live" wd) (fun a v l H H' e k h => tb_off e k h) (fun a v H H' s h => h.up s) nD s2 e2 (zd.trans yy) hap (by omega) ⟨d, q4, SqT.of upd_same, ⟨[("new", q1, ["arch"]), ("old", q2, ["live"])], yy _ _ ed, fun r hr => ?_, rfl⟩, ⟨[(q3, ["new", "old"])], rfl, sqT_up eq4 y5, fun r hr => ?_⟩⟩ fun w hw2 => ?_
      · rcases List.mem_cons.mp hr with rfl | hr
        · exact sqT_up e1 yy
        · rw [List.mem_singleton.mp hr]; exact sqT_up e2' yy
      · rw [List.mem_singleton.mp hr]; exact sqT_up eq3 (y4.trans y5)
      · rw [hw] at hw2; cases hw2; rfl
    rintro acc Hx sx ex ⟨rs, rfl, lrs, hrs, ors⟩
    rw [List.length_map] at lrs
    have ers : rs.map Prod.snd = ws.map (mkT "arch" "live") := by
      refine List.ext_getElem? fun i => ?_
      by_cases hi : i < rs.length
      · have h1 : rs[i]? = some rs[i] := List.getElem?_eq_getElem hi
        have h2 : ws[i]? = some (ws[i]'(by omega)) := List.getElem?_eq_getElem _
        rw [List.getElem?_map, List.getElem?_map, h1, h2]
        exact congrArg some (ors i _ h1 _ h2)
      · rw [List.getElem?_eq_none (by rw [List.length_map]; omega), List.getElem?_eq_none (by rw [List.length_map]; omega)]
    refine ⟨D, _, rfl, SqL.of ex, fun R nR => ?_⟩
    have sr := same_new (o := HO.tup (rs.map fun d => V.ref d.1)) nR
    have hR : TbsAt K (upd Hx R (HO.tup (rs.map fun d => V.ref d.1))) R rs := ⟨SqT.of upd_same, fun r hr => (hrs r hr).up sr⟩
    generalize upd Hx R (HO.tup (rs.map fun d => V.ref d.1)) = H7 at sr hR ⊢
    have s7 := sx.trans sr
    have okt : OkTbs ps (rs.map Prod.snd) := by rw [ers]; exact mkTs_ok mA mL wok
    have t2 : Two (rs.map Prod.snd) (fullL (rs.map Prod.snd)) := by rw [ers]; exact mkTs_two wok
    refine ⟨_, rfl, _, rfl, rfl, _, rfl, _, rfl, _, _, _, rfl, Pa, R, .non, ps, rs, fullL (rs.map Prod.snd), rfl, sqT_up P6 s7, pok, hR, okt, .inl ⟨rfl, full_is (by rw [ers, List.length_map]; exact wok.lo)⟩, fun us cs n1 n2 => two_joins t2 n1 n2, fun H8 m us cs s8 nm n1 n2 hM => ?_⟩
    refine ⟨(by show 3 ≤ sizeLine; decide), fun a na => ?_⟩
    have s9 := same_new (o := HO.tup [V.ref Pa, V.ref W, V.ref m]) na
    have st := (s7.trans s8).trans s9
    have nms : (rs.map Prod.snd).map Tb.nm = ws := by rw [ers, List.map_map]; exact (List.map_congr_left fun w _ => rfl).trans (List.map_id ws)
    have md := (mvd_of hM pok okt t2 n1 n2).up s9
    rw [nms] at md
    subst hws hps
    exact k _ a Pa W m n kk us cs (K6.trans (same_keep st)) (dice_up d6 st) (keep_free (K6.trans (same_keep (s7.trans s8))) (dice_up d6 (s7.trans s8)) na) upd_same hn3 hk2 (sqT_up P6 st) (st _ _ eW) neW nW0 md
end
end Rd

/-! Whether lines are right -/
namespace Rd
open PySem PySem.Spec PyProof.Rows L2 Tq Dn Dc Mk2
def goodL (ws ps : List Str) : Ln → Bool
  | .go _ => true
  | .ift t p _ => ws.contains t && ps.contains p
  | .look t p => (ws.contains t && ps.contains p) && !decide (t = ws.headD Str.empty)
  | .read t p => ws.contains t && ps.contains p
def rightB (ws ps : List Str) (ls : List Ln) : Bool := ls.all (goodL ws ps)
theorem right_fit (ws ps : List Str) (ls : List Ln) : fitB ws ps ls = rightB ws ps ls := by
  have w1 : ([("look" : Str)].contains "go" = false ∧ [("look" : Str)].contains "if" = false ∧ [("look" : Str)].contains "look" = true ∧ [("look" : Str)].contains "read" = false) := by decide +kernel
  have w2 : ([("read" : Str), "look", "if"].contains "go" = false ∧ [("read" : Str), "look", "if"].contains "if" = true ∧ [("read" : Str), "look", "if"].contains "look" = true ∧ [("read" : Str), "look", "if"].contains "read" = true) := by decide +kernel
  have key : ∀ (ws1 : List Str) (l : Ln) (ls : List Ln), keysOf ws1 (l :: ls) = if ws1.contains l.word then l.key :: keysOf ws1 ls else keysOf ws1 ls := fun ws1 l ls => by
    unfold keysOf
    by_cases c : ws1.contains l.word = true
    · rw [List.filter_cons_of_pos (by exact c), if_pos c]; rfl
    · rw [List.filter_cons_of_neg (by exact c), if_neg c]
  induction ls with
  | nil => rfl
  | cons l ls ih =>
    have ih' : (!(((keysOf ["look"] ls).map fun k => k.headD Str.empty).contains (ws.headD Str.empty)) && (keysOf ["read", "look", "if"] ls).all (fitK ws ps)) = ls.all (goodL ws ps) := ih
    show (!(((keysOf ["look"] (l :: ls)).map fun k => k.headD Str.empty).contains (ws.headD Str.empty)) && (keysOf ["read", "look", "if"] (l :: ls)).all (fitK ws ps)) = (goodL ws ps l && ls.all (goodL ws ps))
    rw [← ih', key, key]
    generalize hA : ((keysOf ["look"] ls).map fun k => k.headD Str.empty).contains (ws.headD Str.empty) = A
    generalize hB : (keysOf ["read", "look", "if"] ls).all (fitK ws ps) = B
    obtain ⟨a1, a2, a3, a4⟩ := w1
    obtain ⟨b1, b2, b3, b4⟩ := w2
    cases l with
    | go n =>
      rw [if_neg (by rw [show (Ln.go n).word = "go" from rfl, a1]; exact Bool.false_ne_true), if_neg (by rw [show (Ln.go n).word = "go" from rfl, b1]; exact Bool.false_ne_true), hA, hB]
      show (!A && B) = (true && (!A && B)); rw [Bool.true_and]
    | ift t p n =>
      rw [if_neg (by rw [show (Ln.ift t p n).word = "if" from rfl, a2]; exact Bool.false_ne_true), if_pos (by rw [show (Ln.ift t p n).word = "if" from rfl, b2]), List.all_cons, hA, hB]
      show (!A && (fitK ws ps [t, p] && B)) = ((ws.contains t && ps.contains p) && (!A && B))
      show (!A && ((ws.contains t && ps.contains p) && B)) = _
      cases A <;> cases B <;> cases (ws.contains t && ps.contains p) <;> rfl
    | look t p =>
      rw [if_pos (by rw [show (Ln.look t p).word = "look" from rfl, a3]), if_pos (by rw [show (Ln.look t p).word = "look" from rfl, b3]), List.all_cons, hB]
      show (!((t :: (keysOf ["look"] ls).map fun k => k.headD Str.empty).contains (ws.headD Str.empty)) && ((ws.contains t && ps.contains p) && B)) = (((ws.contains t && ps.contains p) && !decide (t = ws.headD Str.empty)) && (!A && B))
      rw [show (t :: (keysOf ["look"] ls).map fun k => k.headD Str.empty).contains (ws.headD Str.empty) = (decide (t = ws.headD Str.empty) || A) by
        rw [← hA, List.contains_cons]
        congr 1
        rw [Bool.eq_iff_iff, beq_iff_eq, decide_eq_true_eq]
        exact ⟨Eq.symm, Eq.symm⟩]
      cases A <;> cases B <;> cases (ws.contains t && ps.contains p) <;> cases decide (t = ws.headD Str.empty) <;> rfl
    | read t p =>
      rw [if_neg (by rw [show (Ln.read t p).word = "read" from rfl, a4]; exact Bool.false_ne_true), if_pos (by rw [show (Ln.read t p).word = "read" from rfl, b4]), List.all_cons, hA, hB]
      show (!A && ((ws.contains t && ps.contains p) && B)) = ((ws.contains t && ps.contains p) && (!A && B))
      cases A <;> cases B <;> cases (ws.contains t && ps.contains p) <;> rfl
def spRi (K : PySem.W.Frag) : Sp := fun vs H Q _ => ∃ (W Pa L : Addr) (ws ps : List Str) (rs : RowsL), vs = [.ref W, .ref Pa, .ref L] ∧ H W = some (.lst (ws.map V.str)) ∧ SqT K H Pa (ps.map V.str) ∧ LinesAt K H L rs ∧ 1 ≤ ws.length ∧ Q (.bl (rightB ws ps (lnsOf rs))) H
section
variable {P : Program} {w : World} {K : PySem.W.Frag} {mg : Str → Option Value} {base : Heap}
theorem scRi : FnScope ["_law_words", "_law_parts", "_law_lines", "_law_line_here"] ["_law_words", "_law_parts", "_law_lines"] (defScope sRi) := ⟨rfl, rfl, rfl, by decide +kernel, rfl, by decide +kernel, by decide +kernel⟩
theorem ok_ri {f : Addr} {fd : FuncData} (F : Fun K "_law_is_right" "_law_is_right" sRi f fd) : FnOk P w K mg base CX0 1 f fd ["_law_words", "_law_parts", "_law_lines"] (spRi K) := by
  refine F.ok scRi (fun vs H Q E h => ?_) (fun cdv A outer s H vs Q E hr h => ?_)
  · obtain ⟨W, Pa, L, ws, ps, rs, rfl, _⟩ := h; rfl
  · obtain ⟨W, Pa, L, ws, ps, rs, rfl, hW, hPa, ⟨hL, hrs⟩, w1, k⟩ := h
    have hd0 : (ws.map V.str)[0]? = some (.str (ws.headD Str.empty)) := by
      cases ws with
      | nil => exact absurd w1 (by simp)
      | cons x xs => rfl
    refine ⟨_, (pss_cons (ps_for PassesOwn.never rfl (pi_tup (pv 2)) (pg_name (i := 3) scRi.nd rfl (.inl rfl)) (pss_cons (ps_if (PW.pt (pw_and (pt_cmpR op_ne (pe_ix ix_tup (pv 3) pe_int (fun _ _ => rfl)) pe_str (nomark _)) (pw_and1 (PW.pt (pw_or (pt_cmpR op_notIn_seq (pe_ix ix_tup (pv 3) pe_int (fun _ _ => rfl)) (pv 0) (by rfl)) (pw_or1 (pt_cmpR op_notIn_seq (pe_ix ix_tup (pv 3) pe_int (fun _ _ => rfl)) (pv 1) (by rfl)))))))) (pss_one (ps_ret pe_bl)) pss_nil)
      (pss_one (ps_if (PW.pt (pw_and (pt_cmpR op_eq (pe_ix ix_tup (pv 3) pe_int (fun _ _ => rfl)) pe_str (nomark _)) (pw_and1 (pt_cmpR op_eq (pe_ix ix_tup (pv 3) pe_int (fun _ _ => rfl)) (pe_ix ix_list (pv 0) pe_int (fun _ _ => rfl)) (nomark _))))) (pss_one (ps_ret pe_bl)) pss_nil))))
      (pss_one (ps_ret pe_bl))), ?_⟩
    refine ⟨_, rfl, L, rfl, ⟨_, hL⟩, ?_⟩
    refine for_it walk_tup (fun i σ H' => H' = H ∧ (∃ b, σ = [some (.ref W), some (.ref Pa), some (.ref L), b]) ∧ ∀ l ∈ (lnsOf rs).take i, goodL ws ps l = true) ⟨rfl, ⟨none, rfl⟩, fun l z => nomatch z⟩ (fun i σ H' _ z => by rw [z.1]; exact hL) ?_ ?_
    · rintro i x σ Ha Hb hi ⟨rfl, ⟨b, rfl⟩, good⟩ ⟨rfl, hx⟩
      rw [List.getElem?_map] at hx
      obtain ⟨r, hri, rfl⟩ := Option.map_eq_some_iff.mp hx
      have rm := List.mem_of_getElem? hri
      have hr_ := hrs r rm
      have bad : goodL ws ps r.2 = false → Q (.bl false) Hb := fun e => by
        have : rightB ws ps (lnsOf rs) = false := by
          cases c : rightB ws ps (lnsOf rs) with
          | false => rfl
          | true => rw [List.all_eq_true.mp c r.2 (List.mem_map_of_mem rm)] at e; cases e
        rw [this] at k; exact k
      have fine : goodL ws ps r.2 = true → (∃ b, [some (V.ref W), some (.ref Pa), some (.ref L), some (.ref r.1)] = [some (.ref W), some (.ref Pa), some (.ref L), b]) ∧ ∀ l ∈ (lnsOf rs).take (i + 1), goodL ws ps l = true := fun e => ⟨⟨_, rfl⟩, fun l hl => by
        rw [List.take_add_one, List.getElem?_map, hri] at hl
        rcases List.mem_append.mp hl with z | z
        · exact good l z
        · rw [List.mem_singleton.mp z]; exact e⟩
      have W0 : SqL K Hb W (ws.map V.str) := SqL.of hW
      obtain ⟨ad, l⟩ := r
      clear hri hx rm
      cases l with
      | go n =>
        refine ⟨_, rfl, ad, _, _, _, rfl, rfl, hr_, atI_nat (j := 0) rfl, rfl, false, congrArg V.bl (by decide +kernel), iteF ?_⟩
        refine ⟨_, rfl, ad, _, _, _, rfl, rfl, hr_, atI_nat (j := 0) rfl, rfl, false, congrArg V.bl (by decide +kernel), iteF ?_⟩
        exact ⟨rfl, fine rfl⟩
      | ift t p n =>
        refine ⟨_, rfl, ad, _, _, _, rfl, rfl, hr_, atI_nat (j := 0) rfl, rfl, true, congrArg V.bl (by decide +kernel), iteT ?_⟩
        refine ⟨_, rfl, ad, _, _, _, rfl, rfl, hr_, atI_nat (j := 1) rfl, _, rfl, W, _, rfl, .inl W0, rfl, flat_strs _, _, rfl, ?_⟩
        have inW := inV_strs t ws
        have inP := inV_strs p ps
        refine ite2 (fun c => bad ?_) (fun c => ?_)
        · have c : (!inV (.str t) (ws.map V.str)) = true := c
          rw [inW, Bool.not_eq_true'] at c
          show (ws.contains t && ps.contains p) = false
          rw [c]; first | rfl | (cases ps.contains p <;> rfl)
        have c : ws.contains t = true := by
          have c : ¬ (!inV (.str t) (ws.map V.str)) = true := c
          rw [inW] at c
          cases e : ws.contains t with
          | true => rfl
          | false => rw [e] at c; exact absurd rfl c
        refine ⟨_, rfl, ad, _, _, _, rfl, rfl, hr_, atI_nat (j := 2) rfl, _, rfl, Pa, _, rfl, .inr hPa, rfl, flat_strs _, _, rfl, ?_⟩
        refine ite2 (fun c2 => bad ?_) (fun c2 => ?_)
        · have c2 : (!inV (.str p) (ps.map V.str)) = true := c2
          rw [inP, Bool.not_eq_true'] at c2
          show (ws.contains t && ps.contains p) = false
          rw [c, c2]; rfl
        have c2 : ps.contains p = true := by
          have c2 : ¬ (!inV (.str p) (ps.map V.str)) = true := c2
          rw [inP] at c2
          cases e : ps.contains p with
          | true => rfl
          | false => rw [e] at c2; exact absurd rfl c2
        refine ⟨_, rfl, ad, _, _, _, rfl, rfl, hr_, atI_nat (j := 0) rfl, rfl, false, congrArg V.bl (by decide +kernel), iteF ?_⟩
        refine ⟨rfl, fine ?_⟩
        show (ws.contains t && ps.contains p) = true
        rw [c, c2]; rfl
      | look t p =>
        refine ⟨_, rfl, ad, _, _, _, rfl, rfl, hr_, atI_nat (j := 0) rfl, rfl, true, congrArg V.bl (by decide +kernel), iteT ?_⟩
        refine ⟨_, rfl, ad, _, _, _, rfl, rfl, hr_, atI_nat (j := 1) rfl, _, rfl, W, _, rfl, .inl W0, rfl, flat_strs _, _, rfl, ?_⟩
        have inW := inV_strs t ws
        have inP := inV_strs p ps
        refine ite2 (fun c => bad ?_) (fun c => ?_)
        · have c : (!inV (.str t) (ws.map V.str)) = true := c
          rw [inW, Bool.not_eq_true'] at c
          show ((ws.contains t && ps.contains p) && !decide (t = ws.headD Str.empty)) = false
          rw [c]; first | rfl | (cases ps.contains p <;> rfl)
        have c : ws.contains t = true := by
          have c : ¬ (!inV (.str t) (ws.map V.str)) = true := c
          rw [inW] at c
          cases e : ws.contains t with
          | true => rfl
          | false => rw [e] at c; exact absurd rfl c
        refine ⟨_, rfl, ad, _, _, _, rfl, rfl, hr_, atI_nat (j := 2) rfl, _, rfl, Pa, _, rfl, .inr hPa, rfl, flat_strs _, _, rfl, ?_⟩
        refine ite2 (fun c2 => bad ?_) (fun c2 => ?_)
        · have c2 : (!inV (.str p) (ps.map V.str)) = true := c2
          rw [inP, Bool.not_eq_true'] at c2
          show ((ws.contains t && ps.contains p) && !decide (t = ws.headD Str.empty)) = false
          rw [c, c2]; rfl
        have c2 : ps.contains p = true := by
          have c2 : ¬ (!inV (.str p) (ps.map V.str)) = true := c2
          rw [inP] at c2
          cases e : ps.contains p with
          | true => rfl
          | false => rw [e] at c2; exact absurd rfl c2
        refine ⟨_, rfl, ad, _, _, _, rfl, rfl, hr_, atI_nat (j := 0) rfl, rfl, true, congrArg V.bl (by decide +kernel), iteT ?_⟩
        refine ⟨_, rfl, ad, _, _, _, rfl, rfl, hr_, atI_nat (j := 1) rfl, _, rfl, W, _, _, _, rfl, rfl, W0, atI_nat (j := 0) hd0, rfl, _, rfl, ite2 (fun c3 => bad ?_) (fun c3 => ⟨rfl, fine ?_⟩)⟩
        · have c3 := V.str.inj (of_decide_eq_true c3)
          show ((ws.contains t && ps.contains p) && !decide (t = ws.headD Str.empty)) = false
          rw [decide_eq_true c3, Bool.not_true, Bool.and_false]
        · show ((ws.contains t && ps.contains p) && !decide (t = ws.headD Str.empty)) = true
          rw [c, c2, decide_eq_false (fun e => c3 (decide_eq_true (congrArg V.str e)))]; rfl
      | read t p =>
        refine ⟨_, rfl, ad, _, _, _, rfl, rfl, hr_, atI_nat (j := 0) rfl, rfl, true, congrArg V.bl (by decide +kernel), iteT ?_⟩
        refine ⟨_, rfl, ad, _, _, _, rfl, rfl, hr_, atI_nat (j := 1) rfl, _, rfl, W, _, rfl, .inl W0, rfl, flat_strs _, _, rfl, ?_⟩
        have inW := inV_strs t ws
        have inP := inV_strs p ps
        refine ite2 (fun c => bad ?_) (fun c => ?_)
        · have c : (!inV (.str t) (ws.map V.str)) = true := c
          rw [inW, Bool.not_eq_true'] at c
          show (ws.contains t && ps.contains p) = false
          rw [c]; first | rfl | (cases ps.contains p <;> rfl)
        have c : ws.contains t = true := by
          have c : ¬ (!inV (.str t) (ws.map V.str)) = true := c
          rw [inW] at c
          cases e : ws.contains t with
          | true => rfl
          | false => rw [e] at c; exact absurd rfl c
        refine ⟨_, rfl, ad, _, _, _, rfl, rfl, hr_, atI_nat (j := 2) rfl, _, rfl, Pa, _, rfl, .inr hPa, rfl, flat_strs _, _, rfl, ?_⟩
        refine ite2 (fun c2 => bad ?_) (fun c2 => ?_)
        · have c2 : (!inV (.str p) (ps.map V.str)) = true := c2
          rw [inP, Bool.not_eq_true'] at c2
          show (ws.contains t && ps.contains p) = false
          rw [c, c2]; rfl
        have c2 : ps.contains p = true := by
          have c2 : ¬ (!inV (.str p) (ps.map V.str)) = true := c2
          rw [inP] at c2
          cases e : ps.contains p with
          | true => rfl
          | false => rw [e] at c2; exact absurd rfl c2
        refine ⟨_, rfl, ad, _, _, _, rfl, rfl, hr_, atI_nat (j := 0) rfl, rfl, false, congrArg V.bl (by decide +kernel), iteF ?_⟩
        refine ⟨rfl, fine ?_⟩
        show (ws.contains t && ps.contains p) = true
        rw [c, c2]; rfl
    · rintro σ H' ⟨rfl, ⟨b, rfl⟩, good⟩
      rw [List.length_map] at good
      have : rightB ws ps (lnsOf rs) = true := List.all_eq_true.mpr fun l hl => good l (by rw [List.take_of_length_le (by rw [List.length_map]; exact Nat.le_refl _)]; exact hl)
      rw [this] at k
      exact k
end
end Rd

/-! Lines of which one is changed -/
namespace Rd
open PySem PySem.Spec PyProof.Rows L2 Tq Dn Dc Mk2
theorem LinesAt.kp {K : PySem.W.Frag} {H H' : Hp} {p L : Addr} {xs : List V} {rs : RowsL} (hp : H p = some (.lst xs)) (k : Keep p H H') (h : LinesAt K H L rs) : LinesAt K H' L rs := ⟨off_seq hp k h.1, fun r hr => off_seq hp k (h.2 r hr)⟩
/-- a line that is no jump: its word, table, part, and the rest -/
theorem line_parts {l : Ln} {m : Nat} (h : l.word ≠ "go") (f : l.fine m = true) : ∃ (wd t q : Str) (tl : List V) (mk : Str → Str → Ln), l.vs = .str wd :: .str t :: .str q :: tl ∧ wd ≠ "go" ∧ tl.length ≤ 1 ∧ nameS t = true ∧ nameS q = true ∧
    ∀ x y, nameS x = true → nameS y = true → (mk x y).vs = .str wd :: .str x :: .str y :: tl ∧ (mk x y).fine m = true := by
  cases l with
  | go n => exact absurd rfl h
  | ift t q n =>
    have f : (nameS t && (nameS q && decide (n ≤ m))) = true := f
    obtain ⟨f1, f2⟩ := Bool.and_eq_true_iff.mp f
    obtain ⟨f2, f3⟩ := Bool.and_eq_true_iff.mp f2
    exact ⟨"if", t, q, [.int n], fun x y => .ift x y n, rfl, by decide +kernel, by simp, f1, f2, fun x y hx hy => ⟨rfl, by show (nameS x && (nameS y && decide (n ≤ m))) = true; rw [hx, hy, f3]; rfl⟩⟩
  | look t q =>
    have f : (nameS t && nameS q) = true := f
    obtain ⟨f1, f2⟩ := Bool.and_eq_true_iff.mp f
    exact ⟨"look", t, q, [], fun x y => .look x y, rfl, by decide +kernel, by simp, f1, f2, fun x y hx hy => ⟨rfl, by show (nameS x && nameS y) = true; rw [hx, hy]; rfl⟩⟩
  | read t q =>
    have f : (nameS t && nameS q) = true := f
    obtain ⟨f1, f2⟩ := Bool.and_eq_true_iff.mp f
    exact ⟨"read", t, q, [], fun x y => .read x y, rfl, by decide +kernel, by simp, f1, f2, fun x y hx hy => ⟨rfl, by show (nameS x && nameS y) = true; rw [hx, hy]; rfl⟩⟩
def strange : List Str := ["items", "ite", "live", "new"]
def strangeP : List Str := ["liv", "lives", "item", "cold"]
theorem strange_nm : (∀ x ∈ strange, nameS x = true) ∧ ∀ x ∈ strangeP, nameS x = true := by decide +kernel
def spSp (K : PySem.W.Frag) : Sp := fun vs H Q _ => ∃ (p L W : Addr) (rs : RowsL) (ws : List Str), vs = [.ref p, .ref L, .ref W] ∧ DiceAt H p ∧ LinesAt K H L rs ∧ 1 ≤ rs.length ∧ rs.length ≤ 16 ∧ (∀ r ∈ rs, r.2.fine rs.length = true) ∧ H W = some (.lst (ws.map V.str)) ∧ W ≠ p ∧ 1 ≤ ws.length ∧ (∀ x ∈ ws, nameS x = true) ∧
  ∀ H' L' rs', Keep p H H' → DiceAt H' p → LinesAt K H' L' rs' → rs'.length = rs.length → (∀ r ∈ rs', r.2.fine rs.length = true) → Q (.ref L') H'
section
variable {P : Program} {w : World} {K : PySem.W.Frag} {mg : Str → Option Value} {base : Heap}
theorem scSp : FnScope ["_law_dice_here", "_law_lines", "_law_words", "_law_at", "_law_line_here", "_law_way"] ["_law_dice_here", "_law_lines", "_law_words"] (defScope sSp) := ⟨rfl, rfl, rfl, by decide +kernel, rfl, by decide +kernel, by decide +kernel⟩
theorem ok_sp {f : Addr} {fd : FuncData} (F : Fun K "_law_spoilt" "_law_spoilt" sSp f fd) (T : TxE2 K mg P w base) : FnOk P w K mg base CX0 3 f fd ["_law_dice_here", "_law_lines", "_law_words"] (spSp K) := by
  obtain ⟨fR, fdR, mR, kR, bR, GR⟩ := T.roll
  obtain ⟨fO, fdO, mO, kO, bO, GO⟩ := T.one
  refine F.ok scSp (fun vs H Q E h => ?_) (fun cdv A outer s H vs Q E hr h => ?_)
  · obtain ⟨p, L, W, rs, ws, rfl, _⟩ := h; rfl
  · obtain ⟨p, L, W, rs, ws, rfl, hD, hL, r1, r16, fine, hW, neW, w1, wn, k⟩ := h
    have hr1 : Room 1 _ := hr.mono (by decide)
    refine ⟨_, (pss_cons (ps_set (i := 3) scSp.nd rfl (Or.inl rfl) (pe_call GR hr1 (by rfl) mR kR bR .nil pass0 (pa_cons (pv 0) (pa_cons (pe_callB call_lenT (by rfl) T.len PySem.boot_len (pa_cons (pv 1) pa_nil)) pa_nil))))
      (pss_cons (ps_par (i := 4) (j := 5) rfl scSp.nd rfl rfl (by decide) rfl rfl (pa_cons (pe_ix ix_tup (pv 1) (pv 3) (fun _ _ => rfl)) (pa_cons (pe_call GR hr1 (by rfl) mR kR bR .nil pass0 (pa_cons (pv 0) (pa_cons pe_int pa_nil))) pa_nil)) (by rfl))
      (pss_cons (ps_if (pt_cmpR op_eq (pe_ix ix_tup (pv 4) pe_int (fun _ _ => rfl)) pe_str (nomark _)) (pss_one (ps_ret (pv 1))) pss_nil)
      (pss_cons (ps_if (pt_cmpR op_eq (pv 5) pe_int (nomark _)) (pss_one (ps_set (i := 4) scSp.nd rfl (Or.inl rfl) (pe_op op_catU (pe_tup (pa_cons (pe_ix ix_tup (pv 4) pe_int (fun _ _ => rfl)) (pa_cons (pe_call GO hr (by rfl) mO kO bO .nil pass0 (pa_cons (pv 0) (pa_cons (pe_lst (pa_cons pe_str (pa_cons pe_str (pa_cons pe_str (pa_cons pe_str pa_nil))))) pa_nil))) pa_nil))) (pe_slice sl_tupU (pv 4) (po_some pe_int) po_none)))) (pss_one (ps_if (pt_cmpR op_eq (pv 5) pe_int (nomark _)) (pss_one (ps_set (i := 4) scSp.nd rfl (Or.inl rfl) (pe_op op_catU (pe_op op_catU (pe_slice sl_tupU (pv 4) po_none (po_some pe_int)) (pe_tup (pa_cons (pe_call GO hr (by rfl) mO kO bO .nil pass0 (pa_cons (pv 0) (pa_cons (pe_lst (pa_cons pe_str (pa_cons pe_str (pa_cons pe_str (pa_cons pe_str pa_nil))))) pa_nil))) pa_nil))) (pe_slice sl_tupU (pv 4) (po_some pe_int) po_none)))) (pss_one (ps_set (i := 4) scSp.nd rfl (Or.inl rfl) (pe_tup (pa_cons pe_str (pa_cons (pe_ix ix_list (pv 2) pe_int (fun _ _ => rfl)) (pa_cons (pe_ix ix_tup (pv 4) pe_int (fun _ _ => rfl)) pa_nil)))))))))
      (pss_one (ps_ret (pe_op op_catU (pe_op op_catU (pe_slice sl_tupU (pv 1) po_none (po_some (pv 3))) (pe_tup (pa_cons (pv 4) pa_nil))) (pe_slice sl_tupU (pv 1) (po_some (pe_op op_add (pv 3) pe_int)) po_none)))))))), ?_⟩
    have hd0 : (ws.map V.str)[0]? = some (.str (ws.headD Str.empty)) ∧ nameS (ws.headD Str.empty) = true := by
      cases ws with
      | nil => exact absurd w1 (by simp)
      | cons x xs => exact ⟨rfl, wn x List.mem_cons_self⟩
    obtain ⟨a, b, c, hp, ha⟩ := id hD
    refine ⟨_, rfl, _, rfl, L, _, rfl, hL.1, p, _, a, b, c, rfl, hp, ha, by rw [List.length_map]; omega, by rw [List.length_map]; omega, fun r x1 y1 z1 h1 h2 h3 => ?_⟩
    obtain ⟨at_, rfl⟩ : ∃ n : Nat, r = (n : Int) := ⟨r.toNat, (Int.toNat_of_nonneg h1).symm⟩
    rw [List.length_map] at h2
    have lt : at_ < rs.length := by omega
    have k1 : Keep p H (upd H p (.lst [.int x1, .int y1, .int z1])) := keep_upd
    have d1 : DiceAt (upd H p (.lst [.int x1, .int y1, .int z1])) p := .upd h3
    have L1 := hL.kp hp k1
    generalize upd H p (HO.lst [V.int x1, V.int y1, V.int z1]) = H1 at k1 d1 L1 ⊢
    obtain ⟨r, hr_⟩ : ∃ r, rs[at_]? = some r := ⟨rs[at_], List.getElem?_eq_getElem lt⟩
    have rm := List.mem_of_getElem? hr_
    have fr := fine r rm
    obtain ⟨a1, b1, c1, hp1, ha1⟩ := id d1
    refine ⟨_, rfl, _, rfl, L, _, _, _, rfl, rfl, L1.1, atI_nat (j := at_) (by rw [List.getElem?_map, hr_]; rfl), _, rfl, p, 3, a1, b1, c1, rfl, hp1, ha1, by decide, by decide, fun way x2 y2 z2 g1 g2 g3 => ?_⟩
    have k2 : Keep p H1 (upd H1 p (.lst [.int x2, .int y2, .int z2])) := keep_upd
    have d2 : DiceAt (upd H1 p (.lst [.int x2, .int y2, .int z2])) p := .upd g3
    have L2 := L1.kp hp1 k2
    have K2 := k1.trans k2
    generalize upd H1 p (HO.lst [V.int x2, V.int y2, V.int z2]) = H2 at d2 L2 K2 ⊢
    clear k1 k2 hp1 ha1 d1 L1
    have hl := L2.2 r rm
    refine ⟨_, _, rfl, ?_⟩
    by_cases eg : r.2.word = "go"
    · refine ⟨_, rfl, r.1, _, _, _, rfl, rfl, hl, atI_nat (j := 0) (ln_word r.2), rfl, true, congrArg V.bl (by rw [eg]; exact decide_eq_true rfl), iteT ?_⟩
      exact ⟨_, rfl, k H2 L rs K2 d2 L2 rfl fine⟩
    refine ⟨_, rfl, r.1, _, _, _, rfl, rfl, hl, atI_nat (j := 0) (ln_word r.2), rfl, false, congrArg V.bl (decide_eq_false fun e => eg (V.str.inj e)), iteF ?_⟩
    obtain ⟨wd, t, q, tl, mk, evs, newd, ltl, nt, nq, hmk⟩ := line_parts eg fr
    rw [evs] at hl
    have lvs : (V.str wd :: .str t :: .str q :: tl).length ≤ 4 := by simp only [List.length_cons]; omega
    have hW2 := K2 _ _ neW hW
    obtain ⟨a2, b2, c2, hp2, ha2⟩ := id d2
    refine ⟨_, rfl, rfl, _, rfl, ite2 (fun c0 => ?_) (fun c0 => ?_)⟩
    · refine ⟨_, rfl, r.1, _, _, _, rfl, rfl, hl, atI_nat (j := 0) rfl, _, rfl, (by show 4 ≤ sizeLine; decide), fun l1 n1 => ?_⟩
      have e1 := dice_ne d2 n1
      refine ⟨p, l1, _, rfl, dice_upd d2 e1, upd_same, e1, (by show 0 < 4; decide), (by show 4 < 1000; decide), fun i1 v1 xa xb xc hv1 hxa => ?_⟩
      obtain ⟨x, hx, rfl⟩ := pick_s (xs := strange) hv1
      have k3 : Keep p H2 (upd (upd H2 l1 (.lst [.str "items", .str "ite", .str "live", .str "new"])) p (.lst [.int xa, .int xb, .int xc])) := (keep_new n1).trans keep_upd
      have d3 : DiceAt (upd (upd H2 l1 (.lst [.str "items", .str "ite", .str "live", .str "new"])) p (.lst [.int xa, .int xb, .int xc])) p := .upd hxa
      generalize upd (upd H2 l1 (HO.lst [V.str "items", .str "ite", .str "live", .str "new"])) p (HO.lst [V.int xa, V.int xb, V.int xc]) = H3 at k3 d3 ⊢
      have L3 := L2.kp hp2 k3
      have K3 := K2.trans k3
      have hl3 := off_seq hp2 k3 hl
      refine ⟨(by show 2 ≤ sizeLine; decide), fun t4 n4 => ?_⟩
      have s4 := same_new (o := HO.tup [V.str wd, .str x]) n4
      have h4 : SqT K (upd H3 t4 (HO.tup [V.str wd, .str x])) t4 [V.str wd, .str x] := SqT.of upd_same
      generalize upd H3 t4 (HO.tup [V.str wd, .str x]) = H4 at s4 h4 ⊢
      refine ⟨_, rfl, _, rfl, r.1, _, rfl, sqT_up hl3 s4, fun q5 H5 s5 h5 => ?_⟩
      rw [show ((2 : Int)) = ((2 : Nat) : Int) from rfl, cut_from (by simp)] at h5
      refine ⟨_, _, _, _, rfl, rfl, sqT_up h4 s5, h5, by simp only [List.length_cons, List.length_nil, List.drop, sizeLine_eq]; omega, fun a5 H6 s6 h6 => ?_⟩
      have s36 := (s4.trans s5).trans s6
      obtain ⟨em, fm⟩ := hmk x q (strange_nm.1 x hx) nq
      have h5 : SqT K H6 a5 (mk x q).vs := by rw [em]; exact h6
      have f5 := fm
      have L5 := L3.up s36
      have K5 := K3.trans (same_keep s36)
      have d5 := dice_up d3 s36
      generalize mk x q = l5 at h5 f5
      generalize H6 = H5 at h5 L5 K5 d5 ⊢
      refine ⟨_, rfl, _, rfl, _, rfl, L, _, rfl, L5.1, fun q1 H6 s6 h6 => ?_⟩
      refine ⟨_, rfl, (by show 1 ≤ sizeLine; decide), fun t5 n5 => ?_⟩
      have s7 := same_new (o := HO.tup [V.ref a5]) n5
      have h7 : SqT K (upd H6 t5 (HO.tup [V.ref a5])) t5 [V.ref a5] := SqT.of upd_same
      generalize upd H6 t5 (HO.tup [V.ref a5]) = H7 at s7 h7 ⊢
      have lrs : (rs.map fun r => V.ref r.1).length = rs.length := List.length_map _
      rw [cut_to (by rw [lrs]; omega)] at h6
      refine ⟨_, _, _, _, rfl, rfl, sqT_up h6 s7, h7, by simp only [List.length_take, lrs, List.length_cons, List.length_nil, sizeLine_eq]; omega, fun q2 H8 s8 h8 => ?_⟩
      have s58 := (s6.trans s7).trans s8
      refine ⟨_, rfl, _, rfl, _, _, rfl, rfl, _, rfl, L, _, rfl, sqT_up L5.1 s58, fun q3 H9 s9 h9 => ?_⟩
      rw [show (at_ : Int) + 1 = ((at_ + 1 : Nat) : Int) by omega, cut_from (by rw [lrs]; omega)] at h9
      refine ⟨_, _, _, _, rfl, rfl, sqT_up h8 s9, h9, by simp only [List.length_append, List.length_take, List.length_drop, lrs, List.length_cons, List.length_nil, sizeLine_eq]; omega, fun q4 Hz sz hz => ?_⟩
      have st := (s58.trans s9).trans sz
      refine k Hz q4 (rs.take at_ ++ [(a5, l5)] ++ rs.drop (at_ + 1)) (K5.trans (same_keep st)) (dice_up d5 st) ⟨by rw [List.map_append, List.map_append, List.map_take, List.map_drop]; exact hz, fun r hr => ?_⟩ (by simp only [List.length_append, List.length_take, List.length_drop, List.length_cons, List.length_nil]; omega) fun r hr => ?_
      · rcases List.mem_append.mp hr with hr | hr
        · rcases List.mem_append.mp hr with hr | hr
          · exact sqT_up (L5.2 r (List.mem_of_mem_take hr)) st
          · rw [List.mem_singleton.mp hr]; exact sqT_up h5 st
        · exact sqT_up (L5.2 r (List.mem_of_mem_drop hr)) st
      · rcases List.mem_append.mp hr with hr | hr
        · rcases List.mem_append.mp hr with hr | hr
          · exact fine r (List.mem_of_mem_take hr)
          · rw [List.mem_singleton.mp hr]; exact f5
        · exact fine r (List.mem_of_mem_drop hr)
    refine ⟨_, rfl, rfl, _, rfl, ite2 (fun c1 => ?_) (fun c1 => ?_)⟩
    · refine ⟨_, rfl, _, rfl, r.1, _, rfl, hl, fun t4 H3 s3 h3 => ?_⟩
      rw [show ((2 : Int)) = ((2 : Nat) : Int) from rfl, cut_to (by simp)] at h3
      have d3 := dice_up d2 s3
      have L3 := L2.up s3
      have K3 := K2.trans (same_keep s3)
      have hl3 := sqT_up hl s3
      obtain ⟨a3, b3, c3, hp3, ha3⟩ := id d3
      refine ⟨_, rfl, (by show 4 ≤ sizeLine; decide), fun l1 n1 => ?_⟩
      have e1 := dice_ne d3 n1
      refine ⟨p, l1, _, rfl, dice_upd d3 e1, upd_same, e1, (by show 0 < 4; decide), (by show 4 < 1000; decide), fun i1 v1 xa xb xc hv1 hxa => ?_⟩
      obtain ⟨x, hx, rfl⟩ := pick_s (xs := strangeP) hv1
      have k4 : Keep p H3 (upd (upd H3 l1 (.lst [.str "liv", .str "lives", .str "item", .str "cold"])) p (.lst [.int xa, .int xb, .int xc])) := (keep_new n1).trans keep_upd
      have d4 : DiceAt (upd (upd H3 l1 (.lst [.str "liv", .str "lives", .str "item", .str "cold"])) p (.lst [.int xa, .int xb, .int xc])) p := .upd hxa
      generalize upd (upd H3 l1 (HO.lst [V.str "liv", .str "lives", .str "item", .str "cold"])) p (HO.lst [V.int xa, V.int xb, V.int xc]) = H4 at k4 d4 ⊢
      have L4 := L3.kp hp3 k4
      have K4 := K3.trans k4
      have hl4 := off_seq hp3 k4 hl3
      have h4 := off_seq hp3 k4 h3
      refine ⟨(by show 1 ≤ sizeLine; decide), fun t6 n6 => ?_⟩
      have s6 := same_new (o := HO.tup [V.str x]) n6
      have h6 : SqT K (upd H4 t6 (HO.tup [V.str x])) t6 [V.str x] := SqT.of upd_same
      generalize upd H4 t6 (HO.tup [V.str x]) = H6 at s6 h6 ⊢
      refine ⟨_, _, _, _, rfl, rfl, sqT_up h4 s6, h6, by simp only [List.length_cons, List.length_nil, List.take, sizeLine_eq]; omega, fun t7 H7 s7 h7 => ?_⟩
      have s47 := s6.trans s7
      refine ⟨_, rfl, _, rfl, r.1, _, rfl, sqT_up hl4 s47, fun q5 H8 s8 h8 => ?_⟩
      rw [show ((3 : Int)) = ((3 : Nat) : Int) from rfl, cut_from (by simp)] at h8
      refine ⟨_, _, _, _, rfl, rfl, sqT_up h7 s8, h8, by simp only [List.length_append, List.length_cons, List.length_nil, List.take, List.drop, sizeLine_eq]; omega, fun a5 H9 s9 h9 => ?_⟩
      have s49 := (s47.trans s8).trans s9
      obtain ⟨em, fm⟩ := hmk t x nt (strange_nm.2 x hx)
      have h5 : SqT K H9 a5 (mk t x).vs := by rw [em]; exact h9
      have f5 := fm
      have L5 := L4.up s49
      have K5 := K4.trans (same_keep s49)
      have d5 := dice_up d4 s49
      generalize mk t x = l5 at h5 f5
      generalize H9 = H5 at h5 L5 K5 d5 ⊢
      refine ⟨_, rfl, _, rfl, _, rfl, L, _, rfl, L5.1, fun q1 H6 s6 h6 => ?_⟩
      refine ⟨_, rfl, (by show 1 ≤ sizeLine; decide), fun t5 n5 => ?_⟩
      have s7 := same_new (o := HO.tup [V.ref a5]) n5
      have h7 : SqT K (upd H6 t5 (HO.tup [V.ref a5])) t5 [V.ref a5] := SqT.of upd_same
      generalize upd H6 t5 (HO.tup [V.ref a5]) = H7 at s7 h7 ⊢
      have lrs : (rs.map fun r => V.ref r.1).length = rs.length := List.length_map _
      rw [cut_to (by rw [lrs]; omega)] at h6
      refine ⟨_, _, _, _, rfl, rfl, sqT_up h6 s7, h7, by simp only [List.length_take, lrs, List.length_cons, List.length_nil, sizeLine_eq]; omega, fun q2 H8 s8 h8 => ?_⟩
      have s58 := (s6.trans s7).trans s8
      refine ⟨_, rfl, _, rfl, _, _, rfl, rfl, _, rfl, L, _, rfl, sqT_up L5.1 s58, fun q3 H9 s9 h9 => ?_⟩
      rw [show (at_ : Int) + 1 = ((at_ + 1 : Nat) : Int) by omega, cut_from (by rw [lrs]; omega)] at h9
      refine ⟨_, _, _, _, rfl, rfl, sqT_up h8 s9, h9, by simp only [List.length_append, List.length_take, List.length_drop, lrs, List.length_cons, List.length_nil, sizeLine_eq]; omega, fun q4 Hz sz hz => ?_⟩
      have st := (s58.trans s9).trans sz
      refine k Hz q4 (rs.take at_ ++ [(a5, l5)] ++ rs.drop (at_ + 1)) (K5.trans (same_keep st)) (dice_up d5 st) ⟨by rw [List.map_append, List.map_append, List.map_take, List.map_drop]; exact hz, fun r hr => ?_⟩ (by simp only [List.length_append, List.length_take, List.length_drop, List.length_cons, List.length_nil]; omega) fun r hr => ?_
      · rcases List.mem_append.mp hr with hr | hr
        · rcases List.mem_append.mp hr with hr | hr
          · exact sqT_up (L5.2 r (List.mem_of_mem_take hr)) st
          · rw [List.mem_singleton.mp hr]; exact sqT_up h5 st
        · exact sqT_up (L5.2 r (List.mem_of_mem_drop hr)) st
      · rcases List.mem_append.mp hr with hr | hr
        · rcases List.mem_append.mp hr with hr | hr
          · exact fine r (List.mem_of_mem_take hr)
          · rw [List.mem_singleton.mp hr]; exact f5
        · exact fine r (List.mem_of_mem_drop hr)
    · refine ⟨_, rfl, W, _, _, _, rfl, rfl, SqL.of hW2, atI_nat (j := 0) hd0.1, _, rfl, r.1, _, _, _, rfl, rfl, hl, atI_nat (j := 2) rfl, (by show 3 ≤ sizeLine; decide), fun a5 n5 => ?_⟩
      have s3 := same_new (o := HO.tup [V.str "look", .str (ws.headD Str.empty), .str q]) n5
      have h5 : SqT K (upd H2 a5 (HO.tup [V.str "look", .str (ws.headD Str.empty), .str q])) a5 (Ln.look (ws.headD Str.empty) q).vs := SqT.of upd_same
      have f5 : (Ln.look (ws.headD Str.empty) q).fine rs.length = true := by show (nameS (ws.headD Str.empty) && nameS q) = true; rw [hd0.2, nq]; rfl
      generalize upd H2 a5 (HO.tup [V.str "look", .str (ws.headD Str.empty), .str q]) = H5 at s3 h5 ⊢
      have L5 := L2.up s3
      have K5 := K2.trans (same_keep s3)
      have d5 := dice_up d2 s3
      generalize Ln.look (ws.headD Str.empty) q = l5 at h5 f5
      refine ⟨_, rfl, _, rfl, _, rfl, L, _, rfl, L5.1, fun q1 H6 s6 h6 => ?_⟩
      refine ⟨_, rfl, (by show 1 ≤ sizeLine; decide), fun t5 n5 => ?_⟩
      have s7 := same_new (o := HO.tup [V.ref a5]) n5
      have h7 : SqT K (upd H6 t5 (HO.tup [V.ref a5])) t5 [V.ref a5] := SqT.of upd_same
      generalize upd H6 t5 (HO.tup [V.ref a5]) = H7 at s7 h7 ⊢
      have lrs : (rs.map fun r => V.ref r.1).length = rs.length := List.length_map _
      rw [cut_to (by rw [lrs]; omega)] at h6
      refine ⟨_, _, _, _, rfl, rfl, sqT_up h6 s7, h7, by simp only [List.length_take, lrs, List.length_cons, List.length_nil, sizeLine_eq]; omega, fun q2 H8 s8 h8 => ?_⟩
      have s58 := (s6.trans s7).trans s8
      refine ⟨_, rfl, _, rfl, _, _, rfl, rfl, _, rfl, L, _, rfl, sqT_up L5.1 s58, fun q3 H9 s9 h9 => ?_⟩
      rw [show (at_ : Int) + 1 = ((at_ + 1 : Nat) : Int) by omega, cut_from (by rw [lrs]; omega)] at h9
      refine ⟨_, _, _, _, rfl, rfl, sqT_up h8 s9, h9, by simp only [List.length_append, List.length_take, List.length_drop, lrs, List.length_cons, List.length_nil, sizeLine_eq]; omega, fun q4 Hz sz hz => ?_⟩
      have st := (s58.trans s9).trans sz
      refine k Hz q4 (rs.take at_ ++ [(a5, l5)] ++ rs.drop (at_ + 1)) (K5.trans (same_keep st)) (dice_up d5 st) ⟨by rw [List.map_append, List.map_append, List.map_take, List.map_drop]; exact hz, fun r hr => ?_⟩ (by simp only [List.length_append, List.length_take, List.length_drop, List.length_cons, List.length_nil]; omega) fun r hr => ?_
      · rcases List.mem_append.mp hr with hr | hr
        · rcases List.mem_append.mp hr with hr | hr
          · exact sqT_up (L5.2 r (List.mem_of_mem_take hr)) st
          · rw [List.mem_singleton.mp hr]; exact sqT_up h5 st
        · exact sqT_up (L5.2 r (List.mem_of_mem_drop hr)) st
      · rcases List.mem_append.mp hr with hr | hr
        · rcases List.mem_append.mp hr with hr | hr
          · exact fine r (List.mem_of_mem_take hr)
          · rw [List.mem_singleton.mp hr]; exact f5
        · exact fine r (List.mem_of_mem_drop hr)
end
end Rd

/-! Lines with other names of tables -/
namespace Rd
open PySem PySem.Spec PyProof.Rows L2 Tq Dn Dc Mk2
def plainL (l : Ln) : Bool := decide (l.word = "go")
def lnT (f : Str → Str) : Ln → Ln
  | .go n => .go n
  | .ift t p n => .ift (f t) p n
  | .look t p => .look (f t) p
  | .read t p => .read (f t) p
theorem plain_w : plainL (.go 0) = true ∧ (∀ t p n, plainL (.ift t p n) = false) ∧ (∀ t p, plainL (.look t p) = false) ∧ ∀ t p, plainL (.read t p) = false :=
  ⟨by decide +kernel, fun _ _ _ => (show decide (("if" : Str) = "go") = false by decide +kernel), fun _ _ => (show decide (("look" : Str) = "go") = false by decide +kernel), fun _ _ => (show decide (("read" : Str) = "go") = false by decide +kernel)⟩
theorem good_of {ws ps : List Str} {m : Nat} {l : Ln} (h : Ln.of ws ps m l) : goodL ws ps l = true := by
  have c : ∀ {x : Str} {l : List Str}, x ∈ l → l.contains x = true := fun h => List.contains_iff_mem.mpr h
  cases l with
  | go n => rfl
  | ift t p n => show (ws.contains t && ps.contains p) = true; rw [c h.1, c h.2.1]; rfl
  | look t p => show ((ws.contains t && ps.contains p) && !decide (t = ws.headD Str.empty)) = true; rw [c h.1, c h.2.1, decide_eq_false h.2.2]; rfl
  | read t p => show (ws.contains t && ps.contains p) = true; rw [c h.1, c h.2]; rfl
theorem fine_of {ws ps : List Str} {m : Nat} {l : Ln} (h : Ln.of ws ps m l) (hw : ∀ x ∈ ws, nameS x = true) (hp : ∀ x ∈ ps, nameS x = true) : l.fine m = true := by
  cases l with
  | go n => exact decide_eq_true h
  | ift t p n => show (nameS t && (nameS p && decide (n ≤ m))) = true; rw [hw t h.1, hp p h.2.1, decide_eq_true h.2.2]; rfl
  | look t p => show (nameS t && nameS p) = true; rw [hw t h.1, hp p h.2.1]; rfl
  | read t p => show (nameS t && nameS p) = true; rw [hw t h.1, hp p h.2]; rfl
theorem fine_turn {ws ps : List Str} {m : Nat} {l : Ln} {f : Str → Str} (h : Ln.of ws ps m l) (hw : ∀ x ∈ ws, nameS (f x) = true) (hp : ∀ x ∈ ps, nameS x = true) : (lnT f l).fine m = true := by
  cases l with
  | go n => exact decide_eq_true h
  | ift t p n => show (nameS (f t) && (nameS p && decide (n ≤ m))) = true; rw [hw t h.1, hp p h.2.1, decide_eq_true h.2.2]; rfl
  | look t p => show (nameS (f t) && nameS p) = true; rw [hw t h.1, hp p h.2.1]; rfl
  | read t p => show (nameS (f t) && nameS p) = true; rw [hw t h.1, hp p h.2]; rfl
theorem head_map {ws : List Str} (f : Str → Str) (lo : 1 ≤ ws.length) : (ws.map f).headD Str.empty = f (ws.headD Str.empty) ∧ ws.headD Str.empty ∈ ws := by
  cases ws with
  | nil => exact absurd lo (by simp)
  | cons x xs => exact ⟨rfl, List.mem_cons_self⟩
theorem good_turn {ws ps : List Str} {m : Nat} {l : Ln} {f : Str → Str} (lo : 1 ≤ ws.length) (inj : ∀ a ∈ ws, ∀ b ∈ ws, f a = f b → a = b) (h : Ln.of ws ps m l) : goodL (ws.map f) ps (lnT f l) = true := by
  have c : ∀ {x : Str} {l : List Str}, x ∈ l → l.contains x = true := fun h => List.contains_iff_mem.mpr h
  have cf : ∀ {x : Str}, x ∈ ws → (ws.map f).contains (f x) = true := fun h => c (List.mem_map_of_mem h)
  cases l with
  | go n => rfl
  | ift t p n => show ((ws.map f).contains (f t) && ps.contains p) = true; rw [cf h.1, c h.2.1]; rfl
  | look t p =>
    show (((ws.map f).contains (f t) && ps.contains p) && !decide (f t = (ws.map f).headD Str.empty)) = true
    obtain ⟨e, hm⟩ := head_map f lo
    rw [cf h.1, c h.2.1, e, decide_eq_false (fun z => h.2.2 (inj _ h.1 _ hm z))]; rfl
  | read t p => show ((ws.map f).contains (f t) && ps.contains p) = true; rw [cf h.1, c h.2]; rfl
theorem nocon {x : Str} {l : List Str} (h : x ∉ l) : l.contains x = false := by
  cases e : l.contains x with
  | false => rfl
  | true => exact absurd (List.contains_iff_mem.mp e) h
theorem strange_turn {ws ps : List Str} {m : Nat} {l : Ln} {f : Str → Str} (no : ∀ a ∈ ws, f a ∉ ws) (h : Ln.of ws ps m l) : goodL ws ps (lnT f l) = plainL l := by
  cases l with
  | go n => exact plain_w.1.symm
  | ift t p n => rw [plain_w.2.1]; show (ws.contains (f t) && ps.contains p) = false; rw [nocon (no t h.1)]; rfl
  | look t p => rw [plain_w.2.2.1]; show ((ws.contains (f t) && ps.contains p) && _) = false; rw [nocon (no t h.1)]; rfl
  | read t p => rw [plain_w.2.2.2]; show (ws.contains (f t) && ps.contains p) = false; rw [nocon (no t h.1)]; rfl
theorem strange_of {ws ps : List Str} {m : Nat} {l : Ln} {f : Str → Str} (no : ∀ a ∈ ws, a ∉ ws.map f) (h : Ln.of ws ps m l) : goodL (ws.map f) ps l = plainL l := by
  cases l with
  | go n => exact plain_w.1.symm
  | ift t p n => rw [plain_w.2.1]; show ((ws.map f).contains t && ps.contains p) = false; rw [nocon (no t h.1)]; rfl
  | look t p => rw [plain_w.2.2.1]; show (((ws.map f).contains t && ps.contains p) && _) = false; rw [nocon (no t h.1)]; rfl
  | read t p => rw [plain_w.2.2.2]; show ((ws.map f).contains t && ps.contains p) = false; rw [nocon (no t h.1)]; rfl
theorem all_cong {α : Type} {f g : α → Bool} : ∀ {l : List α}, (∀ x ∈ l, f x = g x) → l.all f = l.all g
  | [], _ => rfl
  | x :: l, h => by rw [List.all_cons, List.all_cons, h x List.mem_cons_self, all_cong fun y hy => h y (.tail _ hy)]
theorem rd_ok {rs : RowsL} (few : rs.length ≤ 6) (fine : ∀ r ∈ rs, r.2.fine rs.length = true) : RdOk rs := by
  refine ⟨by omega, fine, fun ps hA => ?_⟩
  have h1 := asc_few hA
  have h2 := keys_few (ws := ["if"]) (ls := lnsOf rs)
  rw [List.length_map] at h2
  exact Nat.le_trans h1 (Nat.le_trans h2 few)
/-- the new names of the law -/
def tN (w : Str) : Str := ("t" : Str) ++ w
abbrev gN (ws : List Str) : List (Str × Str) := ws.map fun w => (w, tN w)
structure TurnOk (ws : List Str) : Prop where
  ok : GivenOk ws (gN ws)
  new : ∀ w ∈ ws, newOf (gN ws) w = tN w
  inj : ∀ a ∈ ws, ∀ b ∈ ws, tN a = tN b → a = b
  no : ∀ a ∈ ws, tN a ∉ ws
  no2 : ∀ a ∈ ws, a ∉ ws.map tN
  nm : ∀ a ∈ ws, nameS (tN a) = true
  sz : ∀ a ∈ ws, (1 : Nat) + a.length ≤ sizeLine
theorem turn_ok : ∀ n, n < 3 → TurnOk (T3.take (n + 1)) := by
  intro n h
  have : n = 0 ∨ n = 1 ∨ n = 2 := by omega
  rcases this with rfl | rfl | rfl <;> exact ⟨⟨by decide +kernel, by decide +kernel, by decide +kernel, by decide +kernel, by decide +kernel⟩, by decide +kernel, by decide +kernel, by decide +kernel, by decide +kernel, by decide +kernel, by decide +kernel⟩
end Rd

namespace Om
open PySem PySem.Spec PyProof.Rows L2 Ox
/-- what several clauses, with the name of the slot i or none, wish of an exception -/
def wAll (K : PySem.W.Frag) (i : Nat) (Wout : WX) (D : Ends) : List (Value × Bool × (Addr → Value → Option Addr → TS)) → WX
  | [] => Wout
  | (c, nm, ts) :: r => fun cls d σ H => ∃ b, PySem.W.exmOne K cls c = some b ∧ (b = true → ∀ a, H a = none → if nm = true then ts a cls d (gone i D) (σ.set i (some (.ref a))) H else ts a cls d D σ H) ∧ (b = false → wAll K i Wout D r cls d σ H)
inductive Clauses (X : Cx) (n : Str) : List ExceptHandler → List (Value × Bool × (Addr → Value → Option Addr → TS)) → Prop
  | nil : Clauses X n [] []
  | cons {x : Str} {c : Value} {ts : Addr → Value → Option Addr → TS} {b₀ : Stmt} {su : List Stmt} {np pos' : Pos} {hds : List ExceptHandler} {l : List (Value × Bool × (Addr → Value → Option Addr → TS))} (hc : Names X x c)
      (hsu : ∀ (a : Addr) (oe : Obj) (cls : Value) (d : Option Addr) (pn : List (Addr × Obj)), L2N.Zn cls d oe → (∃ vs, oe.data = .fields vs) → PSs (X.suite a ((a, oe) :: pn)) (b₀ :: su) (ts a cls d)) (r : Clauses X n hds l) : Clauses X n (.ExceptHandler (some (.Name x np)) (some n) (b₀ :: su) pos' :: hds) ((c, true, ts) :: l)
  | bare {x : Str} {c : Value} {ts : Addr → Value → Option Addr → TS} {b₀ : Stmt} {su : List Stmt} {np pos' : Pos} {hds : List ExceptHandler} {l : List (Value × Bool × (Addr → Value → Option Addr → TS))} (hc : Names X x c)
      (hsu : ∀ (a : Addr) (oe : Obj) (cls : Value) (d : Option Addr) (pn : List (Addr × Obj)), L2N.Zn cls d oe → (∃ vs, oe.data = .fields vs) → PSs (X.suite a ((a, oe) :: pn)) (b₀ :: su) (ts a cls d)) (r : Clauses X n hds l) : Clauses X n (.ExceptHandler (some (.Name x np)) none (b₀ :: su) pos' :: hds) ((c, false, ts) :: l)
section
variable {X : Cx} {n : Str} {i : Nat} {body : List Stmt} {h₀ : ExceptHandler} {hds : List ExceptHandler} {l : List (Value × Bool × (Addr → Value → Option Addr → TS))} {pos : Pos} {tb : WX → TS} {Wout : WX}
theorem ps_try_mix (hs : X.stack = X.env :: X.outer) (hf : X.env.frame = some X.env.locals) (hN : X.N.Nodup) (hi : X.N[i]? = some n) (hln : X.env.kindOf n = some .local) (tk : L2N.Takes X Wout)
    (hb : ∀ (W : WX) (pn : List (Addr × Obj)) (xe : Value → Shared → Prop), L2N.Takes (X.tr pn xe) W → PassesOwn (model X.prog X.w) X.A X.env xe → PSs (X.tr pn xe) body (tb W))
    (hh : Clauses X n (h₀ :: hds) l) : PS X (.Try body (h₀ :: hds) [] [] pos) (fun D σ H => tb (wAll X.K i Wout D l) D σ H) := by
  refine ⟨fun pins s σ H D I h => ?_⟩; have ok := I.ok; have hfr : X.A.frames = some (X.env :: X.outer) := by (rw [ok.frames, hs])
  have hloc : Loc X.env.scope n := .inl hln; refine wpAny_Try_except ?_
  refine wpAny_mono ((hb (wAll X.K i Wout D l) (X.pn ++ pins) (fun e s₁ => wpAny (model X.prog X.w) X.A (noteFrame e X.env) (fun _ s₂ => wpAny (model X.prog X.w) X.A (setFlight e none) (fun _ s₃ => wpAny (model X.prog X.w) X.A (handleBy e X.env (h₀ :: hds)) (SP X pins D) X.xe s₃) X.xe s₂) X.xe s₁)
    (fun u s' xx => ?_) PassesOwn.looking).run [] s σ H D (I.toTry _) h) (fun fl s1 hsp => ?_) (fun e s1 he => he)
  · obtain ⟨a, B, sI, pins', σ', H', cls, d, rfl, J', nb, up, sky, na, os, ag, w⟩ := xx; have J : Inv X pins σ' H' sI := J'.ofTry ok
    have sky' : Sky B (X.env :: X.outer) a (L2N.Zn cls d) X.env.locals s'.heap := by (rw [← hs]; exact sky)
    show wpAny (model X.prog X.w) X.A (noteFrame (.ref a) X.env) _ _ _; refine L2N.Sky.land L2N.Zn.steady hfr hf sky' fun h3 fl3 up3 => ?_
    have J3 : Inv X pins σ' H' { s' with heap := h3 } := J.landed nb fl3.1 (up.trans up3) os ag; obtain ⟨oe3, vs3, he3, hz3, hd3⟩ := fl3.there
    have nfr : a ∉ frs (X.env :: X.outer) := fun hm => by
      obtain ⟨_, o', e', hnf⟩ := fl3.2.2.1.mem hm
      rw [he3] at e'; cases e'; exact hnf _ hd3
    have nL : a ≠ X.env.locals := fun z => nfr (List.mem_filterMap.mpr ⟨X.env, List.mem_cons_self, by (rw [hf, z])⟩)
    have nF : a ∉ X.fs := fun hm => by
      obtain ⟨e, he, q⟩ := List.mem_filterMap.mp hm
      exact nfr (List.mem_filterMap.mpr ⟨e, List.mem_cons_of_mem _ he, q⟩)
    have S3 := J3.suite he3 hd3 na nL nF
    have LT : PySem.W.Looks (model X.prog X.w) h3 (typeOf (.ref a)) cls := fun A Q E s k q => wpAny_typeOf_ref (k _ _ he3) (by (rw [hz3.1]; exact q))
    have go : ∀ {hds' : List ExceptHandler} {l' : List (Value × Bool × (Addr → Value → Option Addr → TS))}, Clauses X n hds' l' → wAll X.K i Wout D l' cls d σ' H' → wpAny (model X.prog X.w) X.A (handleBy (.ref a) X.env hds') (SP X pins D) X.xe { s' with heap := h3 } := by
      intro hds' l' hk
      induction hk with
      | nil =>
        intro w; refine wpAny_handleBy_nil ?_; obtain ⟨k1, k2, k3, oe, vs, T, oT, ts', he, hz, hd, h1, hr⟩ := id fl3; unfold PySem.passOn
        refine wpAny_bind (wpAny_field he hd h1 ?_); rw [if_neg (show ¬ ((Value.ref T == Value.none) = true) from by simp)]
        have fin : wpAny (model X.prog X.w) X.A (setFlight (.ref a) X.env.frame) (fun _ s4 => wpAny (model X.prog X.w) X.A (throw (.ref a) : Sem Flow) (SP X pins D) X.xe s4) X.xe { s' with heap := h3 } := by
          rw [hf]; refine PySem.HandSPX.setFlight_upZ fl3 fun h4 hh4 up4 => wpAny_throw (tk _ _ ?_)
          exact ⟨a, B, sI, pins, σ', H', cls, d, rfl, J, nb, (up.trans up3).trans up4, .inr (.inr (by (rw [hs]; exact hh4))), na, os, ag, w⟩
        first | exact wpAny_bind (wpAny_pure (wpAny_bind fin)) | exact wpAny_bind fin
      | @cons x c ts b₀ su np pos' hds2 l2 hc hsu r ih =>
        intro w; obtain ⟨b, hb1, hyes, hno⟩ := w; refine wpAny_handleBy_cons (codeAny_handlers_test ?_) (by intro q; cases q)
        have LM := PySem.W.exm_one (M := model X.prog X.w) (J3.kIn) LT hb1
        have test : ∀ {Q : Value → Shared → Prop} {E : Value → Shared → Prop}, Q c { s' with heap := h3 } → wpAny (model X.prog X.w) (X.A.mark (some (.ref a))) (eval (.Name x np) X.env) Q E { s' with heap := h3 } := fun {Q E} q => by
          obtain ⟨hg, hdbg, hm | ⟨hm, hv, hnn⟩⟩ := hc
          · exact ld_glob (X := X.suite a ((a, oe3) :: (X.pn ++ pins))) S3 hg hm q hdbg
          · exact ld_blt (X := X.suite a ((a, oe3) :: (X.pn ++ pins))) S3 hg hm hv q hnn hdbg
        refine test (LM.here ?_)
        cases b with
        | false => show wpAny _ X.A (handleBy (.ref a) X.env hds2) _ _ _; exact ih (hno rfl)
        | true =>
          refine codeAny_handlers_suite_as ?_; refine PySem.HandSPX.lands_againZ fl3 fun h4 fl4 up4 => ?_
          have J4 : Inv X pins σ' H' { s' with heap := h4 } := J.landed nb fl4.1 ((up.trans up3).trans up4) os ag; obtain ⟨oe4, vs4, he4, hz4, hd4⟩ := fl4.there
          have S4 := J4.suite he4 hd4 na nL nF; refine store_ok (X := X.suite a ((a, oe4) :: (X.pn ++ pins))) (v := .ref a) S4 hN hi hloc rfl (fun s5 S5 => ?_) (.inr hln)
          refine wpAny_mono ((hsu a oe4 cls d (X.pn ++ pins) hz4 ⟨_, hd4⟩).run [] s5 _ H' _ S5 (hyes rfl a na)) (fun fl s6 hsp => ?_) (fun _ _ z => False.elim z)
          have end_ : ∀ {σ6 : L2.St} {H6 : Hp} {Q : Shared → Prop}, Inv (X.suite a ((a, oe4) :: (X.pn ++ pins))) [] σ6 H6 s6 → (∀ s7, Inv X pins (σ6.set i none) H6 s7 → Q s7) →
              wpAny (model X.prog X.w) X.A (do bindName X.env n .none; unbindBehindTheSuite X.env n pos') (fun _ s7 => Q s7) X.xe s6 := fun {σ6 H6 Q} S6 hq => gone_ok (S6.unsuite ok) hN hi hln hq
          cases fl with
          | next => obtain ⟨σ6, H6, S6, q6⟩ := hsp; exact end_ S6 fun s7 J7 => ⟨_, _, J7, q6⟩
          | brk => obtain ⟨σ6, H6, S6, q6⟩ := hsp; exact end_ S6 fun s7 J7 => ⟨_, _, J7, q6⟩
          | cont => obtain ⟨σ6, H6, S6, q6⟩ := hsp; exact end_ S6 fun s7 J7 => ⟨_, _, J7, q6⟩
          | ret u => obtain ⟨v6, σ6, H6, S6, r6, q6⟩ := hsp; exact end_ S6 fun s7 J7 => ⟨_, _, _, J7, r6, q6⟩
      | @bare x c ts b₀ su np pos' hds2 l2 hc hsu r ih =>
        intro w; obtain ⟨b, hb1, hyes, hno⟩ := w; refine wpAny_handleBy_cons (codeAny_handlers_test ?_) (by intro q; cases q)
        have LM := PySem.W.exm_one (M := model X.prog X.w) (J3.kIn) LT hb1
        have test : ∀ {Q : Value → Shared → Prop} {E : Value → Shared → Prop}, Q c { s' with heap := h3 } → wpAny (model X.prog X.w) (X.A.mark (some (.ref a))) (eval (.Name x np) X.env) Q E { s' with heap := h3 } := fun {Q E} q => by
          obtain ⟨hg, hdbg, hm | ⟨hm, hv, hnn⟩⟩ := hc
          · exact ld_glob (X := X.suite a ((a, oe3) :: (X.pn ++ pins))) S3 hg hm q hdbg
          · exact ld_blt (X := X.suite a ((a, oe3) :: (X.pn ++ pins))) S3 hg hm hv q hnn hdbg
        refine test (LM.here ?_)
        cases b with
        | false => show wpAny _ X.A (handleBy (.ref a) X.env hds2) _ _ _; exact ih (hno rfl)
        | true =>
          refine codeAny_handlers_suite ?_
          refine PySem.HandSPX.lands_againZ fl3 fun h4 fl4 up4 => ?_
          have J4 : Inv X pins σ' H' { s' with heap := h4 } := J.landed nb fl4.1 ((up.trans up3).trans up4) os ag; obtain ⟨oe4, vs4, he4, hz4, hd4⟩ := fl4.there
          have S4 := J4.suite he4 hd4 na nL nF
          refine wpAny_mono ((hsu a oe4 cls d (X.pn ++ pins) hz4 ⟨_, hd4⟩).run [] _ σ' H' _ S4 (hyes rfl a na)) (fun fl s6 hsp => ?_) (fun _ _ z => False.elim z)
          cases fl with
          | next => obtain ⟨σ6, H6, S6, q6⟩ := hsp; exact ⟨_, _, S6.unsuite ok, q6⟩
          | brk => obtain ⟨σ6, H6, S6, q6⟩ := hsp; exact ⟨_, _, S6.unsuite ok, q6⟩
          | cont => obtain ⟨σ6, H6, S6, q6⟩ := hsp; exact ⟨_, _, S6.unsuite ok, q6⟩
          | ret u => obtain ⟨v6, σ6, H6, S6, r6, q6⟩ := hsp; exact ⟨_, _, _, S6.unsuite ok, r6, q6⟩
    exact go hh w
  · cases fl with
    | next => obtain ⟨σ', H', J', q⟩ := hsp; exact wpAny_execs_nil ⟨σ', H', J'.ofTry ok, q⟩
    | brk => obtain ⟨σ', H', J', q⟩ := hsp; exact ⟨σ', H', J'.ofTry ok, q⟩
    | cont => obtain ⟨σ', H', J', q⟩ := hsp; exact ⟨σ', H', J'.ofTry ok, q⟩
    | ret u => obtain ⟨v, σ', H', J', r, q⟩ := hsp; exact ⟨v, σ', H', J'.ofTry ok, r, q⟩
end
end Om

/-! Whether drawn readers fit a drawn mover just if they should -/
namespace Rd
open PySem PySem.Spec PyProof.Rows L2 Tq Dn Dc Mk2
theorem takesN0 {X : Cx} : L2N.Takes X (fun _ _ _ _ => False) := fun _ _ x => by
  obtain ⟨_, _, _, _, _, _, _, _, _, _, _, _, _, _, _, _, z⟩ := x; exact z.elim
section
variable {X : Cx} {n : Str} {i : Nat} {body : List Stmt} {h₀ : ExceptHandler} {hds : List ExceptHandler} {l : List (Value × Bool × (Addr → Value → Option Addr → TS))} {pos : Pos} {t : XK → TS} {Wout : WX}
/-- try: what may be raised is chosen as E, whatever the names hold then -/
theorem ps_tryE (hs : X.stack = X.env :: X.outer) (hf : X.env.frame = some X.env.locals) (hN : X.N.Nodup) (hi : X.N[i]? = some n) (hln : X.env.kindOf n = some .local) (tk : L2N.Takes X Wout)
    (hb : ∀ (E : XK) (W : WX) (pn : List (Addr × Obj)) (xe : Value → Shared → Prop), L2N.Takes (X.tr pn xe) W → (∀ cls d σ H, E cls d H → W cls d σ H) → PSs (X.tr pn xe) body (t E))
    (hh : Om.Clauses X n (h₀ :: hds) l) : PS X (.Try body (h₀ :: hds) [] [] pos) (fun D σ H => ∃ E : XK, (∀ cls d σ' H', E cls d H' → Om.wAll X.K i Wout D l cls d σ' H') ∧ t E D σ H) :=
  Om.ps_try_mix (tb := fun W D σ H => ∃ E : XK, (∀ cls d σ' H', E cls d H' → W cls d σ' H') ∧ t E D σ H) hs hf hN hi hln tk (fun W pn xe tk _ => ⟨fun pins s σ H D I ⟨E, hE, h⟩ => (hb E W pn xe tk hE).run pins s σ H D I h⟩) hh
theorem call_reprB : CallR X (.builtin "repr") (fun xs H Q => ∃ b, xs = [.bl b] ∧ Q (.str (if b then "True" else "False")) H) := by
  intro pins s σ H xs us Q I r h
  obtain ⟨b, rfl, q⟩ := h
  obtain ⟨u, rfl, ru⟩ := vals1 r
  cases (show u = Value.bool b from ru)
  exact PySem.P.repr_of_bool ⟨.str _, H, I.tok _, ⟨_, by cases b <;> rfl⟩, q⟩
end
theorem mv_off {K : PySem.W.Frag} {C p m : Addr} {H H' : Hp} {xs : List V} {ps : List Str} {ts : List Tb} {bs : List Prs} (hp : H p = some (.lst xs)) (k : Keep p H H') (h : MvAt K C H m ps ts bs) : MvAt K C H' m ps ts bs :=
  let ⟨dx, Pa, T, L, S, B, J, ds, ss, qs, a, b, c, d, e, f, g, i, j, l⟩ := h
  ⟨dx, Pa, T, L, S, B, J, ds, ss, qs, k _ _ (fun z => by rw [z, hp] at a; cases a) a, off_seq hp k b, off_seq hp k c, ⟨off_seq hp k d.1, fun x hx => pl_off hp k (d.2 x hx)⟩, e, ⟨off_seq hp k f.1, fun x hx => pairs_off hp k (f.2 x hx)⟩, g, ⟨off_seq hp k i.1, fun x hx => pairs_off hp k (i.2 x hx)⟩, j, pairs_off hp k l⟩
theorem merge_tx : ∀ {gs es : List (Str × Str)}, (es.map Prod.fst ++ gs.map Prod.fst).Nodup → mergeK (es.map prT) (gs.map prT) = (es ++ gs).map prT
  | [], es, _ => by rw [List.append_nil]; rfl
  | (n, y) :: gs, es, nd => by
    have h : n ∉ es.map Prod.fst := fun z => by
      rw [List.nodup_append] at nd
      exact nd.2.2 n z n List.mem_cons_self rfl
    show mergeK (putK (es.map prT) (Sum.inr n : Key) (.str y)) (gs.map prT) = _
    rw [put_tx h, merge_tx (by rw [List.map_append, List.append_assoc]; exact nd), List.append_assoc]; rfl
theorem lst_shaped {ls : List Ln} (z : ∀ l ∈ ls, l.safe) : SeqAt.shaped (.list (ls.map Ln.d)) = true := by
  have h1 := lns_depth ls
  have h2 : PyData.depth (.list (ls.map Ln.d)) ≤ 64 := by simp only [PyData.depth]; omega
  show (PyData.canLay0 (.list (ls.map Ln.d)) && decide (PyData.depth (.list (ls.map Ln.d)) ≤ 64)) = true
  rw [Bool.and_eq_true]
  exact ⟨by simp only [PyData.canLay0]; exact lns_lay ls z, decide_eq_true h2⟩
theorem lst_none (ls : List Ln) : PyData.eqv (.list (ls.map Ln.d)) (.list []) = ls.isEmpty := by
  simp only [PyData.eqv]
  cases ls with
  | nil => simp [PyData.eqvAll]
  | cons l ls => simp [PyData.eqvAll]
theorem plain_none (ls : List Ln) : (ls.filter fun l => !plainL l).isEmpty = ls.all plainL := by
  induction ls with
  | nil => rfl
  | cons l ls ih =>
    rw [List.all_cons]
    cases e : plainL l with
    | true => rw [List.filter_cons_of_neg (by rw [e]; decide), ih]; rfl
    | false => rw [List.filter_cons_of_pos (by rw [e]; rfl)]; rfl
theorem eqv_b3 (b : Bool) : PyData.eqv (.list [.bool true, .bool b, .bool b]) (.list [.bool true, .bool b, .bool b]) = true := by cases b <;> simp [PyData.eqv, PyData.eqvAll]
theorem sh_b3 (a b c : Bool) : SeqAt.shaped (.list [.bool a, .bool b, .bool c]) = true := by cases a <;> cases b <;> cases c <;> decide +kernel
theorem mv_no2 {Pa T L S B J : Addr} : (mvF Pa T L S B J).lookup ("renamed" : Str) = none := by
  unfold mvF; rw [lk_ne (by decide +kernel), lk_ne (by decide +kernel), lk_ne (by decide +kernel), lk_ne (by decide +kernel), lk_ne (by decide +kernel), lk_ne (by decide +kernel)]; rfl
/-- what is drawn stands -/
structure Bd (K : PySem.W.Frag) (C p W Pa m : Addr) (ws ps : List Str) (us : List Tb) (cs : List Prs) (H : Hp) : Prop where
  di : DiceAt H p
  wd : H W = some (.lst (ws.map V.str))
  pa : SqT K H Pa (ps.map V.str)
  mv : Mvd K C H m ws ps us cs
theorem Bd.up {K : PySem.W.Frag} {C p W Pa m : Addr} {ws ps : List Str} {us : List Tb} {cs : List Prs} {H H' : Hp} (h : Bd K C p W Pa m ws ps us cs H) (s : Same H H') : Bd K C p W Pa m ws ps us cs H' := ⟨dice_up h.di s, s _ _ h.wd, sqT_up h.pa s, h.mv.up s⟩
theorem Bd.kp {K : PySem.W.Frag} {C p W Pa m : Addr} {ws ps : List Str} {us : List Tb} {cs : List Prs} {H H' : Hp} (ne : W ≠ p) (h : Bd K C p W Pa m ws ps us cs H) (k : Keep p H H') (d : DiceAt H' p) : Bd K C p W Pa m ws ps us cs H' :=
  let ⟨_, _, _, hp, _⟩ := h.di
  ⟨d, k _ _ ne h.wd, off_seq hp k h.pa, ⟨mv_off hp k h.mv.at_, h.mv.parts, h.mv.tbs, h.mv.nms, h.mv.bs, h.mv.two⟩⟩
theorem lines_kp {K : PySem.W.Frag} {H H' : Hp} {p L : Addr} {rs : RowsL} (d : DiceAt H p) (k : Keep p H H') (h : LinesAt K H L rs) : LinesAt K H' L rs := let ⟨_, _, _, hp, _⟩ := d; h.kp hp k
structure TxRt (K : PySem.W.Frag) (mg : Str → Option Value) (P : Program) (w : World) (base : Heap) (C CM CI : Addr) : Prop extends TxE3 K mg P w base CM, TxR0 K mg P w base C where
  mv : Has P w K mg base "_law_mover" 10 ["_law_dice_here"] (spMv K CM)
  ln : Has P w K mg base "_law_line" 3 ["_law_dice_here", "_law_words", "_law_parts", "_law_size"] (spLn K)
  ri : Has P w K mg base "_law_is_right" 1 ["_law_words", "_law_parts", "_law_lines"] (spRi K)
  sp : Has P w K mg base "_law_spoilt" 3 ["_law_dice_here", "_law_lines", "_law_words"] (spSp K)
  rof : HasC P w K mg base C "of" 7 (spOf K C)
  fits : ∃ f fd, Meth K C "fits" f ∧ Binds K fd ["self", "mover"] [] ∧ FnOk P w K mg base (L2N.CX P w) 7 f fd ["self", "mover"] (spFits K C CM CI)
  ren : ∃ (f : Addr) (fd : FuncData) (g : List Value → List Value → List Value), Meth K CM "renamed" f ∧ KBn K fd ["self", "parts", "tables"] 1 ["tables"] g (fun vs zs => vs ++ ([.non] ++ zs)) ∧ FnOk P w K mg base CX0 10 f fd ["self", "parts", "tables"] (spRen K CM)
  clM : Cls K CM
  iM : TxI K CM
  iR : TxI K C
  noR : PySem.W.kitOne K (.ref C) (.ref CM) = some false
  eII : PySem.W.exmOne K (.ref CI) (.ref CI) = some true
  gI : mg "InvalidMover" = some (.ref CI)
def spRt (K : PySem.W.Frag) : Sp := fun vs H Q _ => ∃ p, vs = [.ref p] ∧ DiceAt H p ∧ ∀ H', Keep p H H' → DiceAt H' p → Q (.bl true) H'
def sz6 : List Nat := [0, 1, 2, 3, 5, 6]
section
variable {P : Program} {w : World} {K : PySem.W.Frag} {mg : Str → Option Value} {base : Heap}
abbrev nRt : List Str := ["_law_dice_here", "_law_parts", "_law_words", "_law_mover_here", "_law_size", "_law_lines", "_law_other", "_law_fresh", "_law_turned", "_law_told", "_law_plain", "_law_turn", "_law_word", "_law_line_here"]
theorem scRt : FnScope nRt ["_law_dice_here"] (defScope sRt) := ⟨rfl, rfl, rfl, by decide +kernel, rfl, by decide +kernel, by decide +kernel⟩
def rAddS : R2 := fun x y H Q => ∃ i j, x = .str i ∧ y = .str j ∧ i.length + j.length ≤ sizeLine ∧ Q (.str (i ++ j)) H
theorem ok_rt {C CM CI f : Addr} {fd : FuncData} (F : Fun K "_law_right" "_law_right" sRt f fd) (T : TxRt K mg P w base C CM CI) : FnOk P w K mg base CX0 11 f fd ["_law_dice_here"] (spRt K) := by
  obtain ⟨fM, dM, mM, kM, bM, GM⟩ := T.mv
  obtain ⟨fO, dO, mO, kO, bO, GO⟩ := T.one
  obtain ⟨fL, dL, mL, kL, bL, GL⟩ := T.ln
  obtain ⟨fI, dI, mI, kI, bI, GI⟩ := T.ri
  obtain ⟨fS, dS, mS, kS, bS, GS⟩ := T.sp
  obtain ⟨mc, p0, g0, cr, cm, G0⟩ := T.rof
  obtain ⟨fF, dF, MF, bF, GF⟩ := T.fits
  obtain ⟨fR, dR, gR, MR, bR, GR⟩ := T.ren
  refine F.ok scRt (fun vs H Q E h => ?_) (fun cdv A outer s H vs Q E hr h => ?_)
  · obtain ⟨p, rfl, _⟩ := h; rfl
  · obtain ⟨p, rfl, hD, k⟩ := h
    have hu := hr.units
    have hu1 := Nat.lt_of_le_of_lt (Nat.add_le_add_left (show 1 ≤ 64 by decide) _) hu
    have r1 := hr.mono (show 1 ≤ 10 by decide)
    have r2 := hr.mono (show 2 ≤ 10 by decide)
    have r3 := hr.mono (show 3 ≤ 10 by decide)
    have r7 := hr.mono (show 7 ≤ 10 by decide)
    refine ⟨_, (pss_cons (ps_asg (pe_call GM hr (by rfl) mM kM bM .nil pass0 (pa_cons (pv 0) pa_nil)) (pg_tup rfl (pgs_cons (pg_name (i := 1) scRt.nd rfl (.inr rfl)) (pgs_cons (pg_name (i := 2) scRt.nd rfl (.inr rfl)) (pgs_cons (pg_name (i := 3) scRt.nd rfl (.inl rfl)) pgs_nil)))))
      (pss_cons (ps_set (i := 4) scRt.nd rfl (Or.inr rfl) (pe_call GO r2 (by rfl) mO kO bO .nil pass0 (pa_cons (pv 0) (pa_cons (pe_lst (pa_cons pe_int (pa_cons pe_int (pa_cons pe_int (pa_cons pe_int (pa_cons pe_int (pa_cons pe_int pa_nil))))))) pa_nil))))
      (pss_cons (ps_set (i := 5) scRt.nd rfl (Or.inl rfl) (pe_callTy call_tupOf (by rfl) T.tuple PyProof.Rows.boot_tuple (pa_cons (pe_lc (own := [("_law_turn", 11)]) (g := gName 11) (tt := tYes) rfl scRt.nd (pi_range1 (by rfl) T.range (pa_cons (pv 4) pa_nil)) (blkOk_by (N := nRt) (sc := defScope sRt) (by decide +kernel)) (fun _ _ _ _ _ => pg_name (i := 11) scRt.nd rfl (Or.inl rfl)) (fun _ _ _ _ _ => pts_nil) (fun _ _ _ _ _ => pe_call GL r3 (by rfl) mL kL bL .nil pass0 (pa_cons (pv 0) (pa_cons (pv 2) (pa_cons (pv 1) (pa_cons (pv 4) pa_nil)))))) pa_nil)))
      (pss_cons (ps_if (pt_cmpR op_notBl (pe_meth (E := E0) (ClX.pe_cmeth (E := E0) (pe_glob (v := .ref C) (by rfl) T.mgC rfl) cr cm G0 r7 pass0 (pa_cons (pv 5) pa_nil)) T.cl MF GF r7 bF .nil (L2N.passes_call takesN0 (fun _ _ _ _ h => h)) (pa_cons (pv 3) pa_nil)) pe_bl (nomark _)) (pss_one (ps_ret pe_bl)) pss_nil)
      (pss_cons (ps_if (pt_cmpR op_gt (pv 4) pe_int (nomark _)) (pss_cons (ps_set (i := 6) scRt.nd rfl (Or.inl rfl) (pe_call GS r3 (by rfl) mS kS bS .nil pass0 (pa_cons (pv 0) (pa_cons (pv 5) (pa_cons (pv 2) pa_nil)))))
      (pss_one (ps_if (pt_cmpR op_ne (pe_callB call_reprB (by rfl) T.repr (by decide +kernel) (pa_cons (pe_meth (E := E0) (ClX.pe_cmeth (E := E0) (pe_glob (v := .ref C) (by rfl) T.mgC rfl) cr cm G0 r7 pass0 (pa_cons (pv 6) pa_nil)) T.cl MF GF r7 bF .nil (L2N.passes_call takesN0 (fun _ _ _ _ h => h)) (pa_cons (pv 3) pa_nil)) pa_nil)) (pe_callB call_reprB (by rfl) T.repr (by decide +kernel) (pa_cons (pe_call GI r1 (by rfl) mI kI bI .nil pass0 (pa_cons (pv 2) (pa_cons (pv 1) (pa_cons (pv 6) pa_nil)))) pa_nil)) (nomark _)) (pss_one (ps_ret pe_bl)) pss_nil))) pss_nil)
      (pss_cons (ps_set (i := 7) scRt.nd rfl (Or.inr rfl) (pe_callTy (call_dictP rfl) (by rfl) T.dict (by decide +kernel) (pa_cons (pe_lc (own := [("_law_word", 12)]) (g := gName 12) (tt := tYes) (te := tTup (tCons (tVar 12) (tCons (tOp rAddS (tC (.str "t")) (tVar 12)) tNil))) rfl scRt.nd (pi_list (pv 2)) (blkOk_by (N := nRt) (sc := defScope sRt) (by decide +kernel)) (fun _ _ _ _ _ => pg_name (i := 12) scRt.nd rfl (Or.inl rfl)) (fun _ _ _ _ _ => pts_nil) (fun _ _ _ _ _ => pe_tup (pa_cons (pv 12) (pa_cons (pe_op op_add_str pe_str (pv 12)) pa_nil)))) pa_nil)))
      (pss_cons (ps_set (i := 6) scRt.nd rfl (Or.inl rfl) (pe_callTy call_tupOf (by rfl) T.tuple PyProof.Rows.boot_tuple (pa_cons (pe_lc (own := [("_law_line_here", 13)]) (g := gName 13) (tt := tYes) (te := tIf (tTest (tOp rNe (tOp (rIxT K) (tVar 13) (tC (.int 0))) (tC (.str "go")))) (tOp (rCatU K) (tTup (tCons (tOp (rIxT K) (tVar 13) (tC (.int 0))) (tCons (tDGet (tVar 7) (tOp (rIxT K) (tVar 13) (tC (.int 1)))) tNil))) (tSl (rSlU K) (tVar 13) (tPart (tC (.int 2))) tNoPart)) (tVar 13)) rfl scRt.nd (pi_tup (pv 5)) (blkOk_by (N := nRt) (sc := defScope sRt) (by decide +kernel)) (fun _ _ _ _ _ => pg_name (i := 13) scRt.nd rfl (Or.inl rfl)) (fun _ _ _ _ _ => pts_nil) (fun _ _ _ _ _ => (pe_ifExp (pt_cmpR op_ne (pe_ix ix_tup (pv 13) pe_int (fun _ _ => rfl)) pe_str (nomark _)) (pe_op op_catU (pe_tup (pa_cons (pe_ix ix_tup (pv 13) pe_int (fun _ _ => rfl)) (pa_cons (pe_dget hu1 (pv 7) (pe_ix ix_tup (pv 13) pe_int (fun _ _ => rfl)) (fun _ _ => rfl)) pa_nil))) (pe_slice sl_tupU (pv 13) (po_some pe_int) po_none)) (pv 13)))) pa_nil)))
      (pss_cons (ps_set (i := 8) scRt.nd rfl (Or.inl rfl) (pe_methKw (E := E0) (pv 3) T.clM MR GR hr bR pass0 (pk_cons (pv 7) pk_nil)))
      (pss_cons (ps_set (i := 9) scRt.nd rfl (Or.inl rfl) (pe_lst (pa_cons (pe_meth (E := E0) (ClX.pe_cmeth (E := E0) (pe_glob (v := .ref C) (by rfl) T.mgC rfl) cr cm G0 r7 pass0 (pa_cons (pv 6) pa_nil)) T.cl MF GF r7 bF .nil (L2N.passes_call takesN0 (fun _ _ _ _ h => h)) (pa_cons (pv 8) pa_nil)) (pa_cons (pe_meth (E := E0) (ClX.pe_cmeth (E := E0) (pe_glob (v := .ref C) (by rfl) T.mgC rfl) cr cm G0 r7 pass0 (pa_cons (pv 6) pa_nil)) T.cl MF GF r7 bF .nil (L2N.passes_call takesN0 (fun _ _ _ _ h => h)) (pa_cons (pv 3) pa_nil)) (pa_cons (pe_meth (E := E0) (ClX.pe_cmeth (E := E0) (pe_glob (v := .ref C) (by rfl) T.mgC rfl) cr cm G0 r7 pass0 (pa_cons (pv 5) pa_nil)) T.cl MF GF r7 bF .nil (L2N.passes_call takesN0 (fun _ _ _ _ h => h)) (pa_cons (pv 8) pa_nil)) pa_nil)))))
      (pss_cons (ps_set (i := 10) scRt.nd rfl (Or.inl rfl) (pe_cmpR (op_eqD hu) (pe_lc (own := [("_law_line_here", 13)]) (g := gName 13) (tt := tTest (tOp rNe (tOp (rIxT K) (tVar 13) (tC (.int 0))) (tC (.str "go")))) (te := tVar 13) rfl scRt.nd (pi_tup (pv 5)) (blkOk_by (N := nRt) (sc := defScope sRt) (by decide +kernel)) (fun _ _ _ _ _ => pg_name (i := 13) scRt.nd rfl (Or.inl rfl)) (fun _ _ _ _ _ => pts_one (pt_cmpR op_ne (pe_ix ix_tup (pv 13) pe_int (fun _ _ => rfl)) pe_str (nomark _))) (fun _ _ _ _ _ => pv 13)) (pe_lst pa_nil) (nomark _)))
      (pss_cons (ps_if (pt_cmpR (op_neD hu) (pv 9) (pe_lst (pa_cons pe_bl (pa_cons (pv 10) (pa_cons (pv 10) pa_nil)))) (nomark _)) (pss_one (ps_ret pe_bl)) pss_nil)
      (pss_cons (ps_tryE (i := 3) (n := "_law_mover_here") (l := [(.ref CI, false, fun _ _ _ => tRet (tC (.bl true)))]) (Wout := fun _ _ _ _ => False) (t := fun E => tDrop (tMeth C "fits" (spFits K C CM CI) [] E (ClX.tCMeth C (spOf K C) E0 (tC (.ref C)) (tCons (tVar 5) tNil)) (tCons (tCall spOne [] E0 (tCons (tVar 0) (tCons (tLst (tCons (tC .non) (tCons (tC (.str "mover")) (tCons (tVar 1) (tCons (ClX.tCMeth C (spOf K C) E0 (tC (.ref C)) (tCons (tVar 5) tNil)) (tCons (tTup tNil) (tCons (tC (.int 3)) (tCons tDNewK tNil)))))))) tNil))) tNil))) rfl rfl scRt.nd rfl rfl takesN0 (fun E W pn xe tk hE => pss_one (ps_expr (pe_meth (E := E) (ClX.pe_cmeth (E := E0) (pe_glob (v := .ref C) (by rfl) T.mgC rfl) cr cm G0 r7 pass0 (pa_cons (pv 5) pa_nil)) T.cl MF GF r7 bF .nil (L2N.passes_call tk hE) (pa_cons (pe_call GO r2 (by rfl) mO kO bO .nil pass0 (pa_cons (pv 0) (pa_cons (pe_lst (pa_cons pe_non (pa_cons pe_str (pa_cons (pv 1) (pa_cons (ClX.pe_cmeth (E := E0) (pe_glob (v := .ref C) (by rfl) T.mgC rfl) cr cm G0 r7 pass0 (pa_cons (pv 5) pa_nil)) (pa_cons (pe_tup pa_nil) (pa_cons pe_int (pa_cons pe_dnewK pa_nil)))))))) pa_nil))) pa_nil)))) (.bare ⟨rfl, by decide, .inl T.gI⟩ (fun a oe cls d pn hz hf => pss_one (ps_ret pe_bl)) .nil))
      (pss_one (ps_ret pe_bl)))))))))))))), ?_⟩
    refine ⟨_, rfl, p, rfl, hD, fun H1 a Pa W m n kk us cs k1 d1 na ea hn hk hPa hW neW nW0 md => ?_⟩
    refine ⟨a, _, rfl, SqT.of ea, rfl, _, _, rfl, _, _, rfl, _, _, rfl, rfl, ?_⟩
    have wok := words_T3 n hn
    have pok := parts_A3 kk hk
    have tok := turn_ok n hn
    generalize T3.take (n + 1) = ws at hW md wok tok
    generalize A3.take (kk + 2) = ps at hPa md pok
    have B1 : Bd K CM p W Pa m ws ps us cs H1 := ⟨d1, hW, hPa, md⟩
    have mdn := md.nms
    have mlo := md.two.lo
    have plo := pok.lo; have phi := pok.hi
    clear na ea hPa hW
    refine ⟨_, rfl, (by show 6 ≤ sizeLine; decide), fun l1 nl => ?_⟩
    have el := dice_ne d1 nl
    refine ⟨p, l1, _, rfl, dice_upd d1 el, upd_same, el, (by show 0 < 6; decide), (by show 6 < 1000; decide), fun i1 v1 xa xb xc hv1 hxa => ?_⟩
    obtain ⟨sz, hsz, rfl⟩ : ∃ z ∈ sz6, v1 = .int ((z : Nat) : Int) := by
      have hv : (sz6.map fun z : Nat => V.int (z : Int))[i1]? = some v1 := hv1
      rw [List.getElem?_map] at hv
      obtain ⟨z, hz, rfl⟩ := Option.map_eq_some_iff.mp hv
      exact ⟨z, List.mem_of_getElem? hz, rfl⟩
    have sz_le : sz ≤ 6 := (show ∀ z ∈ sz6, z ≤ 6 by decide) sz hsz
    have k2 : Keep p H1 (upd (upd H1 l1 (HO.lst [V.int 0, .int 1, .int 2, .int 3, .int 5, .int 6])) p (HO.lst [V.int xa, V.int xb, V.int xc])) := (keep_new nl).trans keep_upd
    have d2 : DiceAt (upd (upd H1 l1 (HO.lst [V.int 0, .int 1, .int 2, .int 3, .int 5, .int 6])) p (HO.lst [V.int xa, V.int xb, V.int xc])) p := .upd hxa
    generalize upd (upd H1 l1 (HO.lst [V.int 0, .int 1, .int 2, .int 3, .int 5, .int 6])) p (HO.lst [V.int xa, V.int xb, V.int xc]) = H2 at k2 d2 ⊢
    have B2 := B1.kp neW k2 d2
    have K2 := k1.trans k2
    clear k2 hv1 hxa B1 md
    refine ⟨_, rfl, (sz : Int), rfl, by omega, by omega, fun D2 nD2 => ?_⟩
    have n2p : D2 ≠ p := dice_ne d2 nD2
    refine lc_range (n := sz) (fun i H' => Keep p H2 H' ∧ DiceAt H' p ∧ ∃ rs : RowsL, H' D2 = some (.lst (rs.map fun r => .ref r.1)) ∧ (∀ r ∈ rs, H' r.1 = some (.tup r.2.vs)) ∧ rs.length = i ∧ ∀ r ∈ rs, Ln.of ws ps sz r.2) ⟨keep_new nD2, dice_upd d2 n2p, [], upd_same, (fun r hr => nomatch hr), rfl, fun r hr => nomatch hr⟩ ?_ ?_
    · rintro i H4 hi ⟨k4, d4, rs, e4, hrs, el, dr⟩
      have B4 := B2.kp neW k4 d4
      refine ⟨rfl, tt_yes ?_⟩
      refine ⟨_, rfl, _, rfl, _, rfl, _, rfl, p, W, Pa, sz, ws, ps, rfl, d4, B4.wd, neW, B4.pa, wok.lo, wok.hi, by omega, phi, by omega, fun u l H5 k5 d5 nu eu hl => ?_⟩
      have e5 : H5 D2 = some (.lst (rs.map fun r => .ref r.1)) := k5 _ _ n2p e4
      refine ⟨_, e5, by rw [List.length_map, sizeLine_eq]; omega, fun x o hx e => ?_, dice_upd d5 n2p, rs ++ [(u, l)], by rw [upd_same, List.map_append]; rfl, fun r hr => ?_, by simp [el], fun r hr => ?_⟩
      · rw [upd_ne (fun z => by rw [z, nD2] at e; cases e)]
        exact k5 x o hx (k4 x o hx e)
      · have ne : ∀ a o, H5 a = some (.tup o) → a ≠ D2 := fun a o q z => by
          subst z; rw [e5] at q; cases q
        rcases List.mem_append.mp hr with z | z
        · obtain ⟨a', b', c', hp', _⟩ := d4
          have q := k5 r.1 _ (fun z' => by have := hrs r z; rw [z', hp'] at this; cases this) (hrs r z)
          rw [upd_ne (ne _ _ q)]; exact q
        · rw [List.mem_singleton.mp z]
          rw [upd_ne (ne u _ eu)]; exact eu
      · rcases List.mem_append.mp hr with z | z
        · exact dr r z
        · rw [List.mem_singleton.mp z]; exact hl
    rintro H4 ⟨k4, d4, rs, e4, hrs, el, dr⟩
    refine ⟨D2, _, rfl, SqL.of e4, fun L nL => ?_⟩
    have s5 := same_new (o := HO.tup (rs.map fun r => V.ref r.1)) nL
    have hL5 : LinesAt K (upd H4 L (HO.tup (rs.map fun r => V.ref r.1))) L rs := ⟨SqT.of upd_same, fun r hr => SqT.of (s5 _ _ (hrs r hr))⟩
    have B5 := (B2.kp neW k4 d4).up s5
    have K5 := (K2.trans k4).trans (same_keep (p := p) s5)
    generalize upd H4 L (HO.tup (rs.map fun r => V.ref r.1)) = H5 at hL5 B5 K5 ⊢
    clear k4 d4 e4 hrs s5 nL B2 K2 d2
    have okr : RdOk rs := rd_ok (by omega) fun r hr => by rw [el]; exact fine_of (dr r hr) wok.nm pok.nm
    have gd : rightB ws ps (lnsOf rs) = true := List.all_eq_true.mpr fun l hl => by
      obtain ⟨r, hr, rfl⟩ := List.mem_map.mp hl
      exact good_of (dr r hr)
    refine ⟨rfl, _, rfl, L, rs, rfl, hL5, okr, fun H6 r6 s6 nr6 hRr6 => ?_⟩
    obtain ⟨dxr6, Lrr6, Trr6, prr6, er6, _⟩ := id hRr6
    refine ⟨r6, _, _, rfl, er6, rd_no (by decide +kernel) (by decide +kernel), _, rfl, r6, rs, _, rfl, hRr6, okr, .inl ⟨m, ps, us, cs, rfl, (B5.up s6).mv.at_, mlo, fun H7 s7 => ?_⟩⟩
    rw [mdn, right_fit, gd]
    refine ⟨_, _, rfl, rfl, _, rfl, iteF ?_⟩
    have s57 := s6.trans s7
    have B7 := B5.up s57
    have L7 := hL5.up s57
    have K7 := K5.trans (same_keep (p := p) s57)
    clear hRr6 er6 s6 s7 s57 B5 hL5 K5
    refine ⟨_, rfl, _, _, rfl, rfl, _, rfl, ite2 (fun c0 => ?_) (fun c0 => ?_)⟩
    · have sz1 : 1 ≤ sz := by have := of_decide_eq_true c0; omega
      refine ⟨_, rfl, _, rfl, _, rfl, p, L, W, rs, ws, rfl, B7.di, L7, by omega, by omega, fun r hr => by rw [el]; exact fine_of (dr r hr) wok.nm pok.nm, B7.wd, neW, wok.lo, wok.nm, fun H8 L8 rs8 k8 d8 hL8 len8 fine8 => ?_⟩
      have ok8 : RdOk rs8 := rd_ok (by omega) fun r hr => by rw [len8]; exact fine8 r hr
      have B8 := B7.kp neW k8 d8
      have LL8 := lines_kp B7.di k8 L7
      have K8 := K7.trans k8
      clear B7 L7 K7 k8 d8
      refine ⟨rfl, _, rfl, L8, rs8, rfl, hL8, ok8, fun H9 r9 s9 nr9 hRr9 => ?_⟩
      obtain ⟨dxr9, Lrr9, Trr9, prr9, er9, _⟩ := id hRr9
      refine ⟨r9, _, _, rfl, er9, rd_no (by decide +kernel) (by decide +kernel), _, rfl, r9, rs8, _, rfl, hRr9, ok8, .inl ⟨m, ps, us, cs, rfl, (B8.up s9).mv.at_, mlo, fun H10 s10 => ?_⟩⟩
      rw [mdn, right_fit]
      have s8 := s9.trans s10
      have B9 := B8.up s8
      refine ⟨_, rfl, _, rfl, _, rfl, _, rfl, W, Pa, L8, ws, ps, rs8, rfl, B9.wd, B9.pa, hL8.up s8, wok.lo, _, rfl, rfl, false, congrArg V.bl (by rw [decide_eq_true rfl]; rfl), iteF ?_⟩
      have L9 := LL8.up s8
      have K9 := K8.trans (same_keep (p := p) s8)
      generalize H10 = Hs at B9 L9 K9 ⊢
      clear B8 LL8 K8 hRr9 er9 s9 s10 s8 hL8
      refine ⟨_, rfl, W, rfl, ⟨_, SqL.of B9.wd⟩, fun Dd nDd => ?_⟩
      refine lc_fil walk_list nDd (AP (α := Str) (fun a w H' => SqT K H' a [.str w, .str (tN w)]) (fun j w => ws[j]? = some w)) ap_nil (fun H' s' => sqL_up (SqL.of B9.wd) s') ?_ ?_
      · rintro i v acc Hx Hy hi s2 e2 hap ⟨rfl, hv⟩
        rw [List.length_map] at hi
        have w3 := wok.hi
        rw [List.getElem?_map] at hv
        obtain ⟨wd, hw, rfl⟩ := Option.map_eq_some_iff.mp hv
        refine ⟨rfl, tt_yes ⟨_, rfl, _, rfl, _, _, rfl, rfl, tok.sz wd (List.mem_of_getElem? hw), (by show 2 ≤ sizeLine; decide), fun a na => ?_⟩⟩
        exact ap_put (α := Str) (v := wd) (fun a v l H H' e k h => off_seq e k h) (fun a v H H' s h => sqT_up h s) nDd s2 e2 (same_new na) hap (by omega) (SqT.of upd_same) hw
      rintro acc Hx sx ex ⟨ds, rfl, lds, hds, ods⟩
      rw [List.length_map] at lds
      have eds : ds.map Prod.snd = ws := by
        refine List.ext_getElem? fun i => ?_
        by_cases hi : i < ds.length
        · have h1 : ds[i]? = some ds[i] := List.getElem?_eq_getElem hi
          rw [List.getElem?_map, h1, ods i _ h1]; rfl
        · rw [List.getElem?_eq_none (by rw [List.length_map]; omega), List.getElem?_eq_none (by omega)]
      refine ⟨Dd, ds.map Prod.fst, (gN ws).map prT, rfl, SqL.of (by rw [ex, List.map_map]; rfl), ?_, fun dg ndg => ?_⟩
      · rw [← eds, List.map_map, List.map_map]
        clear eds lds ods ex sx
        induction ds with
        | nil => exact .nil
        | cons d ds ih => exact .cons (hds d List.mem_cons_self) (ih fun x hx => hds x (.tail _ hx))
      have hdg : TxD (upd Hx dg (.dK (mergeK [] ((gN ws).map prT)))) dg (gN ws) := by
        show upd Hx dg _ dg = _
        rw [upd_same, show mergeK [] ((gN ws).map prT) = (gN ws).map prT from merge_tx (es := []) (by rw [List.map_nil, List.nil_append]; exact tok.ok.dif)]
      have sg := sx.trans (same_new (o := HO.dK (mergeK [] ((gN ws).map prT))) ndg)
      generalize upd Hx dg (.dK (mergeK [] ((gN ws).map prT))) = Hg at hdg sg ⊢
      have Bg := B9.up sg
      have Lg := L9.up sg
      have Kg := K9.trans (same_keep (p := p) sg)
      clear B9 L9 K9 sg sx ex hds ods lds eds ndg
      refine ⟨_, rfl, L, rfl, ⟨_, Lg.1⟩, fun Do nDo => ?_⟩
      refine lc_fil walk_tup nDo (AP (α := Ln) (fun a l H' => SqT K H' a l.vs) (fun j l => ∃ r, rs[j]? = some r ∧ l = lnT tN r.2)) ap_nil (fun H' s' => sqT_up Lg.1 s') ?_ ?_
      · rintro i v acc Hx Hy hi s2 e2 hap ⟨rfl, hv⟩
        rw [List.length_map] at hi
        rw [List.getElem?_map] at hv
        obtain ⟨r, hri, rfl⟩ := Option.map_eq_some_iff.mp hv
        have rm := List.mem_of_getElem? hri
        have hr_ := sqT_up (Lg.2 r rm) s2
        obtain ⟨ad, l⟩ := r
        refine ⟨rfl, tt_yes ?_⟩
        cases l with
        | go n =>
          refine ⟨_, rfl, ad, _, _, _, rfl, rfl, hr_, atI_nat (j := 0) rfl, rfl, false, congrArg V.bl (by decide +kernel), iteF ?_⟩
          exact ⟨_, rfl, ap_put (α := Ln) (v := lnT tN (.go n)) (fun a v l H H' e k h => off_seq e k h) (fun a v H H' s h => sqT_up h s) nDo s2 e2 (Same.refl _) hap (by omega) hr_ ⟨_, hri, rfl⟩⟩
        | ift t q c =>
          have hw := dr _ rm
          have tw : t ∈ ws := hw.1
          refine ⟨_, rfl, ad, _, _, _, rfl, rfl, hr_, atI_nat (j := 0) rfl, rfl, true, congrArg V.bl (by decide +kernel), iteT ?_⟩
          refine ⟨_, rfl, ad, _, _, _, rfl, rfl, hr_, atI_nat (j := 0) rfl, _, rfl, _, rfl, ad, _, _, _, rfl, rfl, hr_, atI_nat (j := 1) rfl, dg, _, rfl, .inl ⟨_, Sum.inr t, .inl (s2 _ _ hdg), rfl, (tx_val (y := tN t) (gs := gN ws) tok.ok.dif (List.mem_map_of_mem (f := fun w => (w, tN w)) tw)).symm⟩, (by show 2 ≤ sizeLine; decide), fun t4 n4 => ?_⟩
          have y4 := same_new (o := HO.tup [V.str "if", .str (tN t)]) n4
          refine ⟨_, rfl, _, rfl, ad, _, rfl, sqT_up hr_ y4, fun q5 Hq y5 h5 => ?_⟩
          rw [show ((2 : Int)) = ((2 : Nat) : Int) from rfl, cut_from (by show 2 ≤ 4; decide)] at h5
          refine ⟨_, _, _, _, rfl, rfl, sqT_up (SqT.of upd_same) y5, h5, (by show 2 + 2 ≤ sizeLine; decide), fun a5 Hr y6 h6 => ?_⟩
          exact ap_put (α := Ln) (v := lnT tN (.ift t q c)) (fun a v l H H' e k h => off_seq e k h) (fun a v H H' s h => sqT_up h s) nDo s2 e2 ((y4.trans y5).trans y6) hap (by omega) h6 ⟨_, hri, rfl⟩
        | look t q =>
          have hw := dr _ rm
          have tw : t ∈ ws := hw.1
          refine ⟨_, rfl, ad, _, _, _, rfl, rfl, hr_, atI_nat (j := 0) rfl, rfl, true, congrArg V.bl (by decide +kernel), iteT ?_⟩
          refine ⟨_, rfl, ad, _, _, _, rfl, rfl, hr_, atI_nat (j := 0) rfl, _, rfl, _, rfl, ad, _, _, _, rfl, rfl, hr_, atI_nat (j := 1) rfl, dg, _, rfl, .inl ⟨_, Sum.inr t, .inl (s2 _ _ hdg), rfl, (tx_val (y := tN t) (gs := gN ws) tok.ok.dif (List.mem_map_of_mem (f := fun w => (w, tN w)) tw)).symm⟩, (by show 2 ≤ sizeLine; decide), fun t4 n4 => ?_⟩
          have y4 := same_new (o := HO.tup [V.str "look", .str (tN t)]) n4
          refine ⟨_, rfl, _, rfl, ad, _, rfl, sqT_up hr_ y4, fun q5 Hq y5 h5 => ?_⟩
          rw [show ((2 : Int)) = ((2 : Nat) : Int) from rfl, cut_from (by show 2 ≤ 3; decide)] at h5
          refine ⟨_, _, _, _, rfl, rfl, sqT_up (SqT.of upd_same) y5, h5, (by show 2 + 1 ≤ sizeLine; decide), fun a5 Hr y6 h6 => ?_⟩
          exact ap_put (α := Ln) (v := lnT tN (.look t q)) (fun a v l H H' e k h => off_seq e k h) (fun a v H H' s h => sqT_up h s) nDo s2 e2 ((y4.trans y5).trans y6) hap (by omega) h6 ⟨_, hri, rfl⟩
        | read t q =>
          have hw := dr _ rm
          have tw : t ∈ ws := hw.1
          refine ⟨_, rfl, ad, _, _, _, rfl, rfl, hr_, atI_nat (j := 0) rfl, rfl, true, congrArg V.bl (by decide +kernel), iteT ?_⟩
          refine ⟨_, rfl, ad, _, _, _, rfl, rfl, hr_, atI_nat (j := 0) rfl, _, rfl, _, rfl, ad, _, _, _, rfl, rfl, hr_, atI_nat (j := 1) rfl, dg, _, rfl, .inl ⟨_, Sum.inr t, .inl (s2 _ _ hdg), rfl, (tx_val (y := tN t) (gs := gN ws) tok.ok.dif (List.mem_map_of_mem (f := fun w => (w, tN w)) tw)).symm⟩, (by show 2 ≤ sizeLine; decide), fun t4 n4 => ?_⟩
          have y4 := same_new (o := HO.tup [V.str "read", .str (tN t)]) n4
          refine ⟨_, rfl, _, rfl, ad, _, rfl, sqT_up hr_ y4, fun q5 Hq y5 h5 => ?_⟩
          rw [show ((2 : Int)) = ((2 : Nat) : Int) from rfl, cut_from (by show 2 ≤ 3; decide)] at h5
          refine ⟨_, _, _, _, rfl, rfl, sqT_up (SqT.of upd_same) y5, h5, (by show 2 + 1 ≤ sizeLine; decide), fun a5 Hr y6 h6 => ?_⟩
          exact ap_put (α := Ln) (v := lnT tN (.read t q)) (fun a v l H H' e k h => off_seq e k h) (fun a v H H' s h => sqT_up h s) nDo s2 e2 ((y4.trans y5).trans y6) hap (by omega) h6 ⟨_, hri, rfl⟩
      rintro acc Hx sx ex ⟨os, rfl, los, hos, oos⟩
      rw [List.length_map] at los
      refine ⟨Do, _, rfl, SqL.of ex, fun Lo nLo => ?_⟩
      have so := same_new (o := HO.tup (os.map fun d => V.ref d.1)) nLo
      have hLo : LinesAt K (upd Hx Lo (HO.tup (os.map fun d => V.ref d.1))) Lo os := ⟨SqT.of upd_same, fun r hr => sqT_up (hos r hr) so⟩
      generalize upd Hx Lo (HO.tup (os.map fun d => V.ref d.1)) = Ho at so hLo ⊢
      have sgo := sx.trans so
      have Bo := Bg.up sgo
      have L_o := Lg.up sgo
      have Ko := Kg.trans (same_keep (p := p) sgo)
      have hdo := sgo _ _ hdg
      have eos : lnsOf os = (lnsOf rs).map (lnT tN) := by
        refine List.ext_getElem? fun i => ?_
        by_cases hi : i < os.length
        · have h1 : os[i]? = some os[i] := List.getElem?_eq_getElem hi
          obtain ⟨r, hr, e⟩ := oos i _ h1
          rw [List.getElem?_map, h1, List.getElem?_map, List.getElem?_map, hr]
          exact congrArg some e
        · rw [List.getElem?_eq_none (by rw [List.length_map]; omega), List.getElem?_eq_none (by rw [List.length_map, List.length_map]; omega)]
      have oko : RdOk os := rd_ok (by omega) fun x hx => by
        obtain ⟨i, hi⟩ := List.getElem?_of_mem hx
        obtain ⟨r, hr, e⟩ := oos i x hi
        rw [e, los, el]
        exact fine_turn (dr r (List.mem_of_getElem? hr)) tok.nm pok.nm
      clear Bg Lg Kg hdg sx ex so sgo hos oos nLo nDo
      obtain ⟨dmv, Pm, Tm, Lm, Sm, Bm, Jm, dsm, ssm, qsm, emv, _⟩ := id Bo.mv.at_
      refine ⟨_, rfl, m, dmv, _, rfl, emv, mv_no2, _, rfl, rfl, m, .non, .ref dg, ps, us, cs, (fun n => n), newOf (gN ws), rfl, Bo.mv.at_, pok, Bo.mv.tbs, Bo.mv.bs, .inl ⟨rfl, rfl⟩, .inr ⟨dg, gN ws, rfl, hdo, by rw [mdn]; exact tok.ok, rfl⟩, fun us2 ws2 cs2 z n1 n2 => two_joins (two_to Bo.mv.two z) n1 n2, fun Hm mt qs us2 ws2 cs2 sm nmt hA hto n1 n2 hMt => ?_⟩
      have eqs : qs = ps := ascS_one hA.up pok.up fun k => (hA.mem k).trans (by rw [show ps.map (fun n => n) = ps from List.map_id ps])
      subst eqs
      have nmt2 : ws2.map Tb.nm = ws.map tN := by
        rw [n1.nms, hto.nms, mdn]
        exact List.map_congr_left fun w hw => tok.new w hw
      have lws2 : 1 ≤ ws2.length := by rw [n1.len, hto.len]; exact mlo
      have Bm_ := Bo.up sm
      have Lm_ := L_o.up sm
      have Lom := hLo.up sm
      have Km := Ko.trans (same_keep (p := p) sm)
      clear Bo L_o hLo Ko sm nmt hA hto n1 n2 hdo emv
      have f1 : rightB (ws.map tN) qs (lnsOf os) = true := by
        rw [eos]; unfold rightB; rw [List.all_map]
        exact List.all_eq_true.mpr fun l hl => by
          obtain ⟨r, hr, rfl⟩ := List.mem_map.mp hl
          exact good_turn wok.lo tok.inj (dr r hr)
      have f2 : rightB ws qs (lnsOf os) = (lnsOf rs).all plainL := by
        rw [eos]; unfold rightB; rw [List.all_map]
        exact all_cong fun l hl => by
          obtain ⟨r, hr, rfl⟩ := List.mem_map.mp hl
          exact strange_turn tok.no (dr r hr)
      have f3 : rightB (ws.map tN) qs (lnsOf rs) = (lnsOf rs).all plainL := all_cong fun l hl => by
          obtain ⟨r, hr, rfl⟩ := List.mem_map.mp hl
          exact strange_of tok.no2 (dr r hr)
      generalize hpl : (lnsOf rs).all plainL = pl at f2 f3
      refine ⟨rfl, _, rfl, Lo, os, rfl, Lom, oko, fun Hr1 q1 sr1 nq1 hRq1 => ?_⟩
      obtain ⟨dxq1, Lrq1, Trq1, prq1, eq1, _⟩ := id hRq1
      refine ⟨q1, _, _, rfl, eq1, rd_no (by decide +kernel) (by decide +kernel), _, rfl, q1, os, _, rfl, hRq1, oko, .inl ⟨mt, qs, ws2, cs2, rfl, hMt.up sr1, lws2, fun Hf1 sf1 => ?_⟩⟩
      rw [nmt2, right_fit, f1]
      have t1 := sr1.trans sf1
      refine ⟨rfl, _, rfl, Lo, os, rfl, Lom.up t1, oko, fun Hr2 q2 sr2 nq2 hRq2 => ?_⟩
      obtain ⟨dxq2, Lrq2, Trq2, prq2, eq2, _⟩ := id hRq2
      refine ⟨q2, _, _, rfl, eq2, rd_no (by decide +kernel) (by decide +kernel), _, rfl, q2, os, _, rfl, hRq2, oko, .inl ⟨m, qs, us, cs, rfl, (Bm_.up (t1.trans sr2)).mv.at_, mlo, fun Hf2 sf2 => ?_⟩⟩
      rw [mdn, right_fit, f2]
      have t2 := (t1.trans sr2).trans sf2
      refine ⟨rfl, _, rfl, L, rs, rfl, Lm_.up t2, okr, fun Hr3 q3 sr3 nq3 hRq3 => ?_⟩
      obtain ⟨dxq3, Lrq3, Trq3, prq3, eq3, _⟩ := id hRq3
      refine ⟨q3, _, _, rfl, eq3, rd_no (by decide +kernel) (by decide +kernel), _, rfl, q3, rs, _, rfl, hRq3, okr, .inl ⟨mt, qs, ws2, cs2, rfl, hMt.up (t2.trans sr3), lws2, fun Hf3 sf3 => ?_⟩⟩
      rw [nmt2, right_fit, f3]
      have t3 := (t2.trans sr3).trans sf3
      refine ⟨(by show 3 ≤ sizeLine; decide), fun lt nlt => ?_⟩
      have t4 := t3.trans (same_new (o := HO.lst [V.bl true, .bl pl, .bl pl]) nlt)
      have elt : upd Hf3 lt (HO.lst [V.bl true, .bl pl, .bl pl]) lt = some (.lst [.bl true, .bl pl, .bl pl]) := upd_same
      generalize upd Hf3 lt (HO.lst [V.bl true, .bl pl, .bl pl]) = H9 at t4 elt ⊢
      have B9 := Bm_.up t4
      have L9 := Lm_.up t4
      have K9 := Km.trans (same_keep (p := p) t4)
      clear Bm_ Lm_ Km t1 t2 t3 t4 Lom hMt
      refine ⟨_, rfl, L, rfl, ⟨_, L9.1⟩, fun Dp nDp => ?_⟩
      refine lc_fil walk_tup nDp (fun i acc _ => acc = ((rs.take i).filter fun r => !plainL r.2).map fun r => V.ref r.1) rfl (fun H' s' => sqT_up L9.1 s') ?_ ?_
      · rintro i v acc Hx Hy hi s2 e2 rfl ⟨rfl, hv⟩
        rw [List.length_map] at hi
        rw [List.getElem?_map] at hv
        obtain ⟨r, hri, rfl⟩ := Option.map_eq_some_iff.mp hv
        have rm := List.mem_of_getElem? hri
        have hr_ := sqT_up (L9.2 r rm) s2
        have nx : ((rs.take (i + 1)).filter fun r => !plainL r.2) = ((rs.take i).filter fun r => !plainL r.2) ++ [r].filter fun r => !plainL r.2 := by rw [List.take_add_one, hri, List.filter_append]; rfl
        refine ⟨rfl, _, rfl, r.1, _, _, _, rfl, rfl, hr_, atI_nat (j := 0) (ln_word r.2), rfl, _, rfl, ite2 (fun c => ?_) (fun c => ?_)⟩
        · have c' : plainL r.2 = false := by
            show decide (r.2.word = "go") = false
            refine decide_eq_false fun e => ?_
            rw [e, decide_eq_true rfl] at c
            exact absurd c (by decide)
          refine ⟨_, rfl, put_of nDp (fun _ _ _ _ _ _ _ z => z) s2 e2 (Same.refl _) ?_ ?_⟩
          · rw [List.length_map, sizeLine_eq]
            have := List.length_filter_le (fun r : Addr × Ln => !plainL r.2) (rs.take i)
            rw [List.length_take] at this
            omega
          · rw [nx, List.filter_cons_of_pos (by rw [c']; rfl), List.map_append]; rfl
        · have c' : plainL r.2 = true := by
            show decide (r.2.word = "go") = true
            by_cases e : r.2.word = "go"
            · exact decide_eq_true e
            · exact absurd (show (!decide (V.str r.2.word = V.str "go")) = true by rw [decide_eq_false fun z => e (V.str.inj z)]; rfl) c
          refine fil_of s2 e2 (Same.refl _) ?_
          rw [nx, List.filter_cons_of_neg (by rw [c']; decide)]; simp
      rintro acc Hx sx ex rfl
      rw [List.length_map, List.take_length] at ex
      refine ⟨(by show 0 ≤ sizeLine; decide), fun l0 nl0 => ?_⟩
      have s0 := same_new (o := HO.lst []) nl0
      have e0 : upd Hx l0 (HO.lst []) l0 = some (.lst []) := upd_same
      generalize upd Hx l0 (HO.lst []) = Hz at s0 e0 ⊢
      have sz0 := sx.trans s0
      have Bz := B9.up sz0
      have Lz := L9.up sz0
      have Kz := K9.trans (same_keep (p := p) sz0)
      have elz := sz0 _ _ elt
      obtain ⟨nf, enf⟩ : ∃ nf : RowsL, nf = rs.filter fun r => !plainL r.2 := ⟨_, rfl⟩
      rw [← enf] at ex
      have mnf : ∀ r ∈ nf, r ∈ rs := fun r hr => by rw [enf] at hr; exact (List.mem_filter.mp hr).1
      have safe : ∀ l ∈ lnsOf nf, l.safe := fun l hl => by
        obtain ⟨r, hr, rfl⟩ := List.mem_map.mp hl
        exact fine_safe (okr.fine r (mnf r hr))
      have dps : ∀ xs : RowsL, (∀ r ∈ xs, r ∈ rs) → DpAll K Hz (xs.map fun r => V.ref r.1) ((xs.map Prod.snd).map Ln.d) := by
        intro xs
        induction xs with
        | nil => exact fun _ => .nil
        | cons x xs ih => exact fun h => .cons (ln_dp (Lz.2 x (h x List.mem_cons_self))) (ih fun y hy => h y (.tail _ hy))
      refine ⟨.list ((lnsOf nf).map Ln.d), .list [], .lst (SqL.of (s0 _ _ ex)) (dps nf mnf), .lst (SqL.of e0) .nil, lst_shaped safe, by decide +kernel, ?_⟩
      have epl : PyData.eqv (.list ((lnsOf nf).map Ln.d)) (.list []) = pl := by
        rw [lst_none, ← hpl, ← plain_none, enf]
        rw [show lnsOf (rs.filter fun r => !plainL r.2) = (lnsOf rs).filter fun l => !plainL l from (List.filter_map (p := fun l => !plainL l) (f := Prod.snd)).symm]
      rw [epl]
      refine ⟨_, rfl, _, rfl, _, rfl, (by show 3 ≤ sizeLine; decide), fun l3 nl3 => ?_⟩
      have s3 := same_new (o := HO.lst [V.bl true, .bl pl, .bl pl]) nl3
      have e3 : upd Hz l3 (HO.lst [V.bl true, .bl pl, .bl pl]) l3 = some (.lst [.bl true, .bl pl, .bl pl]) := upd_same
      generalize upd Hz l3 (HO.lst [V.bl true, .bl pl, .bl pl]) = Hw at s3 e3 ⊢
      refine ⟨.list [.bool true, .bool pl, .bool pl], .list [.bool true, .bool pl, .bool pl], .lst (SqL.of (s3 _ _ elz)) (.cons (.bl _) (.cons (.bl _) (.cons (.bl _) .nil))), .lst (SqL.of e3) (.cons (.bl _) (.cons (.bl _) (.cons (.bl _) .nil))), sh_b3 _ _ _, sh_b3 _ _ _, _, rfl, ?_⟩
      rw [eqv_b3]
      refine iteF ?_
      have Bw := Bz.up s3
      have Lw := Lz.up s3
      have Kw := Kz.trans (same_keep (p := p) s3)
      clear B9 L9 K9 Bz Lz Kz s3 e3 elz s0 e0 sz0 sx ex elt dps safe
      refine ⟨fun cls d H' => cls = .ref CI ∧ Keep p H H' ∧ DiceAt H' p, fun cls d σ' H' ⟨e, kx, dx⟩ => ?_, ?_⟩
      · subst e
        refine ⟨true, T.eII, fun _ a ha => ?_, fun z => nomatch z⟩
        rw [if_neg (by decide)]
        exact k _ kx dx
      refine ⟨rfl, _, rfl, L, rs, rfl, Lw, okr, fun Ha ra sa na_ hRa => ?_⟩
      obtain ⟨dxa, Lra, Tra, pra, era, _⟩ := id hRa
      refine ⟨ra, _, _, rfl, era, rd_no (by decide +kernel) (by decide +kernel), _, rfl, _, rfl, rfl, _, rfl, L, rs, rfl, Lw.up sa, okr, fun Hb rb sb nb hRb => ?_⟩
      refine ⟨(by show 0 ≤ sizeLine; decide), fun te nte => ?_⟩
      have st1 := same_new (o := HO.tup []) nte
      have ete : upd Hb te (HO.tup []) te = some (.tup []) := upd_same
      generalize upd Hb te (HO.tup []) = Hc at st1 ete ⊢
      refine fun de nde => ?_
      have st2 := same_new (o := HO.dK []) nde
      have ede : upd Hc de (HO.dK []) de = some (.dK []) := upd_same
      generalize upd Hc de (HO.dK []) = Hd at st2 ede ⊢
      refine ⟨(by show 7 ≤ sizeLine; decide), fun l7 nl7 => ?_⟩
      have st3 := same_new (o := HO.lst [V.non, .str "mover", .ref Pa, .ref rb, .ref te, .int 3, .ref de]) nl7
      have e7 : upd Hd l7 (HO.lst [V.non, .str "mover", .ref Pa, .ref rb, .ref te, .int 3, .ref de]) l7 = some (.lst [.non, .str "mover", .ref Pa, .ref rb, .ref te, .int 3, .ref de]) := upd_same
      generalize upd Hd l7 (HO.lst [V.non, .str "mover", .ref Pa, .ref rb, .ref te, .int 3, .ref de]) = He at st3 e7 ⊢
      have sb3 := (st1.trans st2).trans st3
      have sw := (sa.trans sb).trans sb3
      have Be := Bw.up sw
      have Ke := Kw.trans (same_keep (p := p) sw)
      have hRa := (hRa.up sb).up sb3
      have hRb := hRb.up sb3
      have ete := st3 _ _ (st2 _ _ ete)
      have ede := st3 _ _ ede
      have ne7 : l7 ≠ p := dice_ne (((dice_up (dice_up (dice_up (dice_up Bw.di sa) sb) st1) st2))) nl7
      refine ⟨p, l7, _, rfl, Be.di, e7, ne7, (by show 0 < 7; decide), (by show 7 < 1000; decide), fun iv vv xa xb xc hv hxa => ?_⟩
      have kx : Keep p He (upd He p (HO.lst [V.int xa, V.int xb, V.int xc])) := keep_upd
      have dz : DiceAt (upd He p (HO.lst [V.int xa, V.int xb, V.int xc])) p := .upd hxa
      obtain ⟨pa_, pb_, pc_, hpe, _⟩ := id Be.di
      have rdk : ∀ {r : Addr}, RdAt K C He r rs → RdAt K C (upd He p (HO.lst [V.int xa, V.int xb, V.int xc])) r rs := fun ⟨dx, L0, T0, p0, a0, b0, c0, d0⟩ => ⟨dx, L0, T0, p0, kx _ _ (fun z => by rw [z, hpe] at a0; cases a0) a0, b0.kp hpe kx, c0, pairs_off hpe kx d0⟩
      have Pz := off_seq hpe kx Be.pa
      have Rz := rdk hRb
      have Tz := kx te _ (fun z => by rw [z, hpe] at ete; cases ete) ete
      have Dz := kx de _ (fun z => by rw [z, hpe] at ede; cases ede) ede
      refine ⟨ra, rs, vv, rfl, rdk hRa, okr, .inr ⟨?_, fun H' s' => ⟨rfl, (Ke.trans kx).trans (same_keep s'), dice_up dz s'⟩⟩⟩
      have tyn : ∀ t ∈ tys, PySem.W.kitOne K (.type t) (.ref CM) = some false := T.iM.no
      obtain ⟨dxb, Lrb, Trb, prb, erb, _⟩ := id Rz
      match iv, hv with
      | 0, hv => cases hv; exact ⟨_, dp_ty .non, tyn _ (by decide)⟩
      | 1, hv => cases hv; exact ⟨_, dp_ty (.str _), tyn _ (by decide)⟩
      | 2, hv => cases hv; exact ⟨_, sqT_ty Pz, tyn _ (by decide)⟩
      | 3, hv => cases hv; exact ⟨_, .base (.ins erb T.cl T.iR.ha T.iR.hn T.iR.htk T.iR.hm), T.noR⟩
      | 4, hv => cases hv; exact ⟨_, sqT_ty (SqT.of Tz), tyn _ (by decide)⟩
      | 5, hv => cases hv; exact ⟨_, dp_ty (.int _), tyn _ (by decide)⟩
      | 6, hv => cases hv; exact ⟨_, .base (.dK Dz), tyn _ (by decide)⟩
      | n + 7, hv => simp at hv

    · have B9 := B7
      have L9 := L7
      have K9 := K7
      clear B7 L7 K7
      generalize H7 = Hs at B9 L9 K9 ⊢
      refine ⟨_, rfl, W, rfl, ⟨_, SqL.of B9.wd⟩, fun Dd nDd => ?_⟩
      refine lc_fil walk_list nDd (AP (α := Str) (fun a w H' => SqT K H' a [.str w, .str (tN w)]) (fun j w => ws[j]? = some w)) ap_nil (fun H' s' => sqL_up (SqL.of B9.wd) s') ?_ ?_
      · rintro i v acc Hx Hy hi s2 e2 hap ⟨rfl, hv⟩
        rw [List.length_map] at hi
        have w3 := wok.hi
        rw [List.getElem?_map] at hv
        obtain ⟨wd, hw, rfl⟩ := Option.map_eq_some_iff.mp hv
        refine ⟨rfl, tt_yes ⟨_, rfl, _, rfl, _, _, rfl, rfl, tok.sz wd (List.mem_of_getElem? hw), (by show 2 ≤ sizeLine; decide), fun a na => ?_⟩⟩
        exact ap_put (α := Str) (v := wd) (fun a v l H H' e k h => off_seq e k h) (fun a v H H' s h => sqT_up h s) nDd s2 e2 (same_new na) hap (by omega) (SqT.of upd_same) hw
      rintro acc Hx sx ex ⟨ds, rfl, lds, hds, ods⟩
      rw [List.length_map] at lds
      have eds : ds.map Prod.snd = ws := by
        refine List.ext_getElem? fun i => ?_
        by_cases hi : i < ds.length
        · have h1 : ds[i]? = some ds[i] := List.getElem?_eq_getElem hi
          rw [List.getElem?_map, h1, ods i _ h1]; rfl
        · rw [List.getElem?_eq_none (by rw [List.length_map]; omega), List.getElem?_eq_none (by omega)]
      refine ⟨Dd, ds.map Prod.fst, (gN ws).map prT, rfl, SqL.of (by rw [ex, List.map_map]; rfl), ?_, fun dg ndg => ?_⟩
      · rw [← eds, List.map_map, List.map_map]
        clear eds lds ods ex sx
        induction ds with
        | nil => exact .nil
        | cons d ds ih => exact .cons (hds d List.mem_cons_self) (ih fun x hx => hds x (.tail _ hx))
      have hdg : TxD (upd Hx dg (.dK (mergeK [] ((gN ws).map prT)))) dg (gN ws) := by
        show upd Hx dg _ dg = _
        rw [upd_same, show mergeK [] ((gN ws).map prT) = (gN ws).map prT from merge_tx (es := []) (by rw [List.map_nil, List.nil_append]; exact tok.ok.dif)]
      have sg := sx.trans (same_new (o := HO.dK (mergeK [] ((gN ws).map prT))) ndg)
      generalize upd Hx dg (.dK (mergeK [] ((gN ws).map prT))) = Hg at hdg sg ⊢
      have Bg := B9.up sg
      have Lg := L9.up sg
      have Kg := K9.trans (same_keep (p := p) sg)
      clear B9 L9 K9 sg sx ex hds ods lds eds ndg
      refine ⟨_, rfl, L, rfl, ⟨_, Lg.1⟩, fun Do nDo => ?_⟩
      refine lc_fil walk_tup nDo (AP (α := Ln) (fun a l H' => SqT K H' a l.vs) (fun j l => ∃ r, rs[j]? = some r ∧ l = lnT tN r.2)) ap_nil (fun H' s' => sqT_up Lg.1 s') ?_ ?_
      · rintro i v acc Hx Hy hi s2 e2 hap ⟨rfl, hv⟩
        rw [List.length_map] at hi
        rw [List.getElem?_map] at hv
        obtain ⟨r, hri, rfl⟩ := Option.map_eq_some_iff.mp hv
        have rm := List.mem_of_getElem? hri
        have hr_ := sqT_up (Lg.2 r rm) s2
        obtain ⟨ad, l⟩ := r
        refine ⟨rfl, tt_yes ?_⟩
        cases l with
        | go n =>
          refine ⟨_, rfl, ad, _, _, _, rfl, rfl, hr_, atI_nat (j := 0) rfl, rfl, false, congrArg V.bl (by decide +kernel), iteF ?_⟩
          exact ⟨_, rfl, ap_put (α := Ln) (v := lnT tN (.go n)) (fun a v l H H' e k h => off_seq e k h) (fun a v H H' s h => sqT_up h s) nDo s2 e2 (Same.refl _) hap (by omega) hr_ ⟨_, hri, rfl⟩⟩
        | ift t q c =>
          have hw := dr _ rm
          have tw : t ∈ ws := hw.1
          refine ⟨_, rfl, ad, _, _, _, rfl, rfl, hr_, atI_nat (j := 0) rfl, rfl, true, congrArg V.bl (by decide +kernel), iteT ?_⟩
          refine ⟨_, rfl, ad, _, _, _, rfl, rfl, hr_, atI_nat (j := 0) rfl, _, rfl, _, rfl, ad, _, _, _, rfl, rfl, hr_, atI_nat (j := 1) rfl, dg, _, rfl, .inl ⟨_, Sum.inr t, .inl (s2 _ _ hdg), rfl, (tx_val (y := tN t) (gs := gN ws) tok.ok.dif (List.mem_map_of_mem (f := fun w => (w, tN w)) tw)).symm⟩, (by show 2 ≤ sizeLine; decide), fun t4 n4 => ?_⟩
          have y4 := same_new (o := HO.tup [V.str "if", .str (tN t)]) n4
          refine ⟨_, rfl, _, rfl, ad, _, rfl, sqT_up hr_ y4, fun q5 Hq y5 h5 => ?_⟩
          rw [show ((2 : Int)) = ((2 : Nat) : Int) from rfl, cut_from (by show 2 ≤ 4; decide)] at h5
          refine ⟨_, _, _, _, rfl, rfl, sqT_up (SqT.of upd_same) y5, h5, (by show 2 + 2 ≤ sizeLine; decide), fun a5 Hr y6 h6 => ?_⟩
          exact ap_put (α := Ln) (v := lnT tN (.ift t q c)) (fun a v l H H' e k h => off_seq e k h) (fun a v H H' s h => sqT_up h s) nDo s2 e2 ((y4.trans y5).trans y6) hap (by omega) h6 ⟨_, hri, rfl⟩
        | look t q =>
          have hw := dr _ rm
          have tw : t ∈ ws := hw.1
          refine ⟨_, rfl, ad, _, _, _, rfl, rfl, hr_, atI_nat (j := 0) rfl, rfl, true, congrArg V.bl (by decide +kernel), iteT ?_⟩
          refine ⟨_, rfl, ad, _, _, _, rfl, rfl, hr_, atI_nat (j := 0) rfl, _, rfl, _, rfl, ad, _, _, _, rfl, rfl, hr_, atI_nat (j := 1) rfl, dg, _, rfl, .inl ⟨_, Sum.inr t, .inl (s2 _ _ hdg), rfl, (tx_val (y := tN t) (gs := gN ws) tok.ok.dif (List.mem_map_of_mem (f := fun w => (w, tN w)) tw)).symm⟩, (by show 2 ≤ sizeLine; decide), fun t4 n4 => ?_⟩
          have y4 := same_new (o := HO.tup [V.str "look", .str (tN t)]) n4
          refine ⟨_, rfl, _, rfl, ad, _, rfl, sqT_up hr_ y4, fun q5 Hq y5 h5 => ?_⟩
          rw [show ((2 : Int)) = ((2 : Nat) : Int) from rfl, cut_from (by show 2 ≤ 3; decide)] at h5
          refine ⟨_, _, _, _, rfl, rfl, sqT_up (SqT.of upd_same) y5, h5, (by show 2 + 1 ≤ sizeLine; decide), fun a5 Hr y6 h6 => ?_⟩
          exact ap_put (α := Ln) (v := lnT tN (.look t q)) (fun a v l H H' e k h => off_seq e k h) (fun a v H H' s h => sqT_up h s) nDo s2 e2 ((y4.trans y5).trans y6) hap (by omega) h6 ⟨_, hri, rfl⟩
        | read t q =>
          have hw := dr _ rm
          have tw : t ∈ ws := hw.1
          refine ⟨_, rfl, ad, _, _, _, rfl, rfl, hr_, atI_nat (j := 0) rfl, rfl, true, congrArg V.bl (by decide +kernel), iteT ?_⟩
          refine ⟨_, rfl, ad, _, _, _, rfl, rfl, hr_, atI_nat (j := 0) rfl, _, rfl, _, rfl, ad, _, _, _, rfl, rfl, hr_, atI_nat (j := 1) rfl, dg, _, rfl, .inl ⟨_, Sum.inr t, .inl (s2 _ _ hdg), rfl, (tx_val (y := tN t) (gs := gN ws) tok.ok.dif (List.mem_map_of_mem (f := fun w => (w, tN w)) tw)).symm⟩, (by show 2 ≤ sizeLine; decide), fun t4 n4 => ?_⟩
          have y4 := same_new (o := HO.tup [V.str "read", .str (tN t)]) n4
          refine ⟨_, rfl, _, rfl, ad, _, rfl, sqT_up hr_ y4, fun q5 Hq y5 h5 => ?_⟩
          rw [show ((2 : Int)) = ((2 : Nat) : Int) from rfl, cut_from (by show 2 ≤ 3; decide)] at h5
          refine ⟨_, _, _, _, rfl, rfl, sqT_up (SqT.of upd_same) y5, h5, (by show 2 + 1 ≤ sizeLine; decide), fun a5 Hr y6 h6 => ?_⟩
          exact ap_put (α := Ln) (v := lnT tN (.read t q)) (fun a v l H H' e k h => off_seq e k h) (fun a v H H' s h => sqT_up h s) nDo s2 e2 ((y4.trans y5).trans y6) hap (by omega) h6 ⟨_, hri, rfl⟩
      rintro acc Hx sx ex ⟨os, rfl, los, hos, oos⟩
      rw [List.length_map] at los
      refine ⟨Do, _, rfl, SqL.of ex, fun Lo nLo => ?_⟩
      have so := same_new (o := HO.tup (os.map fun d => V.ref d.1)) nLo
      have hLo : LinesAt K (upd Hx Lo (HO.tup (os.map fun d => V.ref d.1))) Lo os := ⟨SqT.of upd_same, fun r hr => sqT_up (hos r hr) so⟩
      generalize upd Hx Lo (HO.tup (os.map fun d => V.ref d.1)) = Ho at so hLo ⊢
      have sgo := sx.trans so
      have Bo := Bg.up sgo
      have L_o := Lg.up sgo
      have Ko := Kg.trans (same_keep (p := p) sgo)
      have hdo := sgo _ _ hdg
      have eos : lnsOf os = (lnsOf rs).map (lnT tN) := by
        refine List.ext_getElem? fun i => ?_
        by_cases hi : i < os.length
        · have h1 : os[i]? = some os[i] := List.getElem?_eq_getElem hi
          obtain ⟨r, hr, e⟩ := oos i _ h1
          rw [List.getElem?_map, h1, List.getElem?_map, List.getElem?_map, hr]
          exact congrArg some e
        · rw [List.getElem?_eq_none (by rw [List.length_map]; omega), List.getElem?_eq_none (by rw [List.length_map, List.length_map]; omega)]
      have oko : RdOk os := rd_ok (by omega) fun x hx => by
        obtain ⟨i, hi⟩ := List.getElem?_of_mem hx
        obtain ⟨r, hr, e⟩ := oos i x hi
        rw [e, los, el]
        exact fine_turn (dr r (List.mem_of_getElem? hr)) tok.nm pok.nm
      clear Bg Lg Kg hdg sx ex so sgo hos oos nLo nDo
      obtain ⟨dmv, Pm, Tm, Lm, Sm, Bm, Jm, dsm, ssm, qsm, emv, _⟩ := id Bo.mv.at_
      refine ⟨_, rfl, m, dmv, _, rfl, emv, mv_no2, _, rfl, rfl, m, .non, .ref dg, ps, us, cs, (fun n => n), newOf (gN ws), rfl, Bo.mv.at_, pok, Bo.mv.tbs, Bo.mv.bs, .inl ⟨rfl, rfl⟩, .inr ⟨dg, gN ws, rfl, hdo, by rw [mdn]; exact tok.ok, rfl⟩, fun us2 ws2 cs2 z n1 n2 => two_joins (two_to Bo.mv.two z) n1 n2, fun Hm mt qs us2 ws2 cs2 sm nmt hA hto n1 n2 hMt => ?_⟩
      have eqs : qs = ps := ascS_one hA.up pok.up fun k => (hA.mem k).trans (by rw [show ps.map (fun n => n) = ps from List.map_id ps])
      subst eqs
      have nmt2 : ws2.map Tb.nm = ws.map tN := by
        rw [n1.nms, hto.nms, mdn]
        exact List.map_congr_left fun w hw => tok.new w hw
      have lws2 : 1 ≤ ws2.length := by rw [n1.len, hto.len]; exact mlo
      have Bm_ := Bo.up sm
      have Lm_ := L_o.up sm
      have Lom := hLo.up sm
      have Km := Ko.trans (same_keep (p := p) sm)
      clear Bo L_o hLo Ko sm nmt hA hto n1 n2 hdo emv
      have f1 : rightB (ws.map tN) qs (lnsOf os) = true := by
        rw [eos]; unfold rightB; rw [List.all_map]
        exact List.all_eq_true.mpr fun l hl => by
          obtain ⟨r, hr, rfl⟩ := List.mem_map.mp hl
          exact good_turn wok.lo tok.inj (dr r hr)
      have f2 : rightB ws qs (lnsOf os) = (lnsOf rs).all plainL := by
        rw [eos]; unfold rightB; rw [List.all_map]
        exact all_cong fun l hl => by
          obtain ⟨r, hr, rfl⟩ := List.mem_map.mp hl
          exact strange_turn tok.no (dr r hr)
      have f3 : rightB (ws.map tN) qs (lnsOf rs) = (lnsOf rs).all plainL := all_cong fun l hl => by
          obtain ⟨r, hr, rfl⟩ := List.mem_map.mp hl
          exact strange_of tok.no2 (dr r hr)
      generalize hpl : (lnsOf rs).all plainL = pl at f2 f3
      refine ⟨rfl, _, rfl, Lo, os, rfl, Lom, oko, fun Hr1 q1 sr1 nq1 hRq1 => ?_⟩
      obtain ⟨dxq1, Lrq1, Trq1, prq1, eq1, _⟩ := id hRq1
      refine ⟨q1, _, _, rfl, eq1, rd_no (by decide +kernel) (by decide +kernel), _, rfl, q1, os, _, rfl, hRq1, oko, .inl ⟨mt, qs, ws2, cs2, rfl, hMt.up sr1, lws2, fun Hf1 sf1 => ?_⟩⟩
      rw [nmt2, right_fit, f1]
      have t1 := sr1.trans sf1
      refine ⟨rfl, _, rfl, Lo, os, rfl, Lom.up t1, oko, fun Hr2 q2 sr2 nq2 hRq2 => ?_⟩
      obtain ⟨dxq2, Lrq2, Trq2, prq2, eq2, _⟩ := id hRq2
      refine ⟨q2, _, _, rfl, eq2, rd_no (by decide +kernel) (by decide +kernel), _, rfl, q2, os, _, rfl, hRq2, oko, .inl ⟨m, qs, us, cs, rfl, (Bm_.up (t1.trans sr2)).mv.at_, mlo, fun Hf2 sf2 => ?_⟩⟩
      rw [mdn, right_fit, f2]
      have t2 := (t1.trans sr2).trans sf2
      refine ⟨rfl, _, rfl, L, rs, rfl, Lm_.up t2, okr, fun Hr3 q3 sr3 nq3 hRq3 => ?_⟩
      obtain ⟨dxq3, Lrq3, Trq3, prq3, eq3, _⟩ := id hRq3
      refine ⟨q3, _, _, rfl, eq3, rd_no (by decide +kernel) (by decide +kernel), _, rfl, q3, rs, _, rfl, hRq3, okr, .inl ⟨mt, qs, ws2, cs2, rfl, hMt.up (t2.trans sr3), lws2, fun Hf3 sf3 => ?_⟩⟩
      rw [nmt2, right_fit, f3]
      have t3 := (t2.trans sr3).trans sf3
      refine ⟨(by show 3 ≤ sizeLine; decide), fun lt nlt => ?_⟩
      have t4 := t3.trans (same_new (o := HO.lst [V.bl true, .bl pl, .bl pl]) nlt)
      have elt : upd Hf3 lt (HO.lst [V.bl true, .bl pl, .bl pl]) lt = some (.lst [.bl true, .bl pl, .bl pl]) := upd_same
      generalize upd Hf3 lt (HO.lst [V.bl true, .bl pl, .bl pl]) = H9 at t4 elt ⊢
      have B9 := Bm_.up t4
      have L9 := Lm_.up t4
      have K9 := Km.trans (same_keep (p := p) t4)
      clear Bm_ Lm_ Km t1 t2 t3 t4 Lom hMt
      refine ⟨_, rfl, L, rfl, ⟨_, L9.1⟩, fun Dp nDp => ?_⟩
      refine lc_fil walk_tup nDp (fun i acc _ => acc = ((rs.take i).filter fun r => !plainL r.2).map fun r => V.ref r.1) rfl (fun H' s' => sqT_up L9.1 s') ?_ ?_
      · rintro i v acc Hx Hy hi s2 e2 rfl ⟨rfl, hv⟩
        rw [List.length_map] at hi
        rw [List.getElem?_map] at hv
        obtain ⟨r, hri, rfl⟩ := Option.map_eq_some_iff.mp hv
        have rm := List.mem_of_getElem? hri
        have hr_ := sqT_up (L9.2 r rm) s2
        have nx : ((rs.take (i + 1)).filter fun r => !plainL r.2) = ((rs.take i).filter fun r => !plainL r.2) ++ [r].filter fun r => !plainL r.2 := by rw [List.take_add_one, hri, List.filter_append]; rfl
        refine ⟨rfl, _, rfl, r.1, _, _, _, rfl, rfl, hr_, atI_nat (j := 0) (ln_word r.2), rfl, _, rfl, ite2 (fun c => ?_) (fun c => ?_)⟩
        · have c' : plainL r.2 = false := by
            show decide (r.2.word = "go") = false
            refine decide_eq_false fun e => ?_
            rw [e, decide_eq_true rfl] at c
            exact absurd c (by decide)
          refine ⟨_, rfl, put_of nDp (fun _ _ _ _ _ _ _ z => z) s2 e2 (Same.refl _) ?_ ?_⟩
          · rw [List.length_map, sizeLine_eq]
            have := List.length_filter_le (fun r : Addr × Ln => !plainL r.2) (rs.take i)
            rw [List.length_take] at this
            omega
          · rw [nx, List.filter_cons_of_pos (by rw [c']; rfl), List.map_append]; rfl
        · have c' : plainL r.2 = true := by
            show decide (r.2.word = "go") = true
            by_cases e : r.2.word = "go"
            · exact decide_eq_true e
            · exact absurd (show (!decide (V.str r.2.word = V.str "go")) = true by rw [decide_eq_false fun z => e (V.str.inj z)]; rfl) c
          refine fil_of s2 e2 (Same.refl _) ?_
          rw [nx, List.filter_cons_of_neg (by rw [c']; decide)]; simp
      rintro acc Hx sx ex rfl
      rw [List.length_map, List.take_length] at ex
      refine ⟨(by show 0 ≤ sizeLine; decide), fun l0 nl0 => ?_⟩
      have s0 := same_new (o := HO.lst []) nl0
      have e0 : upd Hx l0 (HO.lst []) l0 = some (.lst []) := upd_same
      generalize upd Hx l0 (HO.lst []) = Hz at s0 e0 ⊢
      have sz0 := sx.trans s0
      have Bz := B9.up sz0
      have Lz := L9.up sz0
      have Kz := K9.trans (same_keep (p := p) sz0)
      have elz := sz0 _ _ elt
      obtain ⟨nf, enf⟩ : ∃ nf : RowsL, nf = rs.filter fun r => !plainL r.2 := ⟨_, rfl⟩
      rw [← enf] at ex
      have mnf : ∀ r ∈ nf, r ∈ rs := fun r hr => by rw [enf] at hr; exact (List.mem_filter.mp hr).1
      have safe : ∀ l ∈ lnsOf nf, l.safe := fun l hl => by
        obtain ⟨r, hr, rfl⟩ := List.mem_map.mp hl
        exact fine_safe (okr.fine r (mnf r hr))
      have dps : ∀ xs : RowsL, (∀ r ∈ xs, r ∈ rs) → DpAll K Hz (xs.map fun r => V.ref r.1) ((xs.map Prod.snd).map Ln.d) := by
        intro xs
        induction xs with
        | nil => exact fun _ => .nil
        | cons x xs ih => exact fun h => .cons (ln_dp (Lz.2 x (h x List.mem_cons_self))) (ih fun y hy => h y (.tail _ hy))
      refine ⟨.list ((lnsOf nf).map Ln.d), .list [], .lst (SqL.of (s0 _ _ ex)) (dps nf mnf), .lst (SqL.of e0) .nil, lst_shaped safe, by decide +kernel, ?_⟩
      have epl : PyData.eqv (.list ((lnsOf nf).map Ln.d)) (.list []) = pl := by
        rw [lst_none, ← hpl, ← plain_none, enf]
        rw [show lnsOf (rs.filter fun r => !plainL r.2) = (lnsOf rs).filter fun l => !plainL l from (List.filter_map (p := fun l => !plainL l) (f := Prod.snd)).symm]
      rw [epl]
      refine ⟨_, rfl, _, rfl, _, rfl, (by show 3 ≤ sizeLine; decide), fun l3 nl3 => ?_⟩
      have s3 := same_new (o := HO.lst [V.bl true, .bl pl, .bl pl]) nl3
      have e3 : upd Hz l3 (HO.lst [V.bl true, .bl pl, .bl pl]) l3 = some (.lst [.bl true, .bl pl, .bl pl]) := upd_same
      generalize upd Hz l3 (HO.lst [V.bl true, .bl pl, .bl pl]) = Hw at s3 e3 ⊢
      refine ⟨.list [.bool true, .bool pl, .bool pl], .list [.bool true, .bool pl, .bool pl], .lst (SqL.of (s3 _ _ elz)) (.cons (.bl _) (.cons (.bl _) (.cons (.bl _) .nil))), .lst (SqL.of e3) (.cons (.bl _) (.cons (.bl _) (.cons (.bl _) .nil))), sh_b3 _ _ _, sh_b3 _ _ _, _, rfl, ?_⟩
      rw [eqv_b3]
      refine iteF ?_
      have Bw := Bz.up s3
      have Lw := Lz.up s3
      have Kw := Kz.trans (same_keep (p := p) s3)
      clear B9 L9 K9 Bz Lz Kz s3 e3 elz s0 e0 sz0 sx ex elt dps safe
      refine ⟨fun cls d H' => cls = .ref CI ∧ Keep p H H' ∧ DiceAt H' p, fun cls d σ' H' ⟨e, kx, dx⟩ => ?_, ?_⟩
      · subst e
        refine ⟨true, T.eII, fun _ a ha => ?_, fun z => nomatch z⟩
        rw [if_neg (by decide)]
        exact k _ kx dx
      refine ⟨rfl, _, rfl, L, rs, rfl, Lw, okr, fun Ha ra sa na_ hRa => ?_⟩
      obtain ⟨dxa, Lra, Tra, pra, era, _⟩ := id hRa
      refine ⟨ra, _, _, rfl, era, rd_no (by decide +kernel) (by decide +kernel), _, rfl, _, rfl, rfl, _, rfl, L, rs, rfl, Lw.up sa, okr, fun Hb rb sb nb hRb => ?_⟩
      refine ⟨(by show 0 ≤ sizeLine; decide), fun te nte => ?_⟩
      have st1 := same_new (o := HO.tup []) nte
      have ete : upd Hb te (HO.tup []) te = some (.tup []) := upd_same
      generalize upd Hb te (HO.tup []) = Hc at st1 ete ⊢
      refine fun de nde => ?_
      have st2 := same_new (o := HO.dK []) nde
      have ede : upd Hc de (HO.dK []) de = some (.dK []) := upd_same
      generalize upd Hc de (HO.dK []) = Hd at st2 ede ⊢
      refine ⟨(by show 7 ≤ sizeLine; decide), fun l7 nl7 => ?_⟩
      have st3 := same_new (o := HO.lst [V.non, .str "mover", .ref Pa, .ref rb, .ref te, .int 3, .ref de]) nl7
      have e7 : upd Hd l7 (HO.lst [V.non, .str "mover", .ref Pa, .ref rb, .ref te, .int 3, .ref de]) l7 = some (.lst [.non, .str "mover", .ref Pa, .ref rb, .ref te, .int 3, .ref de]) := upd_same
      generalize upd Hd l7 (HO.lst [V.non, .str "mover", .ref Pa, .ref rb, .ref te, .int 3, .ref de]) = He at st3 e7 ⊢
      have sb3 := (st1.trans st2).trans st3
      have sw := (sa.trans sb).trans sb3
      have Be := Bw.up sw
      have Ke := Kw.trans (same_keep (p := p) sw)
      have hRa := (hRa.up sb).up sb3
      have hRb := hRb.up sb3
      have ete := st3 _ _ (st2 _ _ ete)
      have ede := st3 _ _ ede
      have ne7 : l7 ≠ p := dice_ne (((dice_up (dice_up (dice_up (dice_up Bw.di sa) sb) st1) st2))) nl7
      refine ⟨p, l7, _, rfl, Be.di, e7, ne7, (by show 0 < 7; decide), (by show 7 < 1000; decide), fun iv vv xa xb xc hv hxa => ?_⟩
      have kx : Keep p He (upd He p (HO.lst [V.int xa, V.int xb, V.int xc])) := keep_upd
      have dz : DiceAt (upd He p (HO.lst [V.int xa, V.int xb, V.int xc])) p := .upd hxa
      obtain ⟨pa_, pb_, pc_, hpe, _⟩ := id Be.di
      have rdk : ∀ {r : Addr}, RdAt K C He r rs → RdAt K C (upd He p (HO.lst [V.int xa, V.int xb, V.int xc])) r rs := fun ⟨dx, L0, T0, p0, a0, b0, c0, d0⟩ => ⟨dx, L0, T0, p0, kx _ _ (fun z => by rw [z, hpe] at a0; cases a0) a0, b0.kp hpe kx, c0, pairs_off hpe kx d0⟩
      have Pz := off_seq hpe kx Be.pa
      have Rz := rdk hRb
      have Tz := kx te _ (fun z => by rw [z, hpe] at ete; cases ete) ete
      have Dz := kx de _ (fun z => by rw [z, hpe] at ede; cases ede) ede
      refine ⟨ra, rs, vv, rfl, rdk hRa, okr, .inr ⟨?_, fun H' s' => ⟨rfl, (Ke.trans kx).trans (same_keep s'), dice_up dz s'⟩⟩⟩
      have tyn : ∀ t ∈ tys, PySem.W.kitOne K (.type t) (.ref CM) = some false := T.iM.no
      obtain ⟨dxb, Lrb, Trb, prb, erb, _⟩ := id Rz
      match iv, hv with
      | 0, hv => cases hv; exact ⟨_, dp_ty .non, tyn _ (by decide)⟩
      | 1, hv => cases hv; exact ⟨_, dp_ty (.str _), tyn _ (by decide)⟩
      | 2, hv => cases hv; exact ⟨_, sqT_ty Pz, tyn _ (by decide)⟩
      | 3, hv => cases hv; exact ⟨_, .base (.ins erb T.cl T.iR.ha T.iR.hn T.iR.htk T.iR.hm), T.noR⟩
      | 4, hv => cases hv; exact ⟨_, sqT_ty (SqT.of Tz), tyn _ (by decide)⟩
      | 5, hv => cases hv; exact ⟨_, dp_ty (.int _), tyn _ (by decide)⟩
      | 6, hv => cases hv; exact ⟨_, .base (.dK Dz), tyn _ (by decide)⟩
      | n + 7, hv => simp at hv


end
end Rd

/-! The law -/
namespace Rd
open PySem PySem.Spec PyProof.Rows L2 Tq Dn Dc Mk2 Ox
def wkT (w : Str) : Tb := ⟨w, [("new", ["live"]), ("old", ["arch"])], []⟩
theorem wkT_ok {ps : List Str} {w : Str} (ha : ("arch" : Str) ∈ ps) (hb : ("live" : Str) ∈ ps) (hw : nameS w = true) : OkTb ps (wkT w) := by
  have h := (mkT_ok (a := "live") (b := "arch") hb ha hw).pl
  exact ⟨hw, h, ⟨by show 0 < 64; decide, (fun p z => nomatch z), (fun p z => nomatch z)⟩, fun p z => nomatch z⟩
theorem wkTs_ok {ps ws : List Str} (ha : ("arch" : Str) ∈ ps) (hb : ("live" : Str) ∈ ps) (h : Words ws) : OkTbs ps (ws.map wkT) := by
  refine ⟨by rw [List.length_map]; exact h.lo, by rw [List.length_map]; exact h.hi, fun t ht => ?_, ?_⟩
  · obtain ⟨w, hw, rfl⟩ := List.mem_map.mp ht
    exact wkT_ok ha hb (h.nm w hw)
  · rw [List.map_map]
    have : (ws.map (Tb.nm ∘ wkT)) = ws := (List.map_congr_left (fun w _ => rfl)).trans (List.map_id ws)
    rw [this]; exact h.dif
theorem wkTs_two {ws : List Str} (h : Words ws) : Two (ws.map wkT) (fullL (ws.map wkT)) := by
  refine full_two (by rw [List.length_map]; exact h.lo) (by rw [List.length_map]; exact h.hi) (fun t ht => ?_) (full_is (by rw [List.length_map]; exact h.lo))
  obtain ⟨w, hw, rfl⟩ := List.mem_map.mp ht
  exact List.Perm.refl _
def wA : List Str := ["items", "orders"]
def wB : List Str := ["orders", "items"]
def pA : List Str := ["arch", "live"]
theorem wAB_ok : Words wA ∧ Words wB ∧ OkParts pA := ⟨⟨by decide +kernel, by decide +kernel, by decide +kernel, by decide +kernel⟩, ⟨by decide +kernel, by decide +kernel, by decide +kernel, by decide +kernel⟩, ⟨by decide +kernel, by decide +kernel, by decide +kernel, by decide +kernel⟩⟩
/-- a reader made by its class, of the lines one by one -/
theorem made_rd {K : PySem.W.Frag} {C : Addr} {H : Hp} {rs : RowsL} {Q : VK} {E : XK} (h : ∀ r ∈ rs, SqT K H r.1 r.2.vs) (ok : RdOk rs) (k : ∀ H' r, Same H H' → H r = none → RdAt K C H' r rs → Q (.ref r) H') {x dx : Addr} (nx : H x = none) (nd : H dx = none) (ne : dx ≠ x) :
    spStar 1 (spInit K C) (.ref x :: (rs.map fun r => V.ref r.1)) (upd (upd H dx (.own x)) x (.ins C dx [])) (fun v H2 => v = .non ∧ Q (.ref x) H2) E := by
  have s1 : Same H (upd (upd H dx (.own x)) x (.ins C dx [])) := same_to nx (same_new nd)
  have few := ok.few
  refine ⟨[.ref x], rs.map fun r => V.ref r.1, rfl, rfl, by rw [List.length_map, sizeLine_eq]; omega, fun p np => ?_⟩
  have s2 := same_new (o := HO.tup (rs.map fun r => V.ref r.1)) np
  have hx := s2 _ _ (show upd (upd H dx (.own x)) x (.ins C dx []) x = _ from upd_same)
  have hL : LinesAt K (upd (upd (upd H dx (.own x)) x (.ins C dx [])) p (.tup (rs.map fun r => V.ref r.1))) p rs := ⟨SqT.of upd_same, fun r hr => sqT_up (sqT_up (h r hr) s1) s2⟩
  refine ⟨x, dx, p, rs, rfl, hx, hL, ok, fun H' T ps kp eH hA hP => ⟨rfl, k H' x (fun b o hb => kp b o (ne_of_none hb nx) ((s1.trans s2) b o hb)) nx ⟨dx, p, T, ps, eH, hL.off hx kp, hA, hP⟩⟩⟩
theorem made_rdR {K : PySem.W.Frag} {C : Addr} {H : Hp} {rs : RowsL} {R : VK} {E : XK} {x dx : Addr} (h : ∀ r ∈ rs, SqT K H r.1 r.2.vs) (ok : RdOk rs) (nx : H x = none) (nd : H dx = none) (ne : dx ≠ x) (k : ∀ H', Same H H' → RdAt K C H' x rs → R .non H') :
    spStar 1 (spInit K C) (.ref x :: (rs.map fun r => V.ref r.1)) (upd (upd H dx (.own x)) x (.ins C dx [])) R E := by
  have s1 : Same H (upd (upd H dx (.own x)) x (.ins C dx [])) := same_to nx (same_new nd)
  have few := ok.few
  refine ⟨[.ref x], rs.map fun r => V.ref r.1, rfl, rfl, by rw [List.length_map, sizeLine_eq]; omega, fun p np => ?_⟩
  have s2 := same_new (o := HO.tup (rs.map fun r => V.ref r.1)) np
  have hx := s2 _ _ (show upd (upd H dx (.own x)) x (.ins C dx []) x = _ from upd_same)
  have hL : LinesAt K (upd (upd (upd H dx (.own x)) x (.ins C dx [])) p (.tup (rs.map fun r => V.ref r.1))) p rs := ⟨SqT.of upd_same, fun r hr => sqT_up (sqT_up (h r hr) s1) s2⟩
  refine ⟨x, dx, p, rs, rfl, hx, hL, ok, fun H' T ps kp eH hA hP => k H' (fun b o hb => kp b o (ne_of_none hb nx) ((s1.trans s2) b o hb)) ⟨dx, p, T, ps, eH, hL.off hx kp, hA, hP⟩⟩
theorem made_mvR {K : PySem.W.Frag} {C : Addr} {H : Hp} {Pa : Addr} {ps : List Str} {rs : List (Addr × Tb)} {bs : List Prs} {R : VK} {E : XK} {x dx : Addr} (hPa : SqT K H Pa (ps.map V.str)) (okp : OkParts ps) (hTs : ∀ r ∈ rs, TbAt K H r.1 r.2) (okt : OkTbs ps (rs.map Prod.snd)) (hF : FullBs (rs.map Prod.snd) bs)
    (hj : ∀ us cs, NormTs (rs.map Prod.snd) us → NormBs bs cs → 1 ≤ (joins (fst0 us) cs).length ∧ (joins (fst0 us) cs).length ≤ 40) (nx : H x = none) (nd : H dx = none) (ne : dx ≠ x)
    (k : ∀ H' us cs, Same H H' → NormTs (rs.map Prod.snd) us → NormBs bs cs → MvAt K C H' x ps us cs → R .non H') : spMiK K C (.ref x :: .ref Pa :: (rs.map fun r => V.ref r.1)) none (upd (upd H dx (.own x)) x (.ins C dx [])) R E := by
  have s1 : Same H (upd (upd H dx (.own x)) x (.ins C dx [])) := same_to nx (same_new nd)
  have hi := okt.hi
  rw [List.length_map] at hi
  refine ⟨_, _, _, rfl, by rw [List.length_map, sizeLine_eq]; omega, fun q nq => ?_⟩
  have s2 := s1.trans (same_new (o := HO.tup (rs.map fun r => V.ref r.1)) nq)
  exact ⟨x, dx, Pa, q, .non, ps, rs, bs, rfl, same_new nq _ _ upd_same, sqT_up hPa s2, okp, ⟨SqT.of upd_same, fun r hr => (hTs r hr).up s2⟩, okt, .inl ⟨rfl, hF⟩, hj, fun H' us cs kp n1 n2 hM => k H' us cs (fun b o hb => kp b o (ne_of_none hb nx) (s2 b o hb)) n1 n2 hM⟩
theorem one_ok {ad : Addr} {l : Ln} (f : l.fine 1 = true) : RdOk [(ad, l)] := rd_ok (by show 1 ≤ 6; decide) fun r hr => by rw [List.mem_singleton.mp hr]; exact f
theorem none_ok : RdOk [] := rd_ok (by show 0 ≤ 6; decide) fun r hr => nomatch hr
theorem bls_dp {K : PySem.W.Frag} {H : Hp} : ∀ bs : List Bool, DpAll K H (bs.map V.bl) (bs.map PyData.bool)
  | [] => .nil
  | b :: bs => .cons (.bl b) (bls_dp bs)
def ls8 : List Ln := [.look "orders" "live", .look "items" "live", .ift "items" "cold" 0, .ift "orders" "arch" 1, .read "buyers" "live", .go 0, .read "items" "items", .read "orders" "arch"]
theorem ls8_fine : ∀ l ∈ ls8, l.fine 1 = true := by decide +kernel
theorem told8 : (ls8.map fun l => rightB wA pA [l]) = [true, false, false, true, false, true, false, true] := by decide +kernel
theorem told2 : ((ls8.take 2).map fun l => rightB wB pA [l]) = [false, true] := by decide +kernel
theorem b8_sh : SeqAt.shaped (.list (([true, false, false, true, false, true, false, true] : List Bool).map PyData.bool)) = true := by decide +kernel
theorem b8_eq : PyData.eqv (.list (([true, false, false, true, false, true, false, true] : List Bool).map PyData.bool)) (.list (([true, false, false, true, false, true, false, true] : List Bool).map PyData.bool)) = true := by decide +kernel
theorem b2_sh : SeqAt.shaped (.list (([false, true] : List Bool).map PyData.bool)) = true := by decide +kernel
theorem b2_eq : PyData.eqv (.list (([false, true] : List Bool).map PyData.bool)) (.list (([false, true] : List Bool).map PyData.bool)) = true := by decide +kernel
structure TxZ (K : PySem.W.Frag) (mg : Str → Option Value) (P : Program) (w : World) (base : Heap) (C CM CI : Addr) : Prop extends TxRt K mg P w base C CM CI where
  dice : Has P w K mg base "_law_dice" 1 ["_law_script", "_law_at"] (spDice K)
  right : Has P w K mg base "_law_right" 11 ["_law_dice_here"] (spRt K)
  madeR : ∃ f, Mk K C f ∧ FnR P w K mg base CX0 5 f (spStar 1 (spInit K C))
  madeM : ∃ f, Mk K CM f ∧ FnR P w K mg base CX0 7 f (fun vs H Q E => spMiK K CM vs none H Q E)
def spLw (K : PySem.W.Frag) : Sp := fun vs H Q _ => ∃ (a : Addr) (ns : List Int), vs = [.ref a] ∧ SqL K H a (ns.map V.int) ∧ ∀ H', Q (.bl true) H'
section
variable {P : Program} {w : World} {K : PySem.W.Frag} {mg : Str → Option Value} {base : Heap}
abbrev nLw : List Str := ["_law_script", "_law_at", "_law_dice_here", "_law_turn", "_law_places", "_law_chain", "_law_lines", "_law_told", "_law_back", "_law_line_here"]
theorem scLw : FnScope nLw ["_law_script"] (defScope sLw) := ⟨rfl, rfl, rfl, by decide +kernel, rfl, by decide +kernel, by decide +kernel⟩
theorem ok_lw {C CM CI f : Addr} {fd : FuncData} (F : Fun K "law" "law" sLw f fd) (T : TxZ K mg P w base C CM CI) : FnG P w K mg base 12 f fd ["_law_script"] (spLw K) := by
  obtain ⟨fD, dD, mD, kD, bD, GD⟩ := T.dice
  obtain ⟨fT, dT, mT, kT, bT, GT⟩ := T.right
  obtain ⟨fF, dF, MF, bF, GF⟩ := T.fits
  obtain ⟨fR, MR, GR⟩ := T.madeR
  obtain ⟨fM, MM, GM⟩ := T.madeM
  refine F.okG scLw (fun vs H Q E h => ?_) (fun cdv A outer s H vs Q E hgd hr h => ?_)
  · obtain ⟨a, ns, rfl, _⟩ := h; rfl
  · obtain ⟨a, ns, rfl, hS, k⟩ := h
    have hu := hr.units
    have r1 := hr.mono (show 1 ≤ 11 by decide)
    have r6 := hr.mono (show 6 ≤ 11 by decide)
    have r7 := hr.mono (show 7 ≤ 11 by decide)
    have r8 := hr.mono (show 8 ≤ 11 by decide)
    refine ⟨_, (pss_cons (ps_for PassesOwn.never rfl (pi_range1 (by rfl) T.range (pa_cons (pe_callB (call_max2 rfl) (by rfl) T.max PyProof.Rows.boot_max (pa_cons pe_int (pa_cons (pe_callB (call_min2 rfl) (by rfl) T.min PyProof.Rows.boot_min (pa_cons pe_int (pa_cons (pe_callB call_len_seq (by rfl) T.len PySem.boot_len (pa_cons (pv 0) pa_nil)) pa_nil))) pa_nil))) pa_nil)) (pg_name (i := 1) scLw.nd rfl (.inl rfl)) (pss_cons (ps_set (i := 2) scLw.nd rfl (Or.inl rfl) (pe_call GD r1 (by rfl) mD kD bD .nil pass0 (pa_cons (pv 0) (pa_cons (pv 1) pa_nil)))) (pss_one (ps_for PassesOwn.never rfl (pi_range1 (by rfl) T.range (pa_cons pe_int pa_nil)) (pg_name (i := 3) scLw.nd rfl (.inl rfl)) (pss_one (ps_if (pt_not (pt_val (pe_call GT hr (by rfl) mT kT bT .nil pass0 (pa_cons (pv 2) pa_nil)))) (pss_one (ps_ret pe_bl)) pss_nil))))))
      (pss_cons (ps_set (i := 4) scLw.nd rfl (Or.inl rfl) (pe_disp (pps_cons pe_str (pe_tup (pa_cons pe_str pa_nil)) (pps_cons pe_str (pe_tup (pa_cons pe_str pa_nil)) pps_nil)) rfl rfl (by simp) (by decide)))
      (pss_cons (ps_set (i := 5) scLw.nd rfl (Or.inr rfl) (StX.pe_makeR (E := E0) MM GM r8 (by rfl) T.gM pass0 (pa_cons (pe_tup (pa_cons pe_str (pa_cons pe_str pa_nil))) (pa_cons (pe_tup (pa_cons pe_str (pa_cons (pv 4) (pa_cons (pe_tup pa_nil) pa_nil)))) (pa_cons (pe_tup (pa_cons pe_str (pa_cons (pv 4) (pa_cons (pe_tup pa_nil) pa_nil)))) pa_nil)))))
      (pss_cons (ps_set (i := 6) scLw.nd rfl (Or.inl rfl) (pe_lst (pa_cons (pe_tup (pa_cons pe_str (pa_cons pe_str (pa_cons pe_str pa_nil)))) (pa_cons (pe_tup (pa_cons pe_str (pa_cons pe_str (pa_cons pe_str pa_nil)))) (pa_cons (pe_tup (pa_cons pe_str (pa_cons pe_str (pa_cons pe_str (pa_cons pe_int pa_nil))))) pa_nil)))))
      (pss_cons (ps_set (i := 6) scLw.nd rfl (Or.inl rfl) (pe_op op_cat (pv 6) (pe_lst (pa_cons (pe_tup (pa_cons pe_str (pa_cons pe_str (pa_cons pe_str (pa_cons pe_int pa_nil))))) (pa_cons (pe_tup (pa_cons pe_str (pa_cons pe_str (pa_cons pe_str pa_nil)))) (pa_cons (pe_tup (pa_cons pe_str (pa_cons pe_int pa_nil))) (pa_cons (pe_tup (pa_cons pe_str (pa_cons pe_str (pa_cons pe_str pa_nil)))) pa_nil)))))))
      (pss_cons (ps_expr (pe_bm PySem.F.plainAttrs_list PySem.F.slot_list_append PySem.F.type_list_append mt_append (pv 6) (pa_cons (pe_tup (pa_cons pe_str (pa_cons pe_str (pa_cons pe_str pa_nil)))) pa_nil)))
      (pss_cons (ps_setLc (i := 7) (own := [("_law_line_here", 9)]) (g := gName 9) (tt := tYes) (te := tMeth C "fits" (spFits K C CM CI) [] E0 (StX.tMakeR C (spStar 1 (spInit K C)) E0 (tCons (tVar 9) tNil)) (tCons (tVar 5) tNil)) rfl scLw.nd rfl rfl (sw_true rfl rfl rfl rfl) (pi_list (pv 6)) (blkOk_by (N := nLw) (sc := defScope sLw) (by decide +kernel)) (fun _ _ _ _ _ => pg_name (i := 9) scLw.nd rfl (Or.inl rfl)) (fun _ _ _ _ _ => pts_nil) (fun _ _ _ _ _ => (pe_meth (E := E0) (StX.pe_makeR (E := E0) MR GR r6 (by rfl) T.mgC pass0 (pa_cons (pv 9) pa_nil)) T.cl MF GF r7 bF .nil (L2N.passes_call takesN0 (fun _ _ _ _ h => h)) (pa_cons (pv 5) pa_nil))))
      (pss_cons (ps_if (PW.pt (pw_or (pt_cmpR (op_neD hu) (pv 7) (pe_lst (pa_cons pe_bl (pa_cons pe_bl (pa_cons pe_bl (pa_cons pe_bl (pa_cons pe_bl (pa_cons pe_bl (pa_cons pe_bl (pa_cons pe_bl pa_nil))))))))) (nomark _)) (pw_or1 (pt_cmpR op_notBl (pe_meth (E := E0) (pe_makeR0 (E := E0) MR GR r6 (by rfl) T.mgC pass0) T.cl MF GF r7 bF .nil (L2N.passes_call takesN0 (fun _ _ _ _ h => h)) (pa_cons (pv 5) pa_nil)) pe_bl (nomark _))))) (pss_one (ps_ret pe_bl)) pss_nil)
      (pss_cons (ps_set (i := 8) scLw.nd rfl (Or.inr rfl) (StX.pe_makeR (E := E0) MM GM r8 (by rfl) T.gM pass0 (pa_cons (pe_tup (pa_cons pe_str (pa_cons pe_str pa_nil))) (pa_cons (pe_tup (pa_cons pe_str (pa_cons (pv 4) (pa_cons (pe_tup pa_nil) pa_nil)))) (pa_cons (pe_tup (pa_cons pe_str (pa_cons (pv 4) (pa_cons (pe_tup pa_nil) pa_nil)))) pa_nil)))))
      (pss_one (ps_ret (pe_cmpR (op_eqD hu) (pe_lc (own := [("_law_line_here", 9)]) (g := gName 9) (tt := tYes) (te := tMeth C "fits" (spFits K C CM CI) [] E0 (StX.tMakeR C (spStar 1 (spInit K C)) E0 (tCons (tVar 9) tNil)) (tCons (tVar 8) tNil)) rfl scLw.nd (pi_list (pe_slice sl_list (pv 6) po_none (po_some pe_int))) (blkOk_by (N := nLw) (sc := defScope sLw) (by decide +kernel)) (fun _ _ _ _ _ => pg_name (i := 9) scLw.nd rfl (Or.inl rfl)) (fun _ _ _ _ _ => pts_nil) (fun _ _ _ _ _ => (pe_meth (E := E0) (StX.pe_makeR (E := E0) MR GR r6 (by rfl) T.mgC pass0 (pa_cons (pv 9) pa_nil)) T.cl MF GF r7 bF .nil (L2N.passes_call takesN0 (fun _ _ _ _ h => h)) (pa_cons (pv 8) pa_nil)))) (pe_lst (pa_cons pe_bl (pa_cons pe_bl pa_nil))) (nomark _))))))))))))), ?_⟩
    have hj : ∀ m : Nat, 0 ≤ (if (if ((m : Nat) : Int) < 5 then ((m : Nat) : Int) else 5) > 1 then (if ((m : Nat) : Int) < 5 then ((m : Nat) : Int) else 5) else 1) ∧ (if (if ((m : Nat) : Int) < 5 then ((m : Nat) : Int) else 5) > 1 then (if ((m : Nat) : Int) < 5 then ((m : Nat) : Int) else 5) else 1) ≤ 5 := fun m => by
      constructor <;> (repeat' split) <;> omega
    refine ⟨_, rfl, a, _, rfl, .inl hS, _, _, rfl, _, _, rfl, _, rfl, ?_, ?_, ?_⟩
    · have := (hj (ns.map V.int).length).1; exact Int.le_trans (by decide) this
    · have := (hj (ns.map V.int).length).2; exact Int.lt_of_le_of_lt this (by decide)
    have hn := (hj (ns.map V.int).length).2
    generalize (if (if (((ns.map V.int).length : Nat) : Int) < 5 then (((ns.map V.int).length : Nat) : Int) else 5) > 1 then (if (((ns.map V.int).length : Nat) : Int) < 5 then (((ns.map V.int).length : Nat) : Int) else 5) else 1) = jj at hn ⊢
    clear hj
    refine for_it walk_range (fun i σ H' => (∃ b c d, σ = [some (.ref a), b, c, d, none, none, none, none, none, none]) ∧ Same H H') ⟨⟨_, _, _, rfl⟩, Same.refl _⟩ (fun _ _ _ _ _ => trivial) ?_ ?_
    · rintro i x σ Ha Hb hi ⟨⟨b, c, d, rfl⟩, s0⟩ ⟨rfl, rfl⟩
      refine ⟨_, rfl, _, rfl, a, ns, i, by (show [V.ref a, V.int (0 + ((i : Nat) : Int))] = _; rw [Int.zero_add]), sqL_up hS s0, by omega, fun p x y np hx => ?_⟩
      have dp : DiceAt (upd Hb p (.lst [.int x, .int y, .int 0])) p := ⟨_, _, _, upd_same, hx⟩
      have sp := same_new (o := HO.lst [V.int x, V.int y, V.int 0]) np
      refine ⟨3, rfl, by decide, by decide, ?_⟩
      refine for_it walk_range (fun i σ H' => (∃ b d, σ = [some (.ref a), b, some (.ref p), d, none, none, none, none, none, none]) ∧ Same Hb H' ∧ DiceAt H' p) ⟨⟨_, _, rfl⟩, sp, dp⟩ (fun _ _ _ _ _ => trivial) ?_ ?_
      · rintro j y2 σ Hc Hd hj ⟨⟨b2, d2, rfl⟩, sc, dc⟩ ⟨rfl, rfl⟩
        refine ⟨_, rfl, p, rfl, dc, fun He ke de => ⟨_, rfl, iteF ?_⟩⟩
        exact ⟨⟨_, _, rfl⟩, fun z u e => ke z u (fun q => by rw [q, np] at e; cases e) (sc z u e), de⟩
      · rintro σ Hf ⟨⟨b2, d2, rfl⟩, sf, _⟩
        exact ⟨⟨_, _, _, rfl⟩, s0.trans sf⟩
    rintro σ H0 ⟨⟨b0, c0, d0, rfl⟩, s0⟩
    clear s0 hS
    refine fun pl n1 => ?_
    have q1 := same_new (o := HO.dK []) n1
    have h1 : upd H0 pl (HO.dK []) pl = some (HO.dK []) := upd_same
    generalize upd H0 pl (HO.dK []) = H1 at q1 h1 ⊢
    refine ⟨(by show 1 ≤ sizeLine; decide), fun ta n2 => ?_⟩
    have q2 := same_new (o := HO.tup [V.str "live"]) n2
    have h2 : upd H1 ta (HO.tup [V.str "live"]) ta = some (HO.tup [V.str "live"]) := upd_same
    generalize upd H1 ta (HO.tup [V.str "live"]) = H2 at q2 h2 ⊢
    refine ⟨(by show 1 ≤ sizeLine; decide), fun tb n3 => ?_⟩
    have q3 := same_new (o := HO.tup [V.str "arch"]) n3
    have h3 : upd H2 tb (HO.tup [V.str "arch"]) tb = some (HO.tup [V.str "arch"]) := upd_same
    generalize upd H2 tb (HO.tup [V.str "arch"]) = H3 at q3 h3 ⊢
    have ed3 := (q2.trans q3) _ _ h1
    refine ⟨ed3, [(Sum.inr "new", .ref ta), (Sum.inr "old", .ref tb)], rfl, (by show 2 ≤ 15; decide), ?_⟩
    have e1 := sqT_dk (u := .dK (mergeK [] [((Sum.inr "new" : Key), V.ref ta), (Sum.inr "old", .ref tb)])) ed3 (SqT.of (q3 _ _ h2) : SqT K H3 ta ([("live" : Str)].map V.str))
    have e2 := sqT_dk (u := .dK (mergeK [] [((Sum.inr "new" : Key), V.ref ta), (Sum.inr "old", .ref tb)])) ed3 (SqT.of h3 : SqT K H3 tb ([("arch" : Str)].map V.str))
    have ed : upd H3 pl (.dK (mergeK [] [((Sum.inr "new" : Key), V.ref ta), (Sum.inr "old", .ref tb)])) pl = some (.dK (([("new", ta, ["live"]), ("old", tb, ["arch"])] : PlR).map prP)) := by rw [upd_same, merge_two]
    generalize upd H3 pl (.dK (mergeK [] [((Sum.inr "new" : Key), V.ref ta), (Sum.inr "old", .ref tb)])) = H4 at e1 e2 ed ⊢
    have hPl : PlAt K H4 pl [("new", ["live"]), ("old", ["arch"])] := ⟨[("new", ta, ["live"]), ("old", tb, ["arch"])], ed, fun r hr => by
      rcases List.mem_cons.mp hr with rfl | hr
      · exact e1
      · rw [List.mem_singleton.mp hr]; exact e2, rfl⟩
    clear e1 e2 ed ed3 q1 q2 q3 h1 h2 h3 n1 n2 n3
    refine ⟨(by show 2 ≤ sizeLine; decide), fun PaA n5 => ?_⟩
    have q5 := same_new (o := HO.tup [V.str "arch", .str "live"]) n5
    have h5 : upd H4 PaA (HO.tup [V.str "arch", .str "live"]) PaA = some (HO.tup [V.str "arch", .str "live"]) := upd_same
    generalize upd H4 PaA (HO.tup [V.str "arch", .str "live"]) = H5 at q5 h5 ⊢
    refine ⟨_, rfl, ?_⟩
    refine ⟨(by show 0 ≤ sizeLine; decide), fun eeA0 n6 => ?_⟩
    have q6 := same_new (o := HO.tup []) n6
    have h6 : upd H5 eeA0 (HO.tup []) eeA0 = some (HO.tup []) := upd_same
    generalize upd H5 eeA0 (HO.tup []) = H6 at q6 h6 ⊢
    refine ⟨(by show 3 ≤ sizeLine; decide), fun ttA0 n7 => ?_⟩
    have q7 := same_new (o := HO.tup [V.str "items", .ref pl, .ref eeA0]) n7
    have h7 : upd H6 ttA0 (HO.tup [V.str "items", .ref pl, .ref eeA0]) ttA0 = some (HO.tup [V.str "items", .ref pl, .ref eeA0]) := upd_same
    generalize upd H6 ttA0 (HO.tup [V.str "items", .ref pl, .ref eeA0]) = H7 at q7 h7 ⊢
    refine ⟨_, rfl, ?_⟩
    refine ⟨(by show 0 ≤ sizeLine; decide), fun eeA1 n8 => ?_⟩
    have q8 := same_new (o := HO.tup []) n8
    have h8 : upd H7 eeA1 (HO.tup []) eeA1 = some (HO.tup []) := upd_same
    generalize upd H7 eeA1 (HO.tup []) = H8 at q8 h8 ⊢
    refine ⟨(by show 3 ≤ sizeLine; decide), fun ttA1 n9 => ?_⟩
    have q9 := same_new (o := HO.tup [V.str "orders", .ref pl, .ref eeA1]) n9
    have h9 : upd H8 ttA1 (HO.tup [V.str "orders", .ref pl, .ref eeA1]) ttA1 = some (HO.tup [V.str "orders", .ref pl, .ref eeA1]) := upd_same
    generalize upd H8 ttA1 (HO.tup [V.str "orders", .ref pl, .ref eeA1]) = H9 at q9 h9 ⊢
    have oktA : OkTbs pA ([(ttA0, wkT "items"), (ttA1, wkT "orders")].map Prod.snd) := wkTs_ok (ws := wA) (by decide +kernel) (by decide +kernel) wAB_ok.1
    have twoA : Two ([(ttA0, wkT "items"), (ttA1, wkT "orders")].map Prod.snd) (fullL ([(ttA0, wkT "items"), (ttA1, wkT "orders")].map Prod.snd)) := wkTs_two (ws := wA) wAB_ok.1
    have tbsA : ∀ r ∈ [(ttA0, wkT "items"), (ttA1, wkT "orders")], TbAt K H9 r.1 r.2 := fun r hr => by
      rcases List.mem_cons.mp hr with rfl | hr
      · exact ⟨pl, eeA0, SqT.of ((q8.trans q9) _ _ h7), hPl.up ((((q5.trans q6).trans q7).trans q8).trans q9), ⟨[], rfl, SqT.of (((q7.trans q8).trans q9) _ _ h6), fun r z => nomatch z⟩⟩
      · rw [List.mem_singleton.mp hr]
        exact ⟨pl, eeA1, SqT.of ((Same.refl H9) _ _ h9), hPl.up ((((q5.trans q6).trans q7).trans q8).trans q9), ⟨[], rfl, SqT.of (q9 _ _ h8), fun r z => nomatch z⟩⟩
    refine fun mA dm nmA ndm nem => made_mvR (ps := pA) (rs := [(ttA0, wkT "items"), (ttA1, wkT "orders")]) (SqT.of ((((q6.trans q7).trans q8).trans q9) _ _ h5)) wAB_ok.2.2 tbsA oktA (full_is (by show 1 ≤ 2; decide)) (fun us cs n1 n2 => two_joins twoA n1 n2) nmA ndm nem (fun H10 usA csA q10 nnA nbA hMA => ⟨rfl, ?_⟩)
    have mdA := mvd_of hMA wAB_ok.2.2 oktA twoA nnA nbA
    have nm_A : usA.map Tb.nm = wA := mdA.nms
    have lo_A := mdA.two.lo
    refine ⟨(by show 3 ≤ sizeLine; decide), fun u0 n11 => ?_⟩
    have q11 := same_new (o := HO.tup [V.str "look", .str "orders", .str "live"]) n11
    have h11 : upd H10 u0 (HO.tup [V.str "look", .str "orders", .str "live"]) u0 = some (HO.tup [V.str "look", .str "orders", .str "live"]) := upd_same
    generalize upd H10 u0 (HO.tup [V.str "look", .str "orders", .str "live"]) = H11 at q11 h11 ⊢
    refine ⟨(by show 3 ≤ sizeLine; decide), fun u1 n12 => ?_⟩
    have q12 := same_new (o := HO.tup [V.str "look", .str "items", .str "live"]) n12
    have h12 : upd H11 u1 (HO.tup [V.str "look", .str "items", .str "live"]) u1 = some (HO.tup [V.str "look", .str "items", .str "live"]) := upd_same
    generalize upd H11 u1 (HO.tup [V.str "look", .str "items", .str "live"]) = H12 at q12 h12 ⊢
    refine ⟨(by show 4 ≤ sizeLine; decide), fun u2 n13 => ?_⟩
    have q13 := same_new (o := HO.tup [V.str "if", .str "items", .str "cold", .int 0]) n13
    have h13 : upd H12 u2 (HO.tup [V.str "if", .str "items", .str "cold", .int 0]) u2 = some (HO.tup [V.str "if", .str "items", .str "cold", .int 0]) := upd_same
    generalize upd H12 u2 (HO.tup [V.str "if", .str "items", .str "cold", .int 0]) = H13 at q13 h13 ⊢
    refine ⟨(by show 3 ≤ sizeLine; decide), fun la n14 => ?_⟩
    have q14 := same_new (o := HO.lst [V.ref u0, .ref u1, .ref u2]) n14
    have h14 : upd H13 la (HO.lst [V.ref u0, .ref u1, .ref u2]) la = some (HO.lst [V.ref u0, .ref u1, .ref u2]) := upd_same
    generalize upd H13 la (HO.lst [V.ref u0, .ref u1, .ref u2]) = H14 at q14 h14 ⊢
    refine ⟨_, rfl, ?_⟩
    refine ⟨(by show 4 ≤ sizeLine; decide), fun u3 n15 => ?_⟩
    have q15 := same_new (o := HO.tup [V.str "if", .str "orders", .str "arch", .int 1]) n15
    have h15 : upd H14 u3 (HO.tup [V.str "if", .str "orders", .str "arch", .int 1]) u3 = some (HO.tup [V.str "if", .str "orders", .str "arch", .int 1]) := upd_same
    generalize upd H14 u3 (HO.tup [V.str "if", .str "orders", .str "arch", .int 1]) = H15 at q15 h15 ⊢
    refine ⟨(by show 3 ≤ sizeLine; decide), fun u4 n16 => ?_⟩
    have q16 := same_new (o := HO.tup [V.str "read", .str "buyers", .str "live"]) n16
    have h16 : upd H15 u4 (HO.tup [V.str "read", .str "buyers", .str "live"]) u4 = some (HO.tup [V.str "read", .str "buyers", .str "live"]) := upd_same
    generalize upd H15 u4 (HO.tup [V.str "read", .str "buyers", .str "live"]) = H16 at q16 h16 ⊢
    refine ⟨(by show 2 ≤ sizeLine; decide), fun u5 n17 => ?_⟩
    have q17 := same_new (o := HO.tup [V.str "go", .int 0]) n17
    have h17 : upd H16 u5 (HO.tup [V.str "go", .int 0]) u5 = some (HO.tup [V.str "go", .int 0]) := upd_same
    generalize upd H16 u5 (HO.tup [V.str "go", .int 0]) = H17 at q17 h17 ⊢
    refine ⟨(by show 3 ≤ sizeLine; decide), fun u6 n18 => ?_⟩
    have q18 := same_new (o := HO.tup [V.str "read", .str "items", .str "items"]) n18
    have h18 : upd H17 u6 (HO.tup [V.str "read", .str "items", .str "items"]) u6 = some (HO.tup [V.str "read", .str "items", .str "items"]) := upd_same
    generalize upd H17 u6 (HO.tup [V.str "read", .str "items", .str "items"]) = H18 at q18 h18 ⊢
    refine ⟨(by show 4 ≤ sizeLine; decide), fun lb n19 => ?_⟩
    have q19 := same_new (o := HO.lst [V.ref u3, .ref u4, .ref u5, .ref u6]) n19
    have h19 : upd H18 lb (HO.lst [V.ref u3, .ref u4, .ref u5, .ref u6]) lb = some (HO.lst [V.ref u3, .ref u4, .ref u5, .ref u6]) := upd_same
    generalize upd H18 lb (HO.lst [V.ref u3, .ref u4, .ref u5, .ref u6]) = H19 at q19 h19 ⊢
    refine ⟨_, _, _, _, rfl, rfl, ((((q15.trans q16).trans q17).trans q18).trans q19) _ _ h14, h19, (by show 3 + 4 ≤ sizeLine; decide), fun lc n20 => ?_⟩
    have q20 := same_new (o := HO.lst ([V.ref u0, .ref u1, .ref u2] ++ [V.ref u3, .ref u4, .ref u5, .ref u6])) n20
    have h20 : upd H19 lc (HO.lst ([V.ref u0, .ref u1, .ref u2] ++ [V.ref u3, .ref u4, .ref u5, .ref u6])) lc = some (HO.lst ([V.ref u0, .ref u1, .ref u2] ++ [V.ref u3, .ref u4, .ref u5, .ref u6])) := upd_same
    generalize upd H19 lc (HO.lst ([V.ref u0, .ref u1, .ref u2] ++ [V.ref u3, .ref u4, .ref u5, .ref u6])) = H20 at q20 h20 ⊢
    refine ⟨_, rfl, .inl ⟨rfl, _, SqL.of h20⟩, ?_⟩
    refine ⟨(by show 3 ≤ sizeLine; decide), fun u7 n21 => ?_⟩
    have q21 := same_new (o := HO.tup [V.str "read", .str "orders", .str "arch"]) n21
    have h21 : upd H20 u7 (HO.tup [V.str "read", .str "orders", .str "arch"]) u7 = some (HO.tup [V.str "read", .str "orders", .str "arch"]) := upd_same
    generalize upd H20 u7 (HO.tup [V.str "read", .str "orders", .str "arch"]) = H21 at q21 h21 ⊢
    have hlc := q21 _ _ h20
    refine ⟨lc, _, .ref u7, rfl, rfl, hlc, (by show 7 < sizeLine; decide), ?_⟩
    have sZ : Same H19 (upd H21 lc (.lst ([V.ref u0, .ref u1, .ref u2] ++ [V.ref u3, .ref u4, .ref u5, .ref u6] ++ [V.ref u7]))) := same_to n20 (q20.trans q21)
    have kZ : Keep lc H21 (upd H21 lc (.lst ([V.ref u0, .ref u1, .ref u2] ++ [V.ref u3, .ref u4, .ref u5, .ref u6] ++ [V.ref u7]))) := keep_upd
    have hZ : upd H21 lc (.lst ([V.ref u0, .ref u1, .ref u2] ++ [V.ref u3, .ref u4, .ref u5, .ref u6] ++ [V.ref u7])) lc = some (.lst ([(u0, Ln.look "orders" "live"), (u1, .look "items" "live"), (u2, .ift "items" "cold" 0), (u3, .ift "orders" "arch" 1), (u4, .read "buyers" "live"), (u5, .go 0), (u6, .read "items" "items"), (u7, .read "orders" "arch")].map fun r => V.ref r.1)) := upd_same
    generalize upd H21 lc (.lst ([V.ref u0, .ref u1, .ref u2] ++ [V.ref u3, .ref u4, .ref u5, .ref u6] ++ [V.ref u7])) = Hz at sZ kZ hZ ⊢
    have hr8 : ∀ r ∈ ([(u0, Ln.look "orders" "live"), (u1, .look "items" "live"), (u2, .ift "items" "cold" 0), (u3, .ift "orders" "arch" 1), (u4, .read "buyers" "live"), (u5, .go 0), (u6, .read "items" "items"), (u7, .read "orders" "arch")] : RowsL), SqT K Hz r.1 r.2.vs := by
      intro r hr
      simp only [List.mem_cons, List.not_mem_nil, or_false] at hr
      rcases hr with rfl | rfl | rfl | rfl | rfl | rfl | rfl | rfl
      · exact SqT.of (sZ _ _ ((((((((q12.trans q13).trans q14).trans q15).trans q16).trans q17).trans q18).trans q19) _ _ h11))
      · exact SqT.of (sZ _ _ (((((((q13.trans q14).trans q15).trans q16).trans q17).trans q18).trans q19) _ _ h12))
      · exact SqT.of (sZ _ _ ((((((q14.trans q15).trans q16).trans q17).trans q18).trans q19) _ _ h13))
      · exact SqT.of (sZ _ _ ((((q16.trans q17).trans q18).trans q19) _ _ h15))
      · exact SqT.of (sZ _ _ (((q17.trans q18).trans q19) _ _ h16))
      · exact SqT.of (sZ _ _ ((q18.trans q19) _ _ h17))
      · exact SqT.of (sZ _ _ (q19 _ _ h18))
      · exact off_seq hlc kZ (SqT.of h21)
    have e8 : ([(u0, Ln.look "orders" "live"), (u1, .look "items" "live"), (u2, .ift "items" "cold" 0), (u3, .ift "orders" "arch" 1), (u4, .read "buyers" "live"), (u5, .go 0), (u6, .read "items" "items"), (u7, .read "orders" "arch")] : RowsL).map Prod.snd = ls8 := rfl
    have l8 : ([(u0, Ln.look "orders" "live"), (u1, .look "items" "live"), (u2, .ift "items" "cold" 0), (u3, .ift "orders" "arch" 1), (u4, .read "buyers" "live"), (u5, .go 0), (u6, .read "items" "items"), (u7, .read "orders" "arch")] : RowsL).length = 8 := rfl
    generalize ([(u0, Ln.look "orders" "live"), (u1, .look "items" "live"), (u2, .ift "items" "cold" 0), (u3, .ift "orders" "arch" 1), (u4, .read "buyers" "live"), (u5, .go 0), (u6, .read "items" "items"), (u7, .read "orders" "arch")] : RowsL) = r8 at hZ hr8 e8 l8
    have fz : ∀ r ∈ r8, r.2.fine 1 = true := fun r hr => ls8_fine r.2 (by rw [← e8]; exact List.mem_map_of_mem hr)
    have mz := mdA.up (((((((((q11.trans q12).trans q13).trans q14).trans q15).trans q16).trans q17).trans q18).trans q19).trans sZ)
    have pz := hPl.up (((((((((((((((q5.trans q6).trans q7).trans q8).trans q9).trans q10).trans q11).trans q12).trans q13).trans q14).trans q15).trans q16).trans q17).trans q18).trans q19).trans sZ)
    clear sZ kZ hlc
    refine ⟨_, rfl, lc, rfl, ⟨_, SqL.of hZ⟩, fun D nD => ?_⟩
    refine lc_fil walk_list nD (fun i acc _ => acc = ((r8.take i).map fun r => V.bl (rightB wA pA [r.2]))) rfl (fun H' s' => sqL_up (SqL.of hZ) s') ?_ ?_
    · rintro i v acc Hx Hy hi s2 e2 rfl ⟨rfl, hv⟩
      rw [List.length_map] at hi
      rw [List.getElem?_map] at hv
      obtain ⟨r, hri, rfl⟩ := Option.map_eq_some_iff.mp hv
      have rm := List.mem_of_getElem? hri
      refine ⟨rfl, tt_yes ?_⟩
      refine ⟨_, rfl, fun rq dx nx nd ne => made_rdR (rs := [(r.1, r.2)]) (fun z hz => by rw [List.mem_singleton.mp hz]; exact sqT_up (hr8 r rm) s2) (one_ok (fz r rm)) nx nd ne (fun Hq sq hRq => ⟨rfl, ?_⟩)⟩
      obtain ⟨dxq, Lq, Tq_, pq, eq_, _⟩ := id hRq
      refine ⟨rq, _, _, rfl, eq_, rd_no (by decide +kernel) (by decide +kernel), _, rfl, rq, _, _, rfl, hRq, one_ok (fz r rm), .inl ⟨mA, pA, usA, csA, rfl, (mz.up (s2.trans sq)).at_, lo_A, fun Hs ss => ?_⟩⟩
      rw [nm_A, right_fit]
      exact put_of nD (fun _ _ _ _ _ _ _ z => z) s2 e2 (sq.trans ss) (by rw [List.length_map, List.length_take, sizeLine_eq]; omega) (by rw [List.take_add_one, hri, List.map_append]; rfl)
    rintro acc H20 s20 e20 rfl
    rw [List.length_map, List.take_length] at e20
    have e20' : H20 D = some (.lst (([true, false, false, true, false, true, false, true] : List Bool).map V.bl)) := by
      rw [e20, ← told8, ← e8, List.map_map, List.map_map]; rfl
    refine ⟨_, rfl, (by show 8 ≤ sizeLine; decide), fun l9 n21 => ?_⟩
    have q21 := same_new (o := HO.lst (([true, false, false, true, false, true, false, true] : List Bool).map V.bl)) n21
    have h21 : upd H20 l9 (HO.lst (([true, false, false, true, false, true, false, true] : List Bool).map V.bl)) l9 = some (HO.lst (([true, false, false, true, false, true, false, true] : List Bool).map V.bl)) := upd_same
    change rNeD K (.ref D) (.ref l9) (upd H20 l9 (HO.lst (([true, false, false, true, false, true, false, true] : List Bool).map V.bl))) _
    generalize upd H20 l9 (HO.lst (([true, false, false, true, false, true, false, true] : List Bool).map V.bl)) = H21 at q21 h21 ⊢
    refine ⟨_, _, .lst (SqL.of (q21 _ _ e20')) (bls_dp _), .lst (SqL.of h21) (bls_dp _), b8_sh, b8_sh, _, rfl, ?_⟩
    rw [b8_eq]
    refine iteF ?_
    have s21 := s20.trans q21
    refine fun rq dx nx nd ne => made_rdR (rs := []) (fun z hz => nomatch hz) none_ok nx nd ne (fun Hq sq hRq => ⟨rfl, ?_⟩)
    obtain ⟨dxq, Lq, Tq_, pq, eqq, _⟩ := id hRq
    refine ⟨rq, _, _, rfl, eqq, rd_no (by decide +kernel) (by decide +kernel), _, rfl, rq, [], _, rfl, hRq, none_ok, .inl ⟨mA, pA, usA, csA, rfl, (mz.up (s21.trans sq)).at_, lo_A, fun H30 s30 => ?_⟩⟩
    rw [nm_A, right_fit, show rightB wA pA (lnsOf []) = true from rfl]
    refine ⟨_, _, rfl, rfl, _, rfl, iteF ?_⟩
    have s230 := (s21.trans sq).trans s30
    have pz30 := pz.up s230
    have lc30 := s230 _ _ hZ
    have hr30 : ∀ r ∈ r8, SqT K H30 r.1 r.2.vs := fun r hr => sqT_up (hr8 r hr) s230
    clear s230 s30 sq s21 s20 q21 h21 e20 e20' mz pz hZ hr8 hRq eqq
    refine ⟨(by show 2 ≤ sizeLine; decide), fun PaB n31 => ?_⟩
    have q31 := same_new (o := HO.tup [V.str "arch", .str "live"]) n31
    have h31 : upd H30 PaB (HO.tup [V.str "arch", .str "live"]) PaB = some (HO.tup [V.str "arch", .str "live"]) := upd_same
    generalize upd H30 PaB (HO.tup [V.str "arch", .str "live"]) = H31 at q31 h31 ⊢
    refine ⟨_, rfl, ?_⟩
    refine ⟨(by show 0 ≤ sizeLine; decide), fun eeB0 n32 => ?_⟩
    have q32 := same_new (o := HO.tup []) n32
    have h32 : upd H31 eeB0 (HO.tup []) eeB0 = some (HO.tup []) := upd_same
    generalize upd H31 eeB0 (HO.tup []) = H32 at q32 h32 ⊢
    refine ⟨(by show 3 ≤ sizeLine; decide), fun ttB0 n33 => ?_⟩
    have q33 := same_new (o := HO.tup [V.str "orders", .ref pl, .ref eeB0]) n33
    have h33 : upd H32 ttB0 (HO.tup [V.str "orders", .ref pl, .ref eeB0]) ttB0 = some (HO.tup [V.str "orders", .ref pl, .ref eeB0]) := upd_same
    generalize upd H32 ttB0 (HO.tup [V.str "orders", .ref pl, .ref eeB0]) = H33 at q33 h33 ⊢
    refine ⟨_, rfl, ?_⟩
    refine ⟨(by show 0 ≤ sizeLine; decide), fun eeB1 n34 => ?_⟩
    have q34 := same_new (o := HO.tup []) n34
    have h34 : upd H33 eeB1 (HO.tup []) eeB1 = some (HO.tup []) := upd_same
    generalize upd H33 eeB1 (HO.tup []) = H34 at q34 h34 ⊢
    refine ⟨(by show 3 ≤ sizeLine; decide), fun ttB1 n35 => ?_⟩
    have q35 := same_new (o := HO.tup [V.str "items", .ref pl, .ref eeB1]) n35
    have h35 : upd H34 ttB1 (HO.tup [V.str "items", .ref pl, .ref eeB1]) ttB1 = some (HO.tup [V.str "items", .ref pl, .ref eeB1]) := upd_same
    generalize upd H34 ttB1 (HO.tup [V.str "items", .ref pl, .ref eeB1]) = H35 at q35 h35 ⊢
    have oktB : OkTbs pA ([(ttB0, wkT "orders"), (ttB1, wkT "items")].map Prod.snd) := wkTs_ok (ws := wB) (by decide +kernel) (by decide +kernel) wAB_ok.2.1
    have twoB : Two ([(ttB0, wkT "orders"), (ttB1, wkT "items")].map Prod.snd) (fullL ([(ttB0, wkT "orders"), (ttB1, wkT "items")].map Prod.snd)) := wkTs_two (ws := wB) wAB_ok.2.1
    have tbsB : ∀ r ∈ [(ttB0, wkT "orders"), (ttB1, wkT "items")], TbAt K H35 r.1 r.2 := fun r hr => by
      rcases List.mem_cons.mp hr with rfl | hr
      · exact ⟨pl, eeB0, SqT.of ((q34.trans q35) _ _ h33), pz30.up ((((q31.trans q32).trans q33).trans q34).trans q35), ⟨[], rfl, SqT.of (((q33.trans q34).trans q35) _ _ h32), fun r z => nomatch z⟩⟩
      · rw [List.mem_singleton.mp hr]
        exact ⟨pl, eeB1, SqT.of ((Same.refl H35) _ _ h35), pz30.up ((((q31.trans q32).trans q33).trans q34).trans q35), ⟨[], rfl, SqT.of (q35 _ _ h34), fun r z => nomatch z⟩⟩
    refine fun mB dm nmB ndm nem => made_mvR (ps := pA) (rs := [(ttB0, wkT "orders"), (ttB1, wkT "items")]) (SqT.of ((((q32.trans q33).trans q34).trans q35) _ _ h31)) wAB_ok.2.2 tbsB oktB (full_is (by show 1 ≤ 2; decide)) (fun us cs n1 n2 => two_joins twoB n1 n2) nmB ndm nem (fun H36 usB csB q36 nnB nbB hMB => ⟨rfl, ?_⟩)
    have mdB := mvd_of hMB wAB_ok.2.2 oktB twoB nnB nbB
    have nm_B : usB.map Tb.nm = wB := mdB.nms
    have lo_B := mdB.two.lo
    have q30B := (((((q31.trans q32).trans q33).trans q34).trans q35).trans q36)
    have hlcB := q30B _ _ lc30
    have hrB : ∀ r ∈ r8, SqT K H36 r.1 r.2.vs := fun r hr => sqT_up (hr30 r hr) q30B
    refine ⟨_, rfl, _, rfl, lc, _, rfl, SqL.of hlcB, fun lp nlp => ?_⟩
    have cut8 : cutV (r8.map fun r => V.ref r.1) none (some (2 : Int)) = (r8.take 2).map fun r => V.ref r.1 := by
      rw [show (2 : Int) = ((2 : Nat) : Int) from rfl, cut_to (by rw [List.length_map, l8]; decide), List.map_take]
    have qp := same_new (o := HO.lst (cutV (r8.map fun r => V.ref r.1) none (some (2 : Int)))) nlp
    have hlp : upd H36 lp (HO.lst (cutV (r8.map fun r => V.ref r.1) none (some (2 : Int)))) lp = some (.lst ((r8.take 2).map fun r => V.ref r.1)) := by rw [upd_same, cut8]
    generalize upd H36 lp (HO.lst (cutV (r8.map fun r => V.ref r.1) none (some (2 : Int)))) = H50 at qp hlp ⊢
    have mzB := mdB.up qp
    have hr82 : ∀ r ∈ r8.take 2, SqT K H50 r.1 r.2.vs := fun r hr => sqT_up (hrB r (List.mem_of_mem_take hr)) qp
    have fz2 : ∀ r ∈ r8.take 2, r.2.fine 1 = true := fun r hr => fz r (List.mem_of_mem_take hr)
    refine ⟨lp, rfl, ⟨_, SqL.of hlp⟩, fun D2 nD2 => ?_⟩
    have l82 : (r8.take 2).length = 2 := by rw [List.length_take, l8]; rfl
    have e82 : (r8.take 2).map Prod.snd = ls8.take 2 := by rw [List.map_take, e8]
    generalize r8.take 2 = r2 at hlp hr82 fz2 l82 e82
    refine lc_fil walk_list nD2 (fun i acc _ => acc = ((r2.take i).map fun r => V.bl (rightB wB pA [r.2]))) rfl (fun H' s' => sqL_up (SqL.of hlp) s') ?_ ?_
    · rintro i v acc Hx Hy hi s2 e2 rfl ⟨rfl, hv⟩
      rw [List.length_map] at hi
      rw [List.getElem?_map] at hv
      obtain ⟨r, hri, rfl⟩ := Option.map_eq_some_iff.mp hv
      have rm := List.mem_of_getElem? hri
      refine ⟨rfl, tt_yes ?_⟩
      refine ⟨_, rfl, fun rq dx nx nd ne => made_rdR (rs := [(r.1, r.2)]) (fun z hz => by rw [List.mem_singleton.mp hz]; exact sqT_up (hr82 r rm) s2) (one_ok (fz2 r rm)) nx nd ne (fun Hq sq hRq => ⟨rfl, ?_⟩)⟩
      obtain ⟨dxq, Lq, Tq_, pq, eq_, _⟩ := id hRq
      refine ⟨rq, _, _, rfl, eq_, rd_no (by decide +kernel) (by decide +kernel), _, rfl, rq, _, _, rfl, hRq, one_ok (fz2 r rm), .inl ⟨mB, pA, usB, csB, rfl, (mzB.up (s2.trans sq)).at_, lo_B, fun Hs ss => ?_⟩⟩
      rw [nm_B, right_fit]
      exact put_of nD2 (fun _ _ _ _ _ _ _ z => z) s2 e2 (sq.trans ss) (by rw [List.length_map, List.length_take, sizeLine_eq]; omega) (by rw [List.take_add_one, hri, List.map_append]; rfl)
    rintro acc H60 s60 e60 rfl
    rw [List.length_map, List.take_length] at e60
    have e60' : H60 D2 = some (.lst (([false, true] : List Bool).map V.bl)) := by
      rw [e60, ← told2, ← e82, List.map_map, List.map_map]; rfl
    refine ⟨(by show 2 ≤ sizeLine; decide), fun l61 n61 => ?_⟩
    have q61 := same_new (o := HO.lst (([false, true] : List Bool).map V.bl)) n61
    have h61 : upd H60 l61 (HO.lst (([false, true] : List Bool).map V.bl)) l61 = some (HO.lst (([false, true] : List Bool).map V.bl)) := upd_same
    change rEqD K (.ref D2) (.ref l61) (upd H60 l61 (HO.lst (([false, true] : List Bool).map V.bl))) _
    generalize upd H60 l61 (HO.lst (([false, true] : List Bool).map V.bl)) = H61 at q61 h61 ⊢
    refine ⟨_, _, .lst (SqL.of (q61 _ _ e60')) (bls_dp _), .lst (SqL.of h61) (bls_dp _), b2_sh, b2_sh, ?_⟩
    rw [b2_eq]
    exact k _
end
end Rd

namespace Rd
open PySem PySem.Spec PyProof.Rows L2 Tq Dn Dc Mk2 Ox
def noB (K : PySem.W.Frag) (C : Addr) : Bool := tys.all fun t => PySem.W.kitOne K (.type t) (.ref C) == some false
theorem plainRC {CX : CXT} {P : Program} {w : World} {K : PySem.W.Frag} {mg : Str → Option Value} {base : Heap} {k : Nat} {f : Addr} {fd : FuncData} {ps : List Str} {sp : Sp} (F : FnOk P w K mg base CX k f fd ps sp) (hb : Binds K fd ps []) : FnR P w K mg base CX k f sp :=
  (F.raw hb .nil).imp fun vs H Q E h => by rw [List.append_nil]; exact h
theorem all_mk {P : Program} {w : World} {K : PySem.W.Frag} {h : Heap} {mg : Str → Option Value} {fa C CM CI DI DO DR : Addr} {f0 f1 f2 f3 f4 f5 f6 f7 f8 f9 f10 f11 f12 f13 f14 f15 f16 f17 f18 f19 f20 f21 f22 f23 f24 f25 f26 f27 f28 f29 f30 f31 f32 f33 : Addr} {g0 g1 g2 g3 g4 g5 g6 g7 g8 g9 g10 : Addr} {p1 p2 p5 p6 p7 : Addr} {rest1 rest2 rest5 rest6 rest7 : List Value} {tL tT tA tB tJ : Tok} (X : K.In h) (G : h.Ns mainGlobals mg) (hfa : mg "law" = some (.ref fa))
    {od0 an0 : Option Addr} {sl0 : Array (Option Value)} {oc0 kV0 dc0 pm0 cd0 ct0 : Value}
    {od1 an1 : Option Addr} {sl1 : Array (Option Value)} {oc1 kV1 dc1 pm1 cd1 ct1 : Value}
    {od2 an2 : Option Addr} {sl2 : Array (Option Value)} {oc2 kV2 dc2 pm2 cd2 ct2 : Value}
    {od3 an3 : Option Addr} {sl3 : Array (Option Value)} {oc3 kV3 dc3 pm3 cd3 ct3 : Value}
    {od4 an4 : Option Addr} {sl4 : Array (Option Value)} {oc4 kV4 dc4 pm4 cd4 ct4 : Value}
    {od5 an5 : Option Addr} {sl5 : Array (Option Value)} {oc5 kV5 dc5 pm5 cd5 ct5 : Value}
    {od6 an6 : Option Addr} {sl6 : Array (Option Value)} {oc6 kV6 dc6 pm6 cd6 ct6 : Value}
    {od7 an7 : Option Addr} {sl7 : Array (Option Value)} {oc7 kV7 dc7 pm7 cd7 ct7 : Value}
    {od8 an8 : Option Addr} {sl8 : Array (Option Value)} {oc8 kV8 dc8 pm8 cd8 ct8 : Value}
    {od9 an9 : Option Addr} {sl9 : Array (Option Value)} {oc9 kV9 dc9 pm9 cd9 ct9 : Value}
    {od10 an10 : Option Addr} {sl10 : Array (Option Value)} {oc10 kV10 dc10 pm10 cd10 ct10 : Value}
    {od11 an11 : Option Addr} {sl11 : Array (Option Value)} {oc11 kV11 dc11 pm11 cd11 ct11 : Value}
    {od12 an12 : Option Addr} {sl12 : Array (Option Value)} {oc12 kV12 dc12 pm12 cd12 ct12 : Value}
    {od13 an13 : Option Addr} {sl13 : Array (Option Value)} {oc13 kV13 dc13 pm13 cd13 ct13 : Value}
    {od14 an14 : Option Addr} {sl14 : Array (Option Value)} {oc14 kV14 dc14 pm14 cd14 ct14 : Value}
    {od15 an15 : Option Addr} {sl15 : Array (Option Value)} {oc15 kV15 dc15 pm15 cd15 ct15 : Value}
    {od16 an16 : Option Addr} {sl16 : Array (Option Value)} {oc16 kV16 dc16 pm16 cd16 ct16 : Value}
    {od17 an17 : Option Addr} {sl17 : Array (Option Value)} {oc17 kV17 dc17 pm17 cd17 ct17 : Value}
    {od18 an18 : Option Addr} {sl18 : Array (Option Value)} {oc18 kV18 dc18 pm18 cd18 ct18 : Value}
    {od19 an19 : Option Addr} {sl19 : Array (Option Value)} {oc19 kV19 dc19 pm19 cd19 ct19 : Value}
    {od20 an20 : Option Addr} {sl20 : Array (Option Value)} {oc20 kV20 dc20 pm20 cd20 ct20 : Value}
    {od21 an21 : Option Addr} {sl21 : Array (Option Value)} {oc21 kV21 dc21 pm21 cd21 ct21 : Value}
    {od22 an22 : Option Addr} {sl22 : Array (Option Value)} {oc22 kV22 dc22 pm22 cd22 ct22 : Value}
    {od23 an23 : Option Addr} {sl23 : Array (Option Value)} {oc23 kV23 dc23 pm23 cd23 ct23 : Value}
    {od24 an24 : Option Addr} {sl24 : Array (Option Value)} {oc24 kV24 dc24 pm24 cd24 ct24 : Value}
    {od25 an25 : Option Addr} {sl25 : Array (Option Value)} {oc25 kV25 dc25 pm25 cd25 ct25 : Value}
    {od26 an26 : Option Addr} {sl26 : Array (Option Value)} {oc26 kV26 dc26 pm26 cd26 ct26 : Value}
    {od27 an27 : Option Addr} {sl27 : Array (Option Value)} {oc27 kV27 dc27 pm27 cd27 ct27 : Value}
    {od28 an28 : Option Addr} {sl28 : Array (Option Value)} {oc28 kV28 dc28 pm28 cd28 ct28 : Value}
    {od29 an29 : Option Addr} {sl29 : Array (Option Value)} {oc29 kV29 dc29 pm29 cd29 ct29 : Value}
    {od30 an30 : Option Addr} {sl30 : Array (Option Value)} {oc30 kV30 dc30 pm30 cd30 ct30 : Value}
    {od31 an31 : Option Addr} {sl31 : Array (Option Value)} {oc31 kV31 dc31 pm31 cd31 ct31 : Value}
    {od32 an32 : Option Addr} {sl32 : Array (Option Value)} {oc32 kV32 dc32 pm32 cd32 ct32 : Value}
    {od33 an33 : Option Addr} {sl33 : Array (Option Value)} {oc33 kV33 dc33 pm33 cd33 ct33 : Value}
    {mod0 man0 : Option Addr} {msl0 : Array (Option Value)} {moc0 mkV0 mdc0 mpm0 mcd0 mct0 : Value}
    {mod1 man1 : Option Addr} {msl1 : Array (Option Value)} {moc1 mkV1 mdc1 mpm1 mcd1 mct1 : Value}
    {mod2 man2 : Option Addr} {msl2 : Array (Option Value)} {moc2 mkV2 mdc2 mpm2 mcd2 mct2 : Value}
    {mod3 man3 : Option Addr} {msl3 : Array (Option Value)} {moc3 mkV3 mdc3 mpm3 mcd3 mct3 : Value}
    {mod4 man4 : Option Addr} {msl4 : Array (Option Value)} {moc4 mdc4 mpm4 mcd4 mct4 : Value}
    {mod5 man5 : Option Addr} {msl5 : Array (Option Value)} {moc5 mdc5 mpm5 mcd5 mct5 : Value}
    {mod6 man6 : Option Addr} {msl6 : Array (Option Value)} {moc6 mkV6 mdc6 mpm6 mcd6 mct6 : Value}
    {mod7 man7 : Option Addr} {msl7 : Array (Option Value)} {moc7 mkV7 mdc7 mpm7 mcd7 mct7 : Value}
    {mod8 man8 : Option Addr} {msl8 : Array (Option Value)} {moc8 mkV8 mdc8 mpm8 mcd8 mct8 : Value}
    {mod9 man9 : Option Addr} {msl9 : Array (Option Value)} {moc9 mdc9 mpm9 mcd9 mct9 : Value}
    {mod10 man10 : Option Addr} {msl10 : Array (Option Value)} {moc10 mkV10 mdc10 mpm10 mcd10 mct10 : Value}
    (gC : PySem.W.nsIn K mainGlobals "Reader" = some (some (.ref C)))
    (gM : PySem.W.nsIn K mainGlobals "Mover" = some (some (.ref CM)))
    (gI : PySem.W.nsIn K mainGlobals "InvalidMover" = some (some (.ref CI)))
    (gL : PySem.W.nsIn K mainGlobals "MAX_LINES" = some (some (.int 16 tL)))
    (gT : PySem.W.nsIn K mainGlobals "MAX_TESTED" = some (some (.int 6 tT)))
    (gA : PySem.W.nsIn K mainGlobals "MAX_TABLES" = some (some (.int 3 tA)))
    (gB : PySem.W.nsIn K mainGlobals "MAX_PLACEMENTS" = some (some (.int 6 tB)))
    (gJ : PySem.W.nsIn K mainGlobals "MAX_JOINTS" = some (some (.int 40 tJ)))
    (d0 : PySem.W.nsIn K mainGlobals "is_name" = some (some (.ref f0)))
    (l0 : K.lookup f0 = some ⟨oc0, od0, .func (PySem.W.fnOf "is_name" "is_name" (defArgs sName) (defBody sName) (defScope sName) .none kV0 dc0 pm0 an0 cd0 ct0), sl0⟩)
    (c0 : PySem.W.codeIn K cd0 "is_name" = true)
    (k0 : PySem.W.keepIn K (.ref f0) = true)
    (d1 : PySem.W.nsIn K mainGlobals "is_parts" = some (some (.ref f1)))
    (l1 : K.lookup f1 = some ⟨oc1, od1, .func (PySem.W.fnOf "is_parts" "is_parts" (defArgs sParts) (defBody sParts) (defScope sParts) .none kV1 dc1 pm1 an1 cd1 ct1), sl1⟩)
    (c1 : PySem.W.codeIn K cd1 "is_parts" = true)
    (k1 : PySem.W.keepIn K (.ref f1) = true)
    (d2 : PySem.W.nsIn K mainGlobals "is_ascending" = some (some (.ref f2)))
    (l2 : K.lookup f2 = some ⟨oc2, od2, .func (PySem.W.fnOf "is_ascending" "is_ascending" (defArgs sIsAsc) (defBody sIsAsc) (defScope sIsAsc) .none kV2 dc2 pm2 an2 cd2 ct2), sl2⟩)
    (c2 : PySem.W.codeIn K cd2 "is_ascending" = true)
    (k2 : PySem.W.keepIn K (.ref f2) = true)
    (d3 : PySem.W.nsIn K mainGlobals "ascending" = some (some (.ref f3)))
    (l3 : K.lookup f3 = some ⟨oc3, od3, .func (PySem.W.fnOf "ascending" "ascending" (defArgs sAsc) (defBody sAsc) (defScope sAsc) .none kV3 dc3 pm3 an3 cd3 ct3), sl3⟩)
    (c3 : PySem.W.codeIn K cd3 "ascending" = true)
    (k3 : PySem.W.keepIn K (.ref f3) = true)
    (d4 : PySem.W.nsIn K mainGlobals "is_whole_number" = some (some (.ref f4)))
    (l4 : K.lookup f4 = some ⟨oc4, od4, .func (PySem.W.fnOf "is_whole_number" "is_whole_number" (defArgs sWhole) (defBody sWhole) (defScope sWhole) .none kV4 dc4 pm4 an4 cd4 ct4), sl4⟩)
    (c4 : PySem.W.codeIn K cd4 "is_whole_number" = true)
    (k4 : PySem.W.keepIn K (.ref f4) = true)
    (d5 : PySem.W.nsIn K mainGlobals "is_number" = some (some (.ref f5)))
    (l5 : K.lookup f5 = some ⟨oc5, od5, .func (PySem.W.fnOf "is_number" "is_number" (defArgs sNumb) (defBody sNumb) (defScope sNumb) .none kV5 dc5 pm5 an5 cd5 ct5), sl5⟩)
    (c5 : PySem.W.codeIn K cd5 "is_number" = true)
    (k5 : PySem.W.keepIn K (.ref f5) = true)
    (d6 : PySem.W.nsIn K mainGlobals "is_number_within" = some (some (.ref f6)))
    (l6 : K.lookup f6 = some ⟨oc6, od6, .func (PySem.W.fnOf "is_number_within" "is_number_within" (defArgs sWithin) (defBody sWithin) (defScope sWithin) .none kV6 dc6 pm6 an6 cd6 ct6), sl6⟩)
    (c6 : PySem.W.codeIn K cd6 "is_number_within" = true)
    (k6 : PySem.W.keepIn K (.ref f6) = true)
    (d7 : PySem.W.nsIn K mainGlobals "is_one_of" = some (some (.ref f7)))
    (l7 : K.lookup f7 = some ⟨oc7, od7, .func (PySem.W.fnOf "is_one_of" "is_one_of" (defArgs sIsOne) (defBody sIsOne) (defScope sIsOne) .none kV7 dc7 pm7 an7 cd7 ct7), sl7⟩)
    (c7 : PySem.W.codeIn K cd7 "is_one_of" = true)
    (k7 : PySem.W.keepIn K (.ref f7) = true)
    (d8 : PySem.W.nsIn K mainGlobals "is_some_parts" = some (some (.ref f8)))
    (l8 : K.lookup f8 = some ⟨oc8, od8, .func (PySem.W.fnOf "is_some_parts" "is_some_parts" (defArgs sSomeP) (defBody sSomeP) (defScope sSomeP) .none kV8 dc8 pm8 an8 cd8 ct8), sl8⟩)
    (c8 : PySem.W.codeIn K cd8 "is_some_parts" = true)
    (k8 : PySem.W.keepIn K (.ref f8) = true)
    (d9 : PySem.W.nsIn K mainGlobals "is_placements" = some (some (.ref f9)))
    (l9 : K.lookup f9 = some ⟨oc9, od9, .func (PySem.W.fnOf "is_placements" "is_placements" (defArgs sPlaces) (defBody sPlaces) (defScope sPlaces) .none kV9 dc9 pm9 an9 cd9 ct9), sl9⟩)
    (c9 : PySem.W.codeIn K cd9 "is_placements" = true)
    (k9 : PySem.W.keepIn K (.ref f9) = true)
    (d10 : PySem.W.nsIn K mainGlobals "is_pair" = some (some (.ref f10)))
    (l10 : K.lookup f10 = some ⟨oc10, od10, .func (PySem.W.fnOf "is_pair" "is_pair" (defArgs sPair) (defBody sPair) (defScope sPair) .none kV10 dc10 pm10 an10 cd10 ct10), sl10⟩)
    (c10 : PySem.W.codeIn K cd10 "is_pair" = true)
    (k10 : PySem.W.keepIn K (.ref f10) = true)
    (d11 : PySem.W.nsIn K mainGlobals "is_bond" = some (some (.ref f11)))
    (l11 : K.lookup f11 = some ⟨oc11, od11, .func (PySem.W.fnOf "is_bond" "is_bond" (defArgs sBond) (defBody sBond) (defScope sBond) .none kV11 dc11 pm11 an11 cd11 ct11), sl11⟩)
    (c11 : PySem.W.codeIn K cd11 "is_bond" = true)
    (k11 : PySem.W.keepIn K (.ref f11) = true)
    (d12 : PySem.W.nsIn K mainGlobals "is_steps" = some (some (.ref f12)))
    (l12 : K.lookup f12 = some ⟨oc12, od12, .func (PySem.W.fnOf "is_steps" "is_steps" (defArgs sSteps) (defBody sSteps) (defScope sSteps) .none kV12 dc12 pm12 an12 cd12 ct12), sl12⟩)
    (c12 : PySem.W.codeIn K cd12 "is_steps" = true)
    (k12 : PySem.W.keepIn K (.ref f12) = true)
    (d13 : PySem.W.nsIn K mainGlobals "is_table" = some (some (.ref f13)))
    (l13 : K.lookup f13 = some ⟨oc13, od13, .func (PySem.W.fnOf "is_table" "is_table" (defArgs sTable) (defBody sTable) (defScope sTable) .none kV13 dc13 pm13 an13 cd13 ct13), sl13⟩)
    (c13 : PySem.W.codeIn K cd13 "is_table" = true)
    (k13 : PySem.W.keepIn K (.ref f13) = true)
    (d14 : PySem.W.nsIn K mainGlobals "is_tables" = some (some (.ref f14)))
    (l14 : K.lookup f14 = some ⟨oc14, od14, .func (PySem.W.fnOf "is_tables" "is_tables" (defArgs sTables) (defBody sTables) (defScope sTables) .none kV14 dc14 pm14 an14 cd14 ct14), sl14⟩)
    (c14 : PySem.W.codeIn K cd14 "is_tables" = true)
    (k14 : PySem.W.keepIn K (.ref f14) = true)
    (d15 : PySem.W.nsIn K mainGlobals "is_bonds" = some (some (.ref f15)))
    (l15 : K.lookup f15 = some ⟨oc15, od15, .func (PySem.W.fnOf "is_bonds" "is_bonds" (defArgs sBonds) (defBody sBonds) (defScope sBonds) .none kV15 dc15 pm15 an15 cd15 ct15), sl15⟩)
    (c15 : PySem.W.codeIn K cd15 "is_bonds" = true)
    (k15 : PySem.W.keepIn K (.ref f15) = true)
    (d16 : PySem.W.nsIn K mainGlobals "full_bonds" = some (some (.ref f16)))
    (l16 : K.lookup f16 = some ⟨oc16, od16, .func (PySem.W.fnOf "full_bonds" "full_bonds" (defArgs sFull) (defBody sFull) (defScope sFull) .none kV16 dc16 pm16 an16 cd16 ct16), sl16⟩)
    (c16 : PySem.W.codeIn K cd16 "full_bonds" = true)
    (k16 : PySem.W.keepIn K (.ref f16) = true)
    (d17 : PySem.W.nsIn K mainGlobals "ordered" = some (some (.ref f17)))
    (l17 : K.lookup f17 = some ⟨oc17, od17, .func (PySem.W.fnOf "ordered" "ordered" (defArgs sOrd) (defBody sOrd) (defScope sOrd) .none kV17 dc17 pm17 an17 cd17 ct17), sl17⟩)
    (c17 : PySem.W.codeIn K cd17 "ordered" = true)
    (k17 : PySem.W.keepIn K (.ref f17) = true)
    (d18 : PySem.W.nsIn K mainGlobals "joints_of" = some (some (.ref f18)))
    (l18 : K.lookup f18 = some ⟨oc18, od18, .func (PySem.W.fnOf "joints_of" "joints_of" (defArgs sJoin) (defBody sJoin) (defScope sJoin) .none kV18 dc18 pm18 an18 cd18 ct18), sl18⟩)
    (c18 : PySem.W.codeIn K cd18 "joints_of" = true)
    (k18 : PySem.W.keepIn K (.ref f18) = true)
    (d19 : PySem.W.nsIn K mainGlobals "new_names" = some (some (.ref f19)))
    (l19 : K.lookup f19 = some ⟨oc19, od19, .func (PySem.W.fnOf "new_names" "new_names" (defArgs sNew) (defBody sNew) (defScope sNew) .none kV19 dc19 pm19 an19 cd19 ct19), sl19⟩)
    (c19 : PySem.W.codeIn K cd19 "new_names" = true)
    (k19 : PySem.W.keepIn K (.ref f19) = true)
    (d20 : PySem.W.nsIn K mainGlobals "need_parts" = some (some (.ref f20)))
    (l20 : K.lookup f20 = some ⟨oc20, od20, .func (PySem.W.fnOf "need_parts" "need_parts" (defArgs sNeedP) (defBody sNeedP) (defScope sNeedP) .none kV20 dc20 pm20 an20 cd20 ct20), sl20⟩)
    (c20 : PySem.W.codeIn K cd20 "need_parts" = true)
    (k20 : PySem.W.keepIn K (.ref f20) = true)
    (d21 : PySem.W.nsIn K mainGlobals "need_mover" = some (some (.ref f21)))
    (l21 : K.lookup f21 = some ⟨oc21, od21, .func (PySem.W.fnOf "need_mover" "need_mover" (defArgs sNeedM) (defBody sNeedM) (defScope sNeedM) .none kV21 dc21 pm21 an21 cd21 ct21), sl21⟩)
    (c21 : PySem.W.codeIn K cd21 "need_mover" = true)
    (k21 : PySem.W.keepIn K (.ref f21) = true)
    (d22 : PySem.W.nsIn K mainGlobals "are_names" = some (some (.ref f22)))
    (l22 : K.lookup f22 = some ⟨oc22, od22, .func (PySem.W.fnOf "are_names" "are_names" (defArgs sNames) (defBody sNames) (defScope sNames) .none kV22 dc22 pm22 an22 cd22 ct22), sl22⟩)
    (c22 : PySem.W.codeIn K cd22 "are_names" = true)
    (k22 : PySem.W.keepIn K (.ref f22) = true)
    (d23 : PySem.W.nsIn K mainGlobals "is_line" = some (some (.ref f23)))
    (l23 : K.lookup f23 = some ⟨oc23, od23, .func (PySem.W.fnOf "is_line" "is_line" (defArgs sLine) (defBody sLine) (defScope sLine) .none kV23 dc23 pm23 an23 cd23 ct23), sl23⟩)
    (c23 : PySem.W.codeIn K cd23 "is_line" = true)
    (k23 : PySem.W.keepIn K (.ref f23) = true)
    (d24 : PySem.W.nsIn K mainGlobals "pairs_of" = some (some (.ref f24)))
    (l24 : K.lookup f24 = some ⟨oc24, od24, .func (PySem.W.fnOf "pairs_of" "pairs_of" (defArgs sPairs) (defBody sPairs) (defScope sPairs) .none kV24 dc24 pm24 an24 cd24 ct24), sl24⟩)
    (c24 : PySem.W.codeIn K cd24 "pairs_of" = true)
    (k24 : PySem.W.keepIn K (.ref f24) = true)
    (d25 : PySem.W.nsIn K mainGlobals "_law_dice" = some (some (.ref f25)))
    (l25 : K.lookup f25 = some ⟨oc25, od25, .func (PySem.W.fnOf "_law_dice" "_law_dice" (defArgs sDice) (defBody sDice) (defScope sDice) .none kV25 dc25 pm25 an25 cd25 ct25), sl25⟩)
    (c25 : PySem.W.codeIn K cd25 "_law_dice" = true)
    (k25 : PySem.W.keepIn K (.ref f25) = true)
    (d26 : PySem.W.nsIn K mainGlobals "_law_roll" = some (some (.ref f26)))
    (l26 : K.lookup f26 = some ⟨oc26, od26, .func (PySem.W.fnOf "_law_roll" "_law_roll" (defArgs sRoll) (defBody sRoll) (defScope sRoll) .none kV26 dc26 pm26 an26 cd26 ct26), sl26⟩)
    (c26 : PySem.W.codeIn K cd26 "_law_roll" = true)
    (k26 : PySem.W.keepIn K (.ref f26) = true)
    (d27 : PySem.W.nsIn K mainGlobals "_law_one_of" = some (some (.ref f27)))
    (l27 : K.lookup f27 = some ⟨oc27, od27, .func (PySem.W.fnOf "_law_one_of" "_law_one_of" (defArgs sOne) (defBody sOne) (defScope sOne) .none kV27 dc27 pm27 an27 cd27 ct27), sl27⟩)
    (c27 : PySem.W.codeIn K cd27 "_law_one_of" = true)
    (k27 : PySem.W.keepIn K (.ref f27) = true)
    (d28 : PySem.W.nsIn K mainGlobals "_law_mover" = some (some (.ref f28)))
    (l28 : K.lookup f28 = some ⟨oc28, od28, .func (PySem.W.fnOf "_law_mover" "_law_mover" (defArgs sMv) (defBody sMv) (defScope sMv) .none kV28 dc28 pm28 an28 cd28 ct28), sl28⟩)
    (c28 : PySem.W.codeIn K cd28 "_law_mover" = true)
    (k28 : PySem.W.keepIn K (.ref f28) = true)
    (d29 : PySem.W.nsIn K mainGlobals "_law_line" = some (some (.ref f29)))
    (l29 : K.lookup f29 = some ⟨oc29, od29, .func (PySem.W.fnOf "_law_line" "_law_line" (defArgs sLn) (defBody sLn) (defScope sLn) .none kV29 dc29 pm29 an29 cd29 ct29), sl29⟩)
    (c29 : PySem.W.codeIn K cd29 "_law_line" = true)
    (k29 : PySem.W.keepIn K (.ref f29) = true)
    (d30 : PySem.W.nsIn K mainGlobals "_law_is_right" = some (some (.ref f30)))
    (l30 : K.lookup f30 = some ⟨oc30, od30, .func (PySem.W.fnOf "_law_is_right" "_law_is_right" (defArgs sRi) (defBody sRi) (defScope sRi) .none kV30 dc30 pm30 an30 cd30 ct30), sl30⟩)
    (c30 : PySem.W.codeIn K cd30 "_law_is_right" = true)
    (k30 : PySem.W.keepIn K (.ref f30) = true)
    (d31 : PySem.W.nsIn K mainGlobals "_law_spoilt" = some (some (.ref f31)))
    (l31 : K.lookup f31 = some ⟨oc31, od31, .func (PySem.W.fnOf "_law_spoilt" "_law_spoilt" (defArgs sSp) (defBody sSp) (defScope sSp) .none kV31 dc31 pm31 an31 cd31 ct31), sl31⟩)
    (c31 : PySem.W.codeIn K cd31 "_law_spoilt" = true)
    (k31 : PySem.W.keepIn K (.ref f31) = true)
    (d32 : PySem.W.nsIn K mainGlobals "_law_right" = some (some (.ref f32)))
    (l32 : K.lookup f32 = some ⟨oc32, od32, .func (PySem.W.fnOf "_law_right" "_law_right" (defArgs sRt) (defBody sRt) (defScope sRt) .none kV32 dc32 pm32 an32 cd32 ct32), sl32⟩)
    (c32 : PySem.W.codeIn K cd32 "_law_right" = true)
    (k32 : PySem.W.keepIn K (.ref f32) = true)
    (d33 : PySem.W.nsIn K mainGlobals "law" = some (some (.ref f33)))
    (l33 : K.lookup f33 = some ⟨oc33, od33, .func (PySem.W.fnOf "law" "law" (defArgs sLw) (defBody sLw) (defScope sLw) .none kV33 dc33 pm33 an33 cd33 ct33), sl33⟩)
    (c33 : PySem.W.codeIn K cd33 "law" = true)
    (k33 : PySem.W.keepIn K (.ref f33) = true)
    (z0 : PySem.W.nsIn K mainGlobals "len" = some none)
    (z1 : PySem.W.nsIn K mainGlobals "int" = some none)
    (z2 : PySem.W.nsIn K mainGlobals "abs" = some none)
    (z3 : PySem.W.nsIn K mainGlobals "max" = some none)
    (z4 : PySem.W.nsIn K mainGlobals "list" = some none)
    (z5 : PySem.W.nsIn K mainGlobals "range" = some none)
    (z6 : PySem.W.nsIn K mainGlobals "all" = some none)
    (z7 : PySem.W.nsIn K mainGlobals "isinstance" = some none)
    (z8 : PySem.W.nsIn K mainGlobals "str" = some none)
    (z9 : PySem.W.nsIn K mainGlobals "bool" = some none)
    (z10 : PySem.W.nsIn K mainGlobals "tuple" = some none)
    (z11 : PySem.W.nsIn K mainGlobals "sorted" = some none)
    (z12 : PySem.W.nsIn K mainGlobals "set" = some none)
    (z13 : PySem.W.nsIn K mainGlobals "min" = some none)
    (z14 : PySem.W.nsIn K mainGlobals "enumerate" = some none)
    (z15 : PySem.W.nsIn K mainGlobals "dict" = some none)
    (z16 : PySem.W.nsIn K mainGlobals "repr" = some none)
    (ma0 : PySem.W.findIn K (.ref C) "__init__" = some (some (.ref g0)))
    (mf0 : PySem.W.isFn K (.ref g0) = true)
    (ml0 : K.lookup g0 = some ⟨moc0, mod0, .func (PySem.W.fnOf "__init__" "Reader.__init__" (defArgs sInit) (defBody sInit) (defScope sInit) .none mkV0 mdc0 mpm0 man0 mcd0 mct0), msl0⟩)
    (mc0 : PySem.W.codeIn K mcd0 "Reader.__init__" = true)
    (mk0 : PySem.W.keepIn K (.ref g0) = true)
    (ma1 : PySem.W.findCls K (.ref C) (.type "type") "of" = some (.get (.builtin "classmethod.__get__") (.ref p1) .none (.ref C)))
    (mr1 : PySem.W.recIn K p1 "classmethod" = some (.ref g1 :: rest1))
    (mi1 : PySem.W.fnIn K g1 = true)
    (ml1 : K.lookup g1 = some ⟨moc1, mod1, .func (PySem.W.fnOf "of" "Reader.of" (defArgs sOf) (defBody sOf) (defScope sOf) .none mkV1 mdc1 mpm1 man1 mcd1 mct1), msl1⟩)
    (mc1 : PySem.W.codeIn K mcd1 "Reader.of" = true)
    (mk1 : PySem.W.keepIn K (.ref g1) = true)
    (ma2 : PySem.W.findIn K (.ref C) "pairs" = some (some (.ref p2)))
    (mg2 : PySem.W.specialIn K (.ref p2) "__get__" = some (some (.builtin "property.__get__")))
    (mt2 : PySem.W.takesIn K (.ref p2) = some true)
    (mr2 : PySem.W.recIn K p2 "property" = some (.ref g2 :: rest2))
    (ml2 : K.lookup g2 = some ⟨moc2, mod2, .func (PySem.W.fnOf "pairs" "Reader.pairs" (defArgs sPrs) (defBody sPrs) (defScope sPrs) .none mkV2 mdc2 mpm2 man2 mcd2 mct2), msl2⟩)
    (mc2 : PySem.W.codeIn K mcd2 "Reader.pairs" = true)
    (mk2 : PySem.W.keepIn K (.ref g2) = true)
    (ma3 : PySem.W.findIn K (.ref C) "fits" = some (some (.ref g3)))
    (mf3 : PySem.W.isFn K (.ref g3) = true)
    (ml3 : K.lookup g3 = some ⟨moc3, mod3, .func (PySem.W.fnOf "fits" "Reader.fits" (defArgs sFits) (defBody sFits) (defScope sFits) .none mkV3 mdc3 mpm3 man3 mcd3 mct3), msl3⟩)
    (mc3 : PySem.W.codeIn K mcd3 "Reader.fits" = true)
    (mk3 : PySem.W.keepIn K (.ref g3) = true)
    (ma4 : PySem.W.findIn K (.ref CM) "__init__" = some (some (.ref g4)))
    (mf4 : PySem.W.isFn K (.ref g4) = true)
    (ml4 : K.lookup g4 = some ⟨moc4, mod4, .func (PySem.W.fnOf "__init__" "Mover.__init__" (defArgs sMi) (defBody sMi) (defScope sMi) .none (.ref DI) mdc4 mpm4 man4 mcd4 mct4), msl4⟩)
    (mc4 : PySem.W.codeIn K mcd4 "Mover.__init__" = true)
    (mk4 : PySem.W.keepIn K (.ref g4) = true)
    (ma5 : PySem.W.findCls K (.ref CM) (.type "type") "of" = some (.get (.builtin "classmethod.__get__") (.ref p5) .none (.ref CM)))
    (mr5 : PySem.W.recIn K p5 "classmethod" = some (.ref g5 :: rest5))
    (mi5 : PySem.W.fnIn K g5 = true)
    (ml5 : K.lookup g5 = some ⟨moc5, mod5, .func (PySem.W.fnOf "of" "Mover.of" (defArgs sMo) (defBody sMo) (defScope sMo) .none (.ref DO) mdc5 mpm5 man5 mcd5 mct5), msl5⟩)
    (mc5 : PySem.W.codeIn K mcd5 "Mover.of" = true)
    (mk5 : PySem.W.keepIn K (.ref g5) = true)
    (ma6 : PySem.W.findIn K (.ref CM) "parts" = some (some (.ref p6)))
    (mg6 : PySem.W.specialIn K (.ref p6) "__get__" = some (some (.builtin "property.__get__")))
    (mt6 : PySem.W.takesIn K (.ref p6) = some true)
    (mr6 : PySem.W.recIn K p6 "property" = some (.ref g6 :: rest6))
    (ml6 : K.lookup g6 = some ⟨moc6, mod6, .func (PySem.W.fnOf "parts" "Mover.parts" (defArgs sMps) (defBody sMps) (defScope sMps) .none mkV6 mdc6 mpm6 man6 mcd6 mct6), msl6⟩)
    (mc6 : PySem.W.codeIn K mcd6 "Mover.parts" = true)
    (mk6 : PySem.W.keepIn K (.ref g6) = true)
    (ma7 : PySem.W.findIn K (.ref CM) "tables" = some (some (.ref p7)))
    (mg7 : PySem.W.specialIn K (.ref p7) "__get__" = some (some (.builtin "property.__get__")))
    (mt7 : PySem.W.takesIn K (.ref p7) = some true)
    (mr7 : PySem.W.recIn K p7 "property" = some (.ref g7 :: rest7))
    (ml7 : K.lookup g7 = some ⟨moc7, mod7, .func (PySem.W.fnOf "tables" "Mover.tables" (defArgs sMts) (defBody sMts) (defScope sMts) .none mkV7 mdc7 mpm7 man7 mcd7 mct7), msl7⟩)
    (mc7 : PySem.W.codeIn K mcd7 "Mover.tables" = true)
    (mk7 : PySem.W.keepIn K (.ref g7) = true)
    (ma8 : PySem.W.findIn K (.ref CM) "__contains__" = some (some (.ref g8)))
    (mf8 : PySem.W.isFn K (.ref g8) = true)
    (ml8 : K.lookup g8 = some ⟨moc8, mod8, .func (PySem.W.fnOf "__contains__" "Mover.__contains__" (defArgs sMha) (defBody sMha) (defScope sMha) .none mkV8 mdc8 mpm8 man8 mcd8 mct8), msl8⟩)
    (mc8 : PySem.W.codeIn K mcd8 "Mover.__contains__" = true)
    (mk8 : PySem.W.keepIn K (.ref g8) = true)
    (ma9 : PySem.W.findIn K (.ref CM) "renamed" = some (some (.ref g9)))
    (mf9 : PySem.W.isFn K (.ref g9) = true)
    (ml9 : K.lookup g9 = some ⟨moc9, mod9, .func (PySem.W.fnOf "renamed" "Mover.renamed" (defArgs sRen) (defBody sRen) (defScope sRen) .none (.ref DR) mdc9 mpm9 man9 mcd9 mct9), msl9⟩)
    (mc9 : PySem.W.codeIn K mcd9 "Mover.renamed" = true)
    (mk9 : PySem.W.keepIn K (.ref g9) = true)
    (ma10 : PySem.W.findIn K (.ref CM) "_told" = some (some (.ref g10)))
    (mf10 : PySem.W.isFn K (.ref g10) = true)
    (ml10 : K.lookup g10 = some ⟨moc10, mod10, .func (PySem.W.fnOf "_told" "Mover._told" (defArgs sMtd) (defBody sMtd) (defScope sMtd) .none mkV10 mdc10 mpm10 man10 mcd10 mct10), msl10⟩)
    (mc10 : PySem.W.codeIn K mcd10 "Mover._told" = true)
    (mk10 : PySem.W.keepIn K (.ref g10) = true)
    (kdI : PySem.W.nsIn K DI "bonds" = some (some .none))
    (kdO : PySem.W.nsIn K DO "bonds" = some (some .none))
    (kdP : PySem.W.nsIn K DR "parts" = some (some .none))
    (kdT : PySem.W.nsIn K DR "tables" = some (some .none))
    (cpgC : PySem.W.plainGet K C Str.empty = true)
    (chdC : PySem.W.hasDictIn K C = true)
    (cpoC : PySem.W.plainOver K C = true)
    (csaC : PySem.W.findIn K (.ref C) "__setattr__" = some (some (.builtin "object.__setattr__")))
    (cmkC : PySem.W.makesIn K C = true)
    (ckpC : PySem.W.keepIn K (.ref C) = true)
    (crdC : PySem.W.readsIn K C (.type "type") = true)
    (cgaC : PySem.W.specialIn K (.ref C) "__getattribute__" = some (some (.builtin "type.__getattribute__")))
    (chaC : PySem.W.findIn K (.ref C) "__class__" = some (some (.builtin "object.__class__")))
    (chmC : PySem.W.mroIn K C (.type "object") = some true)
    (cseC : (PySem.W.kitOne K (.ref C) (.ref C) == some true) = true)
    (bnoC : noB K C = true)
    (cpgM : PySem.W.plainGet K CM Str.empty = true)
    (chdM : PySem.W.hasDictIn K CM = true)
    (cpoM : PySem.W.plainOver K CM = true)
    (csaM : PySem.W.findIn K (.ref CM) "__setattr__" = some (some (.builtin "object.__setattr__")))
    (cmkM : PySem.W.makesIn K CM = true)
    (ckpM : PySem.W.keepIn K (.ref CM) = true)
    (crdM : PySem.W.readsIn K CM (.type "type") = true)
    (cgaM : PySem.W.specialIn K (.ref CM) "__getattribute__" = some (some (.builtin "type.__getattribute__")))
    (chaM : PySem.W.findIn K (.ref CM) "__class__" = some (some (.builtin "object.__class__")))
    (chmM : PySem.W.mroIn K CM (.type "object") = some true)
    (cseM : (PySem.W.kitOne K (.ref CM) (.ref CM) == some true) = true)
    (bnoM : noB K CM = true)
    (chn : PySem.W.specialIn K (.builtin "object.__class__") "__get__" = some (some (.builtin "getset_descriptor.__get__")))
    (cht : PySem.W.takesIn K (.builtin "object.__class__") = some true)
    (cnL : PySem.W.findIn K (.ref C) "_lines" = some none)
    (cnT : PySem.W.findIn K (.ref C) "_tested" = some none)
    (mnP : PySem.W.findIn K (.ref CM) "_parts" = some none)
    (mnT : PySem.W.findIn K (.ref CM) "_tables" = some none)
    (mnL : PySem.W.findIn K (.ref CM) "_placements" = some none)
    (mnS : PySem.W.findIn K (.ref CM) "_steps" = some none)
    (mnB : PySem.W.findIn K (.ref CM) "_bonds" = some none)
    (mnJ : PySem.W.findIn K (.ref CM) "_joints" = some none)
    (noR : (PySem.W.kitOne K (.ref C) (.ref CM) == some false) = true)
    (eII : (PySem.W.exmOne K (.ref CI) (.ref CI) == some true) = true)
    (rx : PySem.W.excIn K CI bVe "ValueError.__new__" = true)
    (rk : PySem.W.keepIn K (.ref CI) = true)
    (rb : PySem.W.subIn K (.ref CI) (.type "BaseException") = some true)
    (rt : PySem.W.typeIn K (.ref CI) = some (.type "type"))
    : ∃ fd : FuncData, (∀ (s : Shared) (u : Value), BindsTo s fd ⟨[u], []⟩ [("_law_script", u)]) ∧ ∀ base : Heap, K.In base → base.Ns mainGlobals mg → (∃ o, base.get? sysModules = some o) → FnG P w K mg base 12 fa fd ["_law_script"] (spLw K) := by
  have e := hfa.symm.trans (PySem.W.mg_of X G d33)
  cases e
  have F0 := fun_mk (st := sName) l0 c0 k0
  have b0 := F0.binds (ps := ["value"]) fun _ _ _ _ _ _ us hl => match us, hl with | [_], _ => rfl
  have M0 := PySem.W.mg_of X G d0
  have F1 := fun_mk (st := sParts) l1 c1 k1
  have b1 := F1.binds (ps := ["value"]) fun _ _ _ _ _ _ us hl => match us, hl with | [_], _ => rfl
  have M1 := PySem.W.mg_of X G d1
  have F2 := fun_mk (st := sIsAsc) l2 c2 k2
  have b2 := F2.binds (ps := ["values"]) fun _ _ _ _ _ _ us hl => match us, hl with | [_], _ => rfl
  have M2 := PySem.W.mg_of X G d2
  have F3 := fun_mk (st := sAsc) l3 c3 k3
  have b3 := F3.binds (ps := ["values"]) fun _ _ _ _ _ _ us hl => match us, hl with | [_], _ => rfl
  have M3 := PySem.W.mg_of X G d3
  have F4 := fun_mk (st := sWhole) l4 c4 k4
  have b4 := F4.binds (ps := ["value"]) fun _ _ _ _ _ _ us hl => match us, hl with | [_], _ => rfl
  have M4 := PySem.W.mg_of X G d4
  have F5 := fun_mk (st := sNumb) l5 c5 k5
  have b5 := F5.binds (ps := ["value"]) fun _ _ _ _ _ _ us hl => match us, hl with | [_], _ => rfl
  have M5 := PySem.W.mg_of X G d5
  have F6 := fun_mk (st := sWithin) l6 c6 k6
  have b6 := F6.binds (ps := ["value", "most"]) fun _ _ _ _ _ _ us hl => match us, hl with | [_, _], _ => rfl
  have M6 := PySem.W.mg_of X G d6
  have F7 := fun_mk (st := sIsOne) l7 c7 k7
  have b7 := F7.binds (ps := ["names", "value"]) fun _ _ _ _ _ _ us hl => match us, hl with | [_, _], _ => rfl
  have M7 := PySem.W.mg_of X G d7
  have F8 := fun_mk (st := sSomeP) l8 c8 k8
  have b8 := F8.binds (ps := ["parts", "value"]) fun _ _ _ _ _ _ us hl => match us, hl with | [_, _], _ => rfl
  have M8 := PySem.W.mg_of X G d8
  have F9 := fun_mk (st := sPlaces) l9 c9 k9
  have b9 := F9.binds (ps := ["parts", "value"]) fun _ _ _ _ _ _ us hl => match us, hl with | [_, _], _ => rfl
  have M9 := PySem.W.mg_of X G d9
  have F10 := fun_mk (st := sPair) l10 c10 k10
  have b10 := F10.binds (ps := ["befores", "afters", "value"]) fun _ _ _ _ _ _ us hl => match us, hl with | [_, _, _], _ => rfl
  have M10 := PySem.W.mg_of X G d10
  have F11 := fun_mk (st := sBond) l11 c11 k11
  have b11 := F11.binds (ps := ["befores", "afters", "value"]) fun _ _ _ _ _ _ us hl => match us, hl with | [_, _, _], _ => rfl
  have M11 := PySem.W.mg_of X G d11
  have F12 := fun_mk (st := sSteps) l12 c12 k12
  have b12 := F12.binds (ps := ["placements", "value"]) fun _ _ _ _ _ _ us hl => match us, hl with | [_, _], _ => rfl
  have M12 := PySem.W.mg_of X G d12
  have F13 := fun_mk (st := sTable) l13 c13 k13
  have b13 := F13.binds (ps := ["parts", "value"]) fun _ _ _ _ _ _ us hl => match us, hl with | [_, _], _ => rfl
  have M13 := PySem.W.mg_of X G d13
  have F14 := fun_mk (st := sTables) l14 c14 k14
  have b14 := F14.binds (ps := ["parts", "value"]) fun _ _ _ _ _ _ us hl => match us, hl with | [_, _], _ => rfl
  have M14 := PySem.W.mg_of X G d14
  have F15 := fun_mk (st := sBonds) l15 c15 k15
  have b15 := F15.binds (ps := ["tables", "value"]) fun _ _ _ _ _ _ us hl => match us, hl with | [_, _], _ => rfl
  have M15 := PySem.W.mg_of X G d15
  have F16 := fun_mk (st := sFull) l16 c16 k16
  have b16 := F16.binds (ps := ["tables"]) fun _ _ _ _ _ _ us hl => match us, hl with | [_], _ => rfl
  have M16 := PySem.W.mg_of X G d16
  have F17 := fun_mk (st := sOrd) l17 c17 k17
  have b17 := F17.binds (ps := ["placements"]) fun _ _ _ _ _ _ us hl => match us, hl with | [_], _ => rfl
  have M17 := PySem.W.mg_of X G d17
  have F18 := fun_mk (st := sJoin) l18 c18 k18
  have b18 := F18.binds (ps := ["placements", "bonds"]) fun _ _ _ _ _ _ us hl => match us, hl with | [_, _], _ => rfl
  have M18 := PySem.W.mg_of X G d18
  have F19 := fun_mk (st := sNew) l19 c19 k19
  have b19 := F19.binds (ps := ["names", "given"]) fun _ _ _ _ _ _ us hl => match us, hl with | [_, _], _ => rfl
  have M19 := PySem.W.mg_of X G d19
  have F20 := fun_mk (st := sNeedP) l20 c20 k20
  have b20 := F20.binds (ps := ["parts"]) fun _ _ _ _ _ _ us hl => match us, hl with | [_], _ => rfl
  have M20 := PySem.W.mg_of X G d20
  have F21 := fun_mk (st := sNeedM) l21 c21 k21
  have b21 := F21.binds (ps := ["mover"]) fun _ _ _ _ _ _ us hl => match us, hl with | [_], _ => rfl
  have M21 := PySem.W.mg_of X G d21
  have F22 := fun_mk (st := sNames) l22 c22 k22
  have b22 := F22.binds (ps := ["values"]) fun _ _ _ _ _ _ us hl => match us, hl with | [_], _ => rfl
  have M22 := PySem.W.mg_of X G d22
  have F23 := fun_mk (st := sLine) l23 c23 k23
  have b23 := F23.binds (ps := ["value", "many"]) fun _ _ _ _ _ _ us hl => match us, hl with | [_, _], _ => rfl
  have M23 := PySem.W.mg_of X G d23
  have F24 := fun_mk (st := sPairs) l24 c24 k24
  have b24 := F24.binds (ps := ["lines", "words"]) fun _ _ _ _ _ _ us hl => match us, hl with | [_, _], _ => rfl
  have M24 := PySem.W.mg_of X G d24
  have F25 := fun_mk (st := sDice) l25 c25 k25
  have b25 := F25.binds (ps := ["_law_script", "_law_at"]) fun _ _ _ _ _ _ us hl => match us, hl with | [_, _], _ => rfl
  have M25 := PySem.W.mg_of X G d25
  have F26 := fun_mk (st := sRoll) l26 c26 k26
  have b26 := F26.binds (ps := ["_law_dice_here", "_law_total"]) fun _ _ _ _ _ _ us hl => match us, hl with | [_, _], _ => rfl
  have M26 := PySem.W.mg_of X G d26
  have F27 := fun_mk (st := sOne) l27 c27 k27
  have b27 := F27.binds (ps := ["_law_dice_here", "_law_items"]) fun _ _ _ _ _ _ us hl => match us, hl with | [_, _], _ => rfl
  have M27 := PySem.W.mg_of X G d27
  have F28 := fun_mk (st := sMv) l28 c28 k28
  have b28 := F28.binds (ps := ["_law_dice_here"]) fun _ _ _ _ _ _ us hl => match us, hl with | [_], _ => rfl
  have M28 := PySem.W.mg_of X G d28
  have F29 := fun_mk (st := sLn) l29 c29 k29
  have b29 := F29.binds (ps := ["_law_dice_here", "_law_words", "_law_parts", "_law_size"]) fun _ _ _ _ _ _ us hl => match us, hl with | [_, _, _, _], _ => rfl
  have M29 := PySem.W.mg_of X G d29
  have F30 := fun_mk (st := sRi) l30 c30 k30
  have b30 := F30.binds (ps := ["_law_words", "_law_parts", "_law_lines"]) fun _ _ _ _ _ _ us hl => match us, hl with | [_, _, _], _ => rfl
  have M30 := PySem.W.mg_of X G d30
  have F31 := fun_mk (st := sSp) l31 c31 k31
  have b31 := F31.binds (ps := ["_law_dice_here", "_law_lines", "_law_words"]) fun _ _ _ _ _ _ us hl => match us, hl with | [_, _, _], _ => rfl
  have M31 := PySem.W.mg_of X G d31
  have F32 := fun_mk (st := sRt) l32 c32 k32
  have b32 := F32.binds (ps := ["_law_dice_here"]) fun _ _ _ _ _ _ us hl => match us, hl with | [_], _ => rfl
  have M32 := PySem.W.mg_of X G d32
  have F33 := fun_mk (st := sLw) l33 c33 k33
  have E0 := fun_mk (st := sInit) ml0 mc0 mk0
  have E1 := fun_mk (st := sOf) ml1 mc1 mk1
  have e1 := E1.binds (ps := ["cls", "lines"]) fun _ _ _ _ _ _ us hl => match us, hl with | [_, _], _ => rfl
  have E2 := fun_mk (st := sPrs) ml2 mc2 mk2
  have e2 := E2.binds (ps := ["self"]) fun _ _ _ _ _ _ us hl => match us, hl with | [_], _ => rfl
  have E3 := fun_mk (st := sFits) ml3 mc3 mk3
  have e3 := E3.binds (ps := ["self", "mover"]) fun _ _ _ _ _ _ us hl => match us, hl with | [_, _], _ => rfl
  have E4 : FunK K "__init__" "Mover.__init__" sMi g4 DI := ⟨⟨_, _, _, _, _, _, _, _, ml4, mc4⟩, mk4, kdI⟩
  have E5 : FunK K "of" "Mover.of" sMo g5 DO := ⟨⟨_, _, _, _, _, _, _, _, ml5, mc5⟩, mk5, kdO⟩
  have E6 := fun_mk (st := sMps) ml6 mc6 mk6
  have e6 := E6.binds (ps := ["self"]) fun _ _ _ _ _ _ us hl => match us, hl with | [_], _ => rfl
  have E7 := fun_mk (st := sMts) ml7 mc7 mk7
  have e7 := E7.binds (ps := ["self"]) fun _ _ _ _ _ _ us hl => match us, hl with | [_], _ => rfl
  have E8 := fun_mk (st := sMha) ml8 mc8 mk8
  have e8 := E8.binds (ps := ["self", "x"]) fun _ _ _ _ _ _ us hl => match us, hl with | [_, _], _ => rfl
  have E9 : FunD K "renamed" "Mover.renamed" (defArgs sRen) (defBody sRen) (defScope sRen) [] [("parts", .non), ("tables", .non)] g9 _ := ⟨⟨_, _, _, _, _, _, _, _, _, _, rfl, ml9, mc9, .inl ⟨rfl, rfl⟩, .inr ⟨DR, rfl, fun q hq => by
    rcases List.mem_cons.mp hq with rfl | hq
    · exact ⟨.none, kdP, rfl⟩
    · rw [List.mem_singleton.mp hq]; exact ⟨.none, kdT, rfl⟩⟩⟩, mk9⟩
  obtain ⟨mvR, KB⟩ := E9.kbinds0 (ps := ["self", "parts", "tables"]) 1 ["tables"] [("parts", .non)] (fun us mv ws => us ++ (mv ++ ws)) (by simp) (fun q hq => by rw [List.mem_singleton.mp hq]; exact List.mem_cons_self) (fun r1 r2 r3 => r1.append (r2.append r3)) (fun D doc pm an cdv ct us mv ws h1 h2 h3 => match us, mv, ws, h1, h2, h3 with | [_], [_], [_], _, _, _ => ⟨_, _, _, _, _, _, rfl, rfl, rfl⟩)
  have E10 := fun_mk (st := sMtd) ml10 mc10 mk10
  have e10 := E10.binds (ps := ["self"]) fun _ _ _ _ _ _ us hl => match us, hl with | [_], _ => rfl
  refine ⟨PySem.W.fnOf "law" "law" (defArgs sLw) (defBody sLw) (defScope sLw) .none kV33 dc33 pm33 an33 cd33 ct33, fun s u => .of_eq rfl, fun base hKb _ hsys => ?_⟩
  have TB : TxB K mg := ⟨PySem.W.mg_none_of X G z0, PySem.W.mg_none_of X G z1, PySem.W.mg_none_of X G z2, PySem.W.mg_none_of X G z3, PySem.W.mg_none_of X G z4, PySem.W.mg_none_of X G z5⟩
  have TM : TxM K mg := { TB with all := PySem.W.mg_none_of X G z6, isi := PySem.W.mg_none_of X G z7, str := PySem.W.mg_none_of X G z8, bool := PySem.W.mg_none_of X G z9, tuple := PySem.W.mg_none_of X G z10, sorted := PySem.W.mg_none_of X G z11, set := PySem.W.mg_none_of X G z12, min := PySem.W.mg_none_of X G z13, enum := PySem.W.mg_none_of X G z14, dict := PySem.W.mg_none_of X G z15, repr := PySem.W.mg_none_of X G z16 }
  have R0 := ok_name (P := P) (w := w) (base := base) F0 TM
  have R4 := ok_whole (P := P) (w := w) (base := base) F4 TM
  have R5 := ok_numb (P := P) (w := w) (base := base) F5 ⟨_, _, M4, k4, b4, R4⟩
  have R6 := ok_within (P := P) (w := w) (base := base) F6 ⟨_, _, M5, k5, b5, R5⟩
  have TN : TxN K mg P w base := { TM with whole := ⟨_, _, M4, k4, b4, R4⟩, numb := ⟨_, _, M5, k5, b5, R5⟩, within_ := ⟨_, _, M6, k6, b6, R6⟩, name := ⟨_, _, M0, k0, b0, R0⟩ }
  have R22 := ok_names (P := P) (w := w) (base := base) F22 TN
  have TL : TxL K mg P w base := { TN with names := ⟨_, _, M22, k22, b22, R22⟩ }
  have R23 := ok_line (P := P) (w := w) (base := base) F23 TL
  have RX := ok_ascX (P := P) (w := w) (base := base) F3 TM
  have RS := ok_ascS (P := P) (w := w) (base := base) F3 TM
  have RXT := ok_ascXT (P := P) (w := w) (base := base) F3 TM
  have TP : TxP K mg P w base := { TL with line := ⟨_, _, M23, k23, b23, R23⟩, ascX := ⟨_, _, M3, k3, b3, RX⟩, ascS := ⟨_, _, M3, k3, b3, RS⟩ }
  have R24 := ok_pairs (P := P) (w := w) (base := base) F24 TP
  have clC : Cls K C := ⟨cpgC, chdC, cpoC, csaC⟩
  have clM : Cls K CM := ⟨cpgM, chdM, cpoM, csaM⟩
  have TR : TxR0 K mg P w base C := { TP with cl := clC, nL := cnL, nT := cnT, mgC := PySem.W.mg_of X G gC, mxL := ⟨_, PySem.W.mg_of X G gL⟩, mxT := ⟨_, PySem.W.mg_of X G gT⟩, pairs := ⟨_, _, M24, k24, b24, R24⟩ }
  have Q0 := ok_init E0 TR
  have TR1 : TxR1 K mg P w base C := { TR with made_ := ⟨_, ⟨cmkC, ma0, mf0, ckpC⟩, Q0⟩ }
  have Q1 := ok_of E1 TR1
  have CRC : ClX.CRead K C (.type "type") := ⟨crdC, cgaC⟩
  have CRM : ClX.CRead K CM (.type "type") := ⟨crdM, cgaM⟩
  have Q2 := ok_prs E2 TR
  have IC : TxI K C := ⟨chaC, chn, cht, chmC, beq_iff_eq.mp cseC, fun t ht => beq_iff_eq.mp (List.all_eq_true.mp bnoC t ht)⟩
  have IM : TxI K CM := ⟨chaM, chn, cht, chmM, beq_iff_eq.mp cseM, fun t ht => beq_iff_eq.mp (List.all_eq_true.mp bnoM t ht)⟩
  have R2 := ok_isAsc (P := P) (w := w) (base := base) F2 TM
  have R1 := ok_parts (P := P) (w := w) (base := base) F1 TM ⟨_, _, M0, k0, b0, R0⟩ ⟨_, _, M2, k2, b2, R2⟩
  have R7 := ok_isOne (P := P) (w := w) (base := base) F7 TM
  have ROT := ok_isOneT (P := P) (w := w) (base := base) F7 TM
  have R8 := ok_someP (P := P) (w := w) (base := base) F8 TM ⟨_, _, M2, k2, b2, R2⟩
  have R9 := ok_places (P := P) (w := w) (base := base) F9 TM ⟨_, PySem.W.mg_of X G gB⟩ ⟨_, _, M0, k0, b0, R0⟩ ⟨_, _, M8, k8, b8, R8⟩
  have R10 := ok_pair (P := P) (w := w) (base := base) F10 TM ⟨_, _, M7, k7, b7, R7⟩
  have R11 := ok_bond (P := P) (w := w) (base := base) F11 TM ⟨_, _, M10, k10, b10, R10⟩
  have R12 := ok_steps (P := P) (w := w) (base := base) F12 TM ⟨_, _, M11, k11, b11, R11⟩
  have R13 := ok_table (P := P) (w := w) (base := base) F13 TM ⟨_, _, M0, k0, b0, R0⟩ ⟨_, _, M9, k9, b9, R9⟩ ⟨_, _, M12, k12, b12, R12⟩
  have R14 := ok_tables (P := P) (w := w) (base := base) F14 TM ⟨_, PySem.W.mg_of X G gA⟩ ⟨_, _, M13, k13, b13, R13⟩
  have R15 := ok_bonds (P := P) (w := w) (base := base) F15 TM ⟨_, _, M11, k11, b11, R11⟩
  have R16 := ok_full (P := P) (w := w) (base := base) F16 TM
  have R17 := ok_ord (P := P) (w := w) (base := base) F17 TM
  have R18 := ok_join (P := P) (w := w) (base := base) F18 TM
  have R20 := ok_needP (P := P) (w := w) (base := base) F20 ⟨_, _, M1, k1, b1, R1⟩
  have TV : TxV K mg P w base CM := { TM with cl := clM, nP := mnP, nT := mnT, nL := mnL, nS := mnS, nB := mnB, nJ := mnJ, mxJ := ⟨_, PySem.W.mg_of X G gJ⟩, needP := ⟨_, _, M20, k20, b20, R20⟩, tbs := ⟨_, _, M14, k14, b14, R14⟩, bds := ⟨_, _, M15, k15, b15, R15⟩, full := ⟨_, _, M16, k16, b16, R16⟩, ord := ⟨_, _, M17, k17, b17, R17⟩, ascT := ⟨_, _, M3, k3, b3, RXT⟩, join := ⟨_, _, M18, k18, b18, R18⟩ }
  have MkM : Mk K CM g4 := ⟨cmkM, ma4, mf4, ckpM⟩
  have Q4 := ok_mi E4 TV
  have Q5 := ok_mo E5 TM MkM Q4
  have Q6 := ok_mps (P := P) (w := w) (mg := mg) (base := base) E6 clM mnP
  have Q7 := ok_mts (P := P) (w := w) (mg := mg) (base := base) E7 clM mnT
  have Q8 := ok_mha (P := P) (w := w) (mg := mg) (base := base) E8 clM mnT
  have TE : Rd.TxE K mg CM CI := { TM with gM := PySem.W.mg_of X G gM, iM := IM, clM := clM, gI := PySem.W.mg_of X G gI, xI := rx, kI := rk, bI := rb, tI := rt }
  have R21 := ok_needM (P := P) (w := w) (base := base) F21 TE
  have TF : TxF K mg P w base C CM CI := { TR with clM := clM, mps := ⟨_, _, _, ⟨ma6, mg6, mt6, ⟨_, mr6⟩⟩, e6, Q6⟩, mts := ⟨_, _, _, ⟨ma7, mg7, mt7, ⟨_, mr7⟩⟩, e7, Q7⟩, mha := ⟨_, ⟨ma8, mf8⟩, plainRC Q8 e8⟩, prs_ := ⟨_, _, _, ⟨ma2, mg2, mt2, ⟨_, mr2⟩⟩, e2, Q2⟩, needM := ⟨_, _, M21, k21, b21, R21⟩ }
  have Q3 := ok_fits E3 TF
  have TM0 : TxM0 K mg CM := { TM with cl := clM, nP := mnP, nT := mnT, nL := mnL, nS := mnS, nB := mnB }
  have Q10 := ok_mtd (P := P) (w := w) (base := base) E10 TM0
  have R19 := ok_new (P := P) (w := w) (base := base) F19 TM ⟨_, _, M7, k7, b7, ROT⟩ ⟨_, _, M0, k0, b0, R0⟩
  have TRn : TxRn K mg P w base CM := { TM0 with gM := PySem.W.mg_of X G gM, new_ := ⟨_, _, M19, k19, b19, fnok_imp R19 fun _ _ _ _ => spNewU_to⟩, ascS := ⟨_, _, M3, k3, b3, RS⟩, told := ⟨_, _, ⟨ma10, mf10, mk10⟩, e10, Q10⟩, of_ := ⟨_, _, _, CRM, ⟨ma5, ⟨_, mr5⟩, mi5⟩, Q5⟩ }
  have Q9 := ok_ren E9 TRn
  have R25 := ok_dice (P := P) (w := w) (base := base) F25 TB
  have R26 := ok_roll (P := P) (w := w) (base := base) F26 TB
  have TD : Dc.TxD K mg P w base := { TB with roll := ⟨_, _, M26, k26, b26, R26⟩ }
  have R27 := ok_one  F27 TD
  have T2 : TxE2 K mg P w base := { TM with roll := ⟨_, _, M26, k26, b26, R26⟩, one := ⟨_, _, M27, k27, b27, R27⟩ }
  have R29 := ok_ln  F29 T2
  have R30 := ok_ri (P := P) (w := w) (mg := mg) (base := base) F30
  have R31 := ok_sp  F31 T2
  have T3 : TxE3 K mg P w base CM := { T2 with gM := PySem.W.mg_of X G gM, mof := ⟨_, _, _, CRM, ⟨ma5, ⟨_, mr5⟩, mi5⟩, Q5.plain⟩ }
  have R28 := ok_mv  F28 T3
  have TT : TxRt K mg P w base C CM CI := { T3, TR with mv := ⟨_, _, M28, k28, b28, R28⟩, ln := ⟨_, _, M29, k29, b29, R29⟩, ri := ⟨_, _, M30, k30, b30, R30⟩, sp := ⟨_, _, M31, k31, b31, R31⟩, rof := ⟨_, _, _, CRC, ⟨ma1, ⟨_, mr1⟩, mi1⟩, plainRC Q1 e1⟩, fits := ⟨_, _, ⟨ma3, mf3, mk3⟩, e3, Q3⟩, ren := ⟨_, _, _, ⟨ma9, mf9, mk9⟩, KB, Q9⟩, clM := clM, iM := IM, iR := IC, noR := beq_iff_eq.mp noR, eII := beq_iff_eq.mp eII, gI := PySem.W.mg_of X G gI }
  have R32 := ok_rt  F32 TT
  have TZ : TxZ K mg P w base C CM CI := { TT with dice := ⟨_, _, M25, k25, b25, R25⟩, right := ⟨_, _, M32, k32, b32, R32⟩, madeR := ⟨_, ⟨cmkC, ma0, mf0, ckpC⟩, Q0⟩, madeM := ⟨_, MkM, Q4.plain⟩ }
  exact ok_lw F33 TZ
end Rd

open PySem PySem.W PyProof.Rows
set_option maxRecDepth 100000 in
set_option maxHeartbeats 0 in
theorem PySem.Challenge.cw_asunmoved_k19_readers_that_fit_holds : PySem.Challenge.rw_asunmoved_k19_readers_that_fit.Holds := by
  w_on; o_law; k_head; (case hw => w_witness2)
  k_fill
  refine Ox.walkG (l := PySem.Challenge.rw_asunmoved_k19_readers_that_fit) (n := 63) (k := 12) (x := "_law_script") (sp := Rd.spLw) rfl (by decide) rfl ⟨rfl, by decide, by decide⟩ (by decide +kernel) (fun w h Y => PySem.W.kIn_of Y) ?F (fun K H a ns hl hS => ⟨a, ns, rfl, hS, fun _ => rfl⟩)
  case F =>
    intro w mg fa h KX G hmg
    refine' Rd.all_mk KX G hmg ?kz_gC ?kz_gM ?kz_gI ?kz_gL ?kz_gT ?kz_gA ?kz_gB ?kz_gJ ?kz_d0 ?kz_l0 ?kz_c0 ?kz_k0 ?kz_d1 ?kz_l1 ?kz_c1 ?kz_k1 ?kz_d2 ?kz_l2 ?kz_c2 ?kz_k2 ?kz_d3 ?kz_l3 ?kz_c3 ?kz_k3 ?kz_d4 ?kz_l4 ?kz_c4 ?kz_k4 ?kz_d5 ?kz_l5 ?kz_c5 ?kz_k5 ?kz_d6 ?kz_l6 ?kz_c6 ?kz_k6 ?kz_d7 ?kz_l7 ?kz_c7 ?kz_k7 ?kz_d8 ?kz_l8 ?kz_c8 ?kz_k8 ?kz_d9 ?kz_l9 ?kz_c9 ?kz_k9 ?kz_d10 ?kz_l10 ?kz_c10 ?kz_k10 ?kz_d11 ?kz_l11 ?kz_c11 ?kz_k11 ?kz_d12 ?kz_l12 ?kz_c12 ?kz_k12 ?kz_d13 ?kz_l13 ?kz_c13 ?kz_k13 ?kz_d14 ?kz_l14 ?kz_c14 ?kz_k14 ?kz_d15 ?kz_l15 ?kz_c15 ?kz_k15 ?kz_d16 ?kz_l16 ?kz_c16 ?kz_k16 ?kz_d17 ?kz_l17 ?kz_c17 ?kz_k17 ?kz_d18 ?kz_l18 ?kz_c18 ?kz_k18 ?kz_d19 ?kz_l19 ?kz_c19 ?kz_k19 ?kz_d20 ?kz_l20 ?kz_c20 ?kz_k20 ?kz_d21 ?kz_l21 ?kz_c21 ?kz_k21 ?kz_d22 ?kz_l22 ?kz_c22 ?kz_k22 ?kz_d23 ?kz_l23 ?kz_c23 ?kz_k23 ?kz_d24 ?kz_l24 ?kz_c24 ?kz_k24 ?kz_d25 ?kz_l25 ?kz_c25 ?kz_k25 ?kz_d26 ?kz_l26 ?kz_c26 ?kz_k26 ?kz_d27 ?kz_l27 ?kz_c27 ?kz_k27 ?kz_d28 ?kz_l28 ?kz_c28 ?kz_k28 ?kz_d29 ?kz_l29 ?kz_c29 ?kz_k29 ?kz_d30 ?kz_l30 ?kz_c30 ?kz_k30 ?kz_d31 ?kz_l31 ?kz_c31 ?kz_k31 ?kz_d32 ?kz_l32 ?kz_c32 ?kz_k32 ?kz_d33 ?kz_l33 ?kz_c33 ?kz_k33 ?kz_z0 ?kz_z1 ?kz_z2 ?kz_z3 ?kz_z4 ?kz_z5 ?kz_z6 ?kz_z7 ?kz_z8 ?kz_z9 ?kz_z10 ?kz_z11 ?kz_z12 ?kz_z13 ?kz_z14 ?kz_z15 ?kz_z16 ?kz_ma0 ?kz_mf0 ?kz_ml0 ?kz_mc0 ?kz_mk0 ?kz_ma1 ?kz_mr1 ?kz_mi1 ?kz_ml1 ?kz_mc1 ?kz_mk1 ?kz_ma2 ?kz_mg2 ?kz_mt2 ?kz_mr2 ?kz_ml2 ?kz_mc2 ?kz_mk2 ?kz_ma3 ?kz_mf3 ?kz_ml3 ?kz_mc3 ?kz_mk3 ?kz_ma4 ?kz_mf4 ?kz_ml4 ?kz_mc4 ?kz_mk4 ?kz_ma5 ?kz_mr5 ?kz_mi5 ?kz_ml5 ?kz_mc5 ?kz_mk5 ?kz_ma6 ?kz_mg6 ?kz_mt6 ?kz_mr6 ?kz_ml6 ?kz_mc6 ?kz_mk6 ?kz_ma7 ?kz_mg7 ?kz_mt7 ?kz_mr7 ?kz_ml7 ?kz_mc7 ?kz_mk7 ?kz_ma8 ?kz_mf8 ?kz_ml8 ?kz_mc8 ?kz_mk8 ?kz_ma9 ?kz_mf9 ?kz_ml9 ?kz_mc9 ?kz_mk9 ?kz_ma10 ?kz_mf10 ?kz_ml10 ?kz_mc10 ?kz_mk10 ?kz_kdI ?kz_kdO ?kz_kdP ?kz_kdT ?kz_cpgC ?kz_chdC ?kz_cpoC ?kz_csaC ?kz_cmkC ?kz_ckpC ?kz_crdC ?kz_cgaC ?kz_chaC ?kz_chmC ?kz_cseC ?kz_bnoC ?kz_cpgM ?kz_chdM ?kz_cpoM ?kz_csaM ?kz_cmkM ?kz_ckpM ?kz_crdM ?kz_cgaM ?kz_chaM ?kz_chmM ?kz_cseM ?kz_bnoM ?kz_chn ?kz_cht ?kz_cnL ?kz_cnT ?kz_mnP ?kz_mnT ?kz_mnL ?kz_mnS ?kz_mnB ?kz_mnJ ?kz_noR ?kz_eII ?kz_rx ?kz_rk ?kz_rb ?kz_rt
    (case kz_gC => k_is); (case kz_gM => k_is); (case kz_gI => k_is); (case kz_gL => k_is); (case kz_gT => k_is); (case kz_gA => k_is)
    (case kz_gB => k_is); (case kz_gJ => k_is); (case kz_d0 => k_is); (case kz_l0 => k_is); (case kz_c0 => k_is); (case kz_k0 => k_is)
    (case kz_d1 => k_is); (case kz_l1 => k_is); (case kz_c1 => k_is); (case kz_k1 => k_is); (case kz_d2 => k_is); (case kz_l2 => k_is)
    (case kz_c2 => k_is); (case kz_k2 => k_is); (case kz_d3 => k_is); (case kz_l3 => k_is); (case kz_c3 => k_is); (case kz_k3 => k_is)
    (case kz_d4 => k_is); (case kz_l4 => k_is); (case kz_c4 => k_is); (case kz_k4 => k_is); (case kz_d5 => k_is); (case kz_l5 => k_is)
    (case kz_c5 => k_is); (case kz_k5 => k_is); (case kz_d6 => k_is); (case kz_l6 => k_is); (case kz_c6 => k_is); (case kz_k6 => k_is)
    (case kz_d7 => k_is); (case kz_l7 => k_is); (case kz_c7 => k_is); (case kz_k7 => k_is); (case kz_d8 => k_is); (case kz_l8 => k_is)
    (case kz_c8 => k_is); (case kz_k8 => k_is); (case kz_d9 => k_is); (case kz_l9 => k_is); (case kz_c9 => k_is); (case kz_k9 => k_is)
    (case kz_d10 => k_is); (case kz_l10 => k_is); (case kz_c10 => k_is); (case kz_k10 => k_is); (case kz_d11 => k_is); (case kz_l11 => k_is)
    (case kz_c11 => k_is); (case kz_k11 => k_is); (case kz_d12 => k_is); (case kz_l12 => k_is); (case kz_c12 => k_is); (case kz_k12 => k_is)
    (case kz_d13 => k_is); (case kz_l13 => k_is); (case kz_c13 => k_is); (case kz_k13 => k_is); (case kz_d14 => k_is); (case kz_l14 => k_is)
    (case kz_c14 => k_is); (case kz_k14 => k_is); (case kz_d15 => k_is); (case kz_l15 => k_is); (case kz_c15 => k_is); (case kz_k15 => k_is)
    (case kz_d16 => k_is); (case kz_l16 => k_is); (case kz_c16 => k_is); (case kz_k16 => k_is); (case kz_d17 => k_is); (case kz_l17 => k_is)
    (case kz_c17 => k_is); (case kz_k17 => k_is); (case kz_d18 => k_is); (case kz_l18 => k_is); (case kz_c18 => k_is); (case kz_k18 => k_is)
    (case kz_d19 => k_is); (case kz_l19 => k_is); (case kz_c19 => k_is); (case kz_k19 => k_is); (case kz_d20 => k_is); (case kz_l20 => k_is)
    (case kz_c20 => k_is); (case kz_k20 => k_is); (case kz_d21 => k_is); (case kz_l21 => k_is); (case kz_c21 => k_is); (case kz_k21 => k_is)
    (case kz_d22 => k_is); (case kz_l22 => k_is); (case kz_c22 => k_is); (case kz_k22 => k_is); (case kz_d23 => k_is); (case kz_l23 => k_is)
    (case kz_c23 => k_is); (case kz_k23 => k_is); (case kz_d24 => k_is); (case kz_l24 => k_is); (case kz_c24 => k_is); (case kz_k24 => k_is)
    (case kz_d25 => k_is); (case kz_l25 => k_is); (case kz_c25 => k_is); (case kz_k25 => k_is); (case kz_d26 => k_is); (case kz_l26 => k_is)
    (case kz_c26 => k_is); (case kz_k26 => k_is); (case kz_d27 => k_is); (case kz_l27 => k_is); (case kz_c27 => k_is); (case kz_k27 => k_is)
    (case kz_d28 => k_is); (case kz_l28 => k_is); (case kz_c28 => k_is); (case kz_k28 => k_is); (case kz_d29 => k_is); (case kz_l29 => k_is)
    (case kz_c29 => k_is); (case kz_k29 => k_is); (case kz_d30 => k_is); (case kz_l30 => k_is); (case kz_c30 => k_is); (case kz_k30 => k_is)
    (case kz_d31 => k_is); (case kz_l31 => k_is); (case kz_c31 => k_is); (case kz_k31 => k_is); (case kz_d32 => k_is); (case kz_l32 => k_is)
    (case kz_c32 => k_is); (case kz_k32 => k_is); (case kz_d33 => k_is); (case kz_l33 => k_is); (case kz_c33 => k_is); (case kz_k33 => k_is)
    (case kz_z0 => k_is); (case kz_z1 => k_is); (case kz_z2 => k_is); (case kz_z3 => k_is); (case kz_z4 => k_is); (case kz_z5 => k_is)
    (case kz_z6 => k_is); (case kz_z7 => k_is); (case kz_z8 => k_is); (case kz_z9 => k_is); (case kz_z10 => k_is); (case kz_z11 => k_is)
    (case kz_z12 => k_is); (case kz_z13 => k_is); (case kz_z14 => k_is); (case kz_z15 => k_is); (case kz_z16 => k_is); (case kz_ma0 => k_is)
    (case kz_mf0 => k_is); (case kz_ml0 => k_is); (case kz_mc0 => k_is); (case kz_mk0 => k_is); (case kz_ma1 => k_is); (case kz_mr1 => k_is)
    (case kz_mi1 => k_is); (case kz_ml1 => k_is); (case kz_mc1 => k_is); (case kz_mk1 => k_is); (case kz_ma2 => k_is); (case kz_mg2 => k_is)
    (case kz_mt2 => k_is); (case kz_mr2 => k_is); (case kz_ml2 => k_is); (case kz_mc2 => k_is); (case kz_mk2 => k_is); (case kz_ma3 => k_is)
    (case kz_mf3 => k_is); (case kz_ml3 => k_is); (case kz_mc3 => k_is); (case kz_mk3 => k_is); (case kz_ma4 => k_is); (case kz_mf4 => k_is)
    (case kz_ml4 => k_is); (case kz_mc4 => k_is); (case kz_mk4 => k_is); (case kz_ma5 => k_is); (case kz_mr5 => k_is); (case kz_mi5 => k_is)
    (case kz_ml5 => k_is); (case kz_mc5 => k_is); (case kz_mk5 => k_is); (case kz_ma6 => k_is); (case kz_mg6 => k_is); (case kz_mt6 => k_is)
    (case kz_mr6 => k_is); (case kz_ml6 => k_is); (case kz_mc6 => k_is); (case kz_mk6 => k_is); (case kz_ma7 => k_is); (case kz_mg7 => k_is)
    (case kz_mt7 => k_is); (case kz_mr7 => k_is); (case kz_ml7 => k_is); (case kz_mc7 => k_is); (case kz_mk7 => k_is); (case kz_ma8 => k_is)
    (case kz_mf8 => k_is); (case kz_ml8 => k_is); (case kz_mc8 => k_is); (case kz_mk8 => k_is); (case kz_ma9 => k_is); (case kz_mf9 => k_is)
    (case kz_ml9 => k_is); (case kz_mc9 => k_is); (case kz_mk9 => k_is); (case kz_ma10 => k_is); (case kz_mf10 => k_is); (case kz_ml10 => k_is)
    (case kz_mc10 => k_is); (case kz_mk10 => k_is); (case kz_kdI => k_is); (case kz_kdO => k_is); (case kz_kdP => k_is); (case kz_kdT => k_is)
    (case kz_cpgC => k_is); (case kz_chdC => k_is); (case kz_cpoC => k_is); (case kz_csaC => k_is); (case kz_cmkC => k_is); (case kz_ckpC => k_is)
    (case kz_crdC => k_is); (case kz_cgaC => k_is); (case kz_chaC => k_is); (case kz_chmC => k_is); (case kz_cpgM => k_is); (case kz_chdM => k_is)
    (case kz_cpoM => k_is); (case kz_csaM => k_is); (case kz_cmkM => k_is); (case kz_ckpM => k_is); (case kz_crdM => k_is); (case kz_cgaM => k_is)
    (case kz_chaM => k_is); (case kz_chmM => k_is); (case kz_chn => k_is); (case kz_cht => k_is); (case kz_cnL => k_is); (case kz_cnT => k_is)
    (case kz_mnP => k_is); (case kz_mnT => k_is); (case kz_mnL => k_is); (case kz_mnS => k_is); (case kz_mnB => k_is); (case kz_mnJ => k_is)
    (case kz_rk => k_is); (case kz_rb => k_is); (case kz_rt => k_is)
    (case kz_cseC => kernel_rfl)
    (case kz_bnoC => kernel_rfl)
    (case kz_cseM => kernel_rfl)
    (case kz_bnoM => kernel_rfl)
    (case kz_noR => kernel_rfl)
    (case kz_eII => kernel_rfl)
    (case kz_rx => kernel_rfl)
#print axioms PySem.Challenge.cw_asunmoved_k19_readers_that_fit_holds

