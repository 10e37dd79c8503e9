import PyProof.Rows.All
import Wide.All
import OpenK.AllK
import Wide.FinOn
import HandS.ForMost
import HandS.ForExc
import HandS.ExcCtx
import HandS.HotCalls
import HandS.ExcInit
import HandS.ExcField
import HandS.ExcIs
import KE.KExcIs
import PyProof.ReprRoads
import HandS.Wide
import HandS.Conv
import PySem.Challenge.RW_asunmoved_k00_errors
import HandS.RaiseMore
import HandS.Walk
import HandS.Flow
set_option Elab.async false
set_option linter.all false
set_option maxRecDepth 100000
set_option maxHeartbeats 4000000
/-! An exception of an own class with an __init__, over any built-in base: made, its field stored -/
namespace PySem
namespace Mk0
open PySem.W PySem.Calls PyProof.Rows PySem.HandSPX Builtin Builtin.ObjectAttr
/-- what is asked of the classes behind the own one -/
structure Bm (B : String) (bm : List Value) : Prop where
  b : bm.contains (.type B) = true
  a : bm.contains (.type "AttributeError") = false
  n : bm.contains (.type "NameError") = false
  o : bm.contains (.type "object") = true
  e : bm.isEmpty = false
  p : ∀ self, refuseLoop self "__setattr__" bm = pure ()
section
variable {M : Model} {A : Around} {E : Value → Shared → Prop} {h : Heap} {g : Array GenState} {d : Drawn} {t : Nat} {os : OsState}
variable {cn cq : Str} {C NS : Addr} {bs bm bmB : List Value} {hd : Bool} {sn : List Str} {su : List Value} {ab : Bool} {co : Option Bool} {dd : Option Addr} {m0 m1 m2 m3 m5 : Option Value} {B newId initId : String}
theorem chk_new (F : ExcBaseFacts B newId initId bmB) (Z : Bm B bm) {us : List Value} {Q : Unit → Shared → Prop} (hC : h.get? C = some (excClassObj cn cq C NS bs bm hd sn su ab co dd m0 m1 m2 m3 m5 newId)) (hq : Q () ⟨h, g, d, t, os⟩) :
    wpAny M A (checkBuiltinCall newId ⟨.ref C :: us, []⟩) Q E ⟨h, g, d, t, os⟩ := by
  have z1 : (Value.ref C :: bm).contains (.type B) = true := by (rw [List.contains_cons, Z.b, Bool.or_true])
  have z2 := F.noStar; (simp only [checkBuiltinCall, F.newKind, F.newSplit, F.newRow])
  repeat (first | refine wpAny_loadPart_at hC ?_ | (refine wpAny_isSubtype_exc hC ?_; rw [z1]) | refine wpAny_staticBase_exc hC ?_ | refine wpAny_madeBy_exc hC ?_ | (simp only [bne_self_eq_false, Bool.false_eq_true, if_false]) | wp_step)
  exact hq
end
section
variable {prog : Program} {w : World} {A : Around} {E : Value → Shared → Prop} {R : Result → Shared → Prop} {h : Heap} {g : Array GenState} {d : Drawn} {t : Nat} {os : OsState}
variable {cn cq : Str} {C NS : Addr} {bs bm bmB : List Value} {hd : Bool} {sn : List Str} {su : List Value} {ab : Bool} {co : Option Bool} {dd : Option Addr} {m0 m1 m2 m3 m5 : Option Value} {B newId initId : String}
theorem new_any (F : ExcBaseFacts B newId initId bmB) (Z : Bm B bm) {us : List Value} (hC : h.get? C = some (excClassObj cn cq C NS bs bm hd sn su ab co dd m0 m1 m2 m3 m5 newId))
    (hq : R (.ok (.ret (.ref (h.objs.size + 1)))) ⟨(h.push (W.kdv_tup us)).push (excO C h.objs.size), g, d, t, os⟩) (hz : us.length ≤ sizeLine) : codeAny (model prog w) A (.builtin newId ⟨.ref C :: us, []⟩) R ⟨h, g, d, t, os⟩ := by
  have z0 := F.ends; have z1 : (Value.ref C :: bm).contains (.type B) = true := by (rw [List.contains_cons, Z.b, Bool.or_true])
  have z2 : (Value.ref C :: bm).contains (.type "AttributeError") = false := by (rw [List.contains_cons, Z.a]; rfl)
  have z3 : (Value.ref C :: bm).contains (.type "NameError") = false := by (rw [List.contains_cons, Z.n]; rfl)
  refine codeAny_builtinAt F.entry ?_; unfold Builtin.«BaseException.__new__»; refine wpAt_bind ?_
  show wpAt _ _ _ (stack >>= _) _ _ _; refine wpAt_bind (wpAt_stack fun p below => wpAt_of_wpAny ?_)
  wp_walk; refine wpAt_of_wpAny ?_; rw [F.owner]
  repeat (first | with_reducible refine wpAny_madeHere_exc F.canon hC ?_ | with_reducible refine wpAny_loadPart_at hC ?_ | (with_reducible refine wpAny_isSubtype_exc hC ?_; first | rw [z1] | rw [z2] | rw [z3]) | wp_step)
  show R _ _; rw [Heap.size_push]; exact hq
theorem type_call_any (F : ExcBaseFacts B newId initId bmB) (Z : Bm B bm) {us : List Value} {fI : Addr} {Q : Fin → Shared → Prop} (hC : h.get? C = some (excClassObj cn cq C NS bs bm hd sn su ab co dd m0 m1 m2 m3 m5 newId))
    (hi : W.Looks (model prog w) h (typeLookup (.ref C) "__init__") (some (.ref fI))) (hb : ∀ self, W.Looks (model prog w) h (bindSpecial (.ref fI) self) (.ref fI, [self])) (hz : us.length ≤ sizeLine)
    (hq : codeAny (model prog w) A (.call (.ref fI) ⟨.ref (h.objs.size + 1) :: us, []⟩) (fun r s' => match r with | .ok (.ret v) => v = .none ∧ Q (.done (.ret (.ref (h.objs.size + 1)))) s' | .ok _ => False | .error e => E e s') ⟨(h.push (W.kdv_tup us)).push (excO C h.objs.size), g, d, t, os⟩) :
    wpAny (model prog w) A (Builtin.«type.__call__» ⟨.ref C :: us, []⟩) Q E ⟨h, g, d, t, os⟩ := by
  repeat (first | with_reducible refine wpAny_loadPart_at hC ?_ | with_reducible refine wpAny_madeBy_exc hC ?_ | wp_step)
  refine codeAny_call_builtin_code (Code.quiet_builtin _ F.quiet) (chk_new F Z hC ?_); refine new_any F Z hC ?_ hz; show wpAny _ _ _ _ _ _
  have k : ∀ b o, h.get? b = some o → ((h.push (W.kdv_tup us)).push (excO C h.objs.size)).get? b = some o := fun b o e => Heap.get?_push_of_some _ (Heap.get?_push_of_some _ e)
  have hC2 := k _ _ hC; have hg2 : ((h.push (W.kdv_tup us)).push (excO C h.objs.size)).get? (h.objs.size + 1) = some (excO C h.objs.size) := by heap_get
  have z4 : (Value.ref C :: bm).contains (.ref C) = true := by simp
  have i1 := hi.keeps k; have b1 := (hb (.ref (h.objs.size + 1))).keeps k; unfold isInstance
  repeat (first | with_reducible refine wpAny_loadPart_at hg2 ?_ | (with_reducible refine wpAny_isSubtype_exc hC2 ?_; rw [z4]) | wp_step)
  show wpAny _ _ (typeLookup (.ref C) _) _ _ _; refine i1.at ?_; refine wpAny_holding (wpAny_bind (b1.at ?_))
  refine wpAny_bind (wpAny_call (codeAny_mono hq fun r s' z => ?_)); rcases r with e | (v | _ | _ | _) <;> first | exact z | exact z.elim | skip
  obtain ⟨rfl, z⟩ := z; first | exact wpAny_pure (wpAny_pure z) | (wp_walk; exact z)
theorem call_any (F : ExcBaseFacts B newId initId bmB) (Z : Bm B bm) {us : List Value} {fI : Addr} (hC : h.get? C = some (excClassObj cn cq C NS bs bm hd sn su ab co dd m0 m1 m2 m3 m5 newId))
    (hi : W.Looks (model prog w) h (typeLookup (.ref C) "__init__") (some (.ref fI))) (hb : ∀ self, W.Looks (model prog w) h (bindSpecial (.ref fI) self) (.ref fI, [self])) (hz : us.length ≤ sizeLine)
    (hq : codeAny (model prog w) (A.under (.builtin "type.__call__" ⟨.ref C :: us, []⟩)) (.call (.ref fI) ⟨.ref (h.objs.size + 1) :: us, []⟩) (W.InitBack (h.objs.size + 1) R) ⟨(h.push (W.kdv_tup us)).push (excO C h.objs.size), g, d, t, os⟩) :
    codeAny (model prog w) A (.call (.ref C) ⟨us, []⟩) R ⟨h, g, d, t, os⟩ := by
  have f1 := tc_lookup; have f2 := tc_bind (.ref C); have f3 : (⟨h, g, d, t, os⟩ : Shared).TypeIs (.ref C) "type" := ⟨_, hC, rfl⟩
  refine codeAny_of_tree ?_; show wpAny _ _ (callAny (.ref C) _) _ _ _
  repeat (any_goals (first | assumption | with_reducible refine wpAny_loadPart_at hC ?_ | wp_step))
  refine ⟨rfl, ?_⟩; refine codeAny_call_builtin_at (Code.quiet_builtin _ (by decide +kernel)) entry_typeCall (wpAny_check_type_call_sub hC (type_call_any F Z hC hi hb hz ?_))
  refine codeAny_mono hq fun r s' z => ?_; rcases r with e | (v | _ | _ | _) <;> exact z
/-- self.name = v, the exception has no dict yet -/
theorem osa_any {K : W.Frag} {name : Str} {tk : Tok} {v : Value} {x : Addr} {fv : Array Value} {cd : ClassData} (X : K.In h) (hx : h.get? x = some { cls := .ref C, data := .fields fv }) (hcd : W.clsIn K C = some cd) (hm : cd.mro = .ref C :: bm) (Z : Bm B bm)
    (hh : cd.hasDict = true) (ha : W.findIn K (.ref C) name = some none)
    (hq : ∀ h' tk' dx, (∀ b o, b ≠ x → h.get? b = some o → h'.get? b = some o) → h.objs.size ≤ dx → dx ≠ x → h'.get? x = some { cls := .ref C, dict := some dx, data := .fields fv } → h'.Ns1 dx (fun y => if y = name then some v else none) → R (.ok (.ret .none)) ⟨h', g, d, tk', os⟩) :
    codeAny (model prog w) A (.call (.builtin "object.__setattr__") ⟨[.ref x, .str name tk, v], []⟩) R ⟨h, g, d, t, os⟩ := by
  have I : W.InstAt h x { cls := .ref C, data := .fields fv } C none := ⟨hx, rfl, rfl, trivial⟩
  have SF := F.store_object; have ne : cd.mro.isEmpty = false := by (rw [hm]; rfl)
  have ho : cd.mro.contains (.type "object") = true := by (rw [hm, List.contains_cons, Z.o, Bool.or_true])
  have hxs : x ≠ h.objs.size := Nat.ne_of_lt (Heap.lt_size hx)
  have sub : W.Looks (model prog w) h (isInstance (.ref x) (.type "object")) true := I.type.andThen (W.looks_mroIn X (by (unfold W.mroIn; rw [hcd, Option.bind_some, if_neg (by rw [ne]; decide), ho])))
  refine codeAny_call_builtin SF.slot.plain SF.entry (@W.check_slot (model prog w) _ _ ⟨h, g, d, t, os⟩ "object.__setattr__" "object" "__setattr__" (.ref x) [.str name tk, v] [] _ SF.kind SF.split sub (SF.args (.ref x) (.str name tk) v) ?_)
  have l1 : W.Looks (model prog w) h (mroOf (.ref C)) cd.mro := (W.looks_clsIn X hcd).andThen .now; have l3 : W.Looks (model prog w) h (storeTaker? none) none := .now
  have l4 : W.Looks (model prog w) h (classData C) cd := W.looks_clsIn X hcd
  have pass : refuseLoop (.ref x) "__setattr__" cd.mro = pure () := by (rw [hm, refuseLoop_ref]; exact Z.p _)
  rw [W.osa_eq, refuse_eq]; refine wpAny_bind (wpAny_bind (I.type.at (wpAny_bind (l1.at ?_)))); rw [pass]
  refine wpAny_pure (wpAny_bind (I.type.at (wpAny_bind ((W.looks_findIn X ha).at (wpAny_bind (l3.at ?_)))))); show wpAny _ _ (storeInOwnDict (.ref x) (.ref C) (.str name tk) name v false) _ _ _
  obtain ⟨nm, bs', mro, ns, qn, hd', sn', sb, ab', col, del⟩ := cd; dsimp only at hh; subst hh; unfold storeInOwnDict ownDictForStores
  repeat (first | with_reducible refine store_in_new ?_ ?_ | with_reducible refine wpAny_loadPart_at hx ?_ | with_reducible refine l4.at ?_ | wp_step)
  · exact ⟨_, #[], _, (Heap.get?_update_ne _ _ _ _ hxs.symm).trans (Heap.get?_push_at rfl rfl), rfl, fun e he => absurd he (by simp), fun _ => rfl⟩
  · intro h' tk' hn' hs; have hx₁ : (h.push { cls := .type "dict", data := .dict #[] }).get? x = some { cls := .ref C, data := .fields fv } := Heap.get?_push_of_some _ hx
    refine hq h' tk' h.objs.size (fun b o hb ho => ?_) (Nat.le_refl _) hxs.symm ?_ hn'
    · exact (hs.2 b (Nat.ne_of_lt (Heap.lt_size ho))).trans ((Heap.get?_update_ne _ _ _ _ hb).trans (Heap.get?_push_of_some _ ho))
    · exact (hs.2 x hxs).trans (Heap.get?_update_self _ hx₁ rfl)
end
/-- the six bases -/
abbrev bIx : List Value := [.type "IndexError", .type "LookupError", .type "Exception", .type "BaseException", .type "object"]
abbrev bKey : List Value := [.type "KeyError", .type "LookupError", .type "Exception", .type "BaseException", .type "object"]
abbrev bOv : List Value := [.type "OverflowError", .type "ArithmeticError", .type "Exception", .type "BaseException", .type "object"]
abbrev bRt : List Value := [.type "RuntimeError", .type "Exception", .type "BaseException", .type "object"]
abbrev bAr : List Value := [.type "ArithmeticError", .type "Exception", .type "BaseException", .type "object"]
abbrev bLk : List Value := [.type "LookupError", .type "Exception", .type "BaseException", .type "object"]
theorem z_ix : Bm "IndexError" bIx := ⟨by (decide +kernel), by (decide +kernel), by (decide +kernel), by (decide +kernel), rfl, fun self => by kernel_rfl⟩
theorem z_key : Bm "LookupError" bKey := ⟨by (decide +kernel), by (decide +kernel), by (decide +kernel), by (decide +kernel), rfl, fun self => by kernel_rfl⟩
theorem z_ov : Bm "OverflowError" bOv := ⟨by (decide +kernel), by (decide +kernel), by (decide +kernel), by (decide +kernel), rfl, fun self => by kernel_rfl⟩
theorem z_rt : Bm "RuntimeError" bRt := ⟨by (decide +kernel), by (decide +kernel), by (decide +kernel), by (decide +kernel), rfl, fun self => by kernel_rfl⟩
theorem z_ar : Bm "ArithmeticError" bAr := ⟨by (decide +kernel), by (decide +kernel), by (decide +kernel), by (decide +kernel), rfl, fun self => by kernel_rfl⟩
theorem z_lk : Bm "LookupError" bLk := ⟨by (decide +kernel), by (decide +kernel), by (decide +kernel), by (decide +kernel), rfl, fun self => by kernel_rfl⟩
end Mk0
end PySem
namespace PySem
namespace Mk0
open PySem.W PySem.Calls PyProof.Rows PySem.HandSPX
/-! the text of __init__(self, f): self.f = f -/
def oA (f : Str) (p1 p2 : Pos) : Arguments := { posonlyargs := [], args := [{ arg := "self", annotation := none, pos := p1 }, { arg := f, annotation := none, pos := p2 }], vararg := none, kwonlyargs := [], kw_defaults := [], kwarg := none, defaults := [] }
def oB (f : Str) (q1 q2 q3 q4 : Pos) : List Stmt := [.Assign [.Attribute (.Name "self" q1) f q2] (.Name f q3) q4]
def oS (f : Str) : Scope := { kind := .function, names := [(PySem.Str.ofString "self", .local), (f, .local)], isGenerator := false, isCoroutine := false, more := [] }
/-- the field names of this program -/
abbrev fNames : List Str := ["value", "name", "limit", "readers", "paper", "many"]
/-- what the written part says of the class at C, of its __init__ at fI -/
structure OTxt (K : Frag) (C fI : Addr) (f qual : Str) (B newId : String) (bm : List Value) : Prop where
  fn : f ∈ fNames
  F : ∃ initId bmB, ExcBaseFacts B newId initId bmB
  Z : Bm B bm
  cls : ∃ nm q N bs sn sub ab col dd k0 k1 k2 k3 k5, K.lookup C = some (excClassObj nm q C N bs bm true sn sub ab col dd k0 k1 k2 k3 k5 newId)
  sa : findIn K (.ref C) "__setattr__" = some (some (.builtin "object.__setattr__"))
  ga : findIn K (.ref C) "__getattribute__" = some (some (.builtin "BaseException.__getattribute__"))
  gg : findIn K (.ref C) "__getattr__" = some none
  noN : findIn K (.ref C) f = some none
  iC : findIn K (.ref C) "__init__" = some (some (.ref fI))
  tC : typeIn K (.ref fI) = some (.type "function")
  kC : keepIn K (.ref C) = true
  exC : subIn K (.ref C) (.type "BaseException") = some true
  tyC : typeIn K (.ref C) = some (.type "type")
  hdC : hasDictIn K C = true
  def_ : ∃ (oc : Value) (od : Option Addr) (doc pm : Value) (an : Option Addr) (cdv ct : Value) (osl : Array (Option Value)) (p1 p2 q1 q2 q3 q4 : Pos),
    K.lookup fI = some ⟨oc, od, .func (fnOf "__init__" qual (oA f p1 p2) (oB f q1 q2 q3 q4) (oS f) .none .none doc pm an cdv ct), osl⟩ ∧ codeIn K cdv qual = true
theorem ld_own {M : Model} {s : Shared} {name : Str} {scope : Scope} {L a : Addr} {cd : Value} {m : Str → Option Value} {x : Str} {pos : Pos} {v : Value} {Q : Value → Shared → Prop} {A : Around} {E : Value → Shared → Prop} (hn : s.heap.Ns L m) (hv : m x = some v) (h : Q v s)
    (hk : scope.kind = .function := by rfl) (hl : (envOfC name scope L a cd).kindOf x = some .local := by rfl) (hd : (x == ("__debug__" : Str)) = false := by decide) : wpAny M A (eval (.Name x pos) (envOfC name scope L a cd)) Q E s := wpAny_Name (wpAny_loadName_local hk hl hn hv h) hd
/-- what __init__ leaves of a fresh exception at x -/
structure OEnd (f : Str) (h h' : Heap) (x C dx t1 : Addr) (v : Value) : Prop where
  keep : ∀ b o, b ≠ x → h.get? b = some o → h'.get? b = some o
  obj : h'.get? x = some { cls := .ref C, dict := some dx, data := .fields #[.ref t1, .none, .none, .none, .bool false, .none] }
  big : h.objs.size ≤ dx
  ne : dx ≠ x
  ns : h'.Ns1 dx (fun y => if y = f then some v else none)
/-- one that is made -/
structure OMade (f : Str) (h h' : Heap) (e C d : Addr) (v : Value) : Prop where
  keep : ∀ b o, h.get? b = some o → h'.get? b = some o
  new : h.objs.size ≤ e
  obj : ∃ t1 : Addr, h'.get? e = some { cls := .ref C, dict := some d, data := .fields #[.ref t1, .none, .none, .none, .bool false, .none] }
  big : h.objs.size ≤ d
  ne : d ≠ e
  ns : h'.Ns1 d (fun y => if y = f then some v else none)
section
variable {prog : Program} {w : World} {A : Around} {E : Value → Shared → Prop} {R : Result → Shared → Prop} {s : Shared} {K : Frag} {C fI : Addr} {f qual : Str} {B newId : String} {bm : List Value}
theorem o_init (T : OTxt K C fI f qual B newId bm) {x t0 : Addr} {v : Value} (X : K.In s.heap) (hlim : s.heap.NoLimit) (hx : s.heap.get? x = some (excO C t0)) (hroom : A.depth < recursionLimit)
    (hq : ∀ h' tk dx, OEnd f s.heap h' x C dx t0 v → R (.ok (.ret .none)) { s with heap := h', toks := tk }) : codeAny (model prog w) A (.call (.ref fI) ⟨[.ref x, v], []⟩) R s := by
  obtain ⟨oc, od, doc, pm, an, cdv, ct, osl, p1, p2, q1, q2, q3, q4, ho, hcd⟩ := T.def_
  obtain ⟨nm, q, N, bs, sn, sub, ab, col, dd, k0, k1, k2, k3, k5, hC⟩ := T.cls
  have hcl : clsIn K C = some { name := nm, bases := bs, mro := .ref C :: bm, ns := N, qualname := q, hasDict := true, slotNames := sn, subclasses := sub, abstract := ab, collection := col, hasDel := false } := by (unfold clsIn; rw [hC] <;> rfl)
  have hf := T.fn; have hsa := T.sa; have hno := T.noN; have hZ := T.Z; clear T
  simp only [fNames, List.mem_cons, List.not_mem_nil, or_false] at hf
  rcases hf with rfl | rfl | rfl | rfl | rfl | rfl
  all_goals (refine Att.call_fn (binds := [("self", .ref x), (_, v)]) X hlim ho hcd hroom (BindsTo.of_eq (by first | rfl | with_unfolding_all rfl)) (by first | rfl | decide | with_unfolding_all rfl) (fun s₁ IC => ?_) rfl rfl rfl)
  all_goals (
    obtain ⟨h₁, tk₁, rfl⟩ := IC.toInCall.same; have k : ∀ b o, s.heap.get? b = some o → h₁.get? b = some o := IC.toInCall.keep; have hn := IC.toInCall.ns
    have hxL : s.heap.objs.size ≠ x := Nat.ne_of_gt (Heap.lt_size hx); have X₁ : K.In h₁ := X.keeps k; have hx₁ := k _ _ hx
    show wpAny _ _ (execs _ _) _ _ _; refine wpAny_execs_cons (plainObj_wpAny_Assign_Attribute ?_)
    refine ld_own (v := v) hn (by first | rfl | with_unfolding_all rfl | kernel_rfl) (ld_own (v := .ref x) hn (by first | rfl | with_unfolding_all rfl | kernel_rfl) ?_)
    refine set_plain X₁ (ox := excO C t0) (od := none) ⟨hx₁, rfl, rfl, trivial⟩ hsa ?_
    refine osa_any X₁ hx₁ hcl rfl hZ rfl hno (fun h₃ tk₃ dx k₃ dn dne hx₃ hn₃ => ?_); show wpAny _ _ (execs _ _) _ _ _
    have z : s.heap.objs.size < h₁.objs.size := hn.lt; exact wpAny_execs_nil (hq h₃ tk₃ dx ⟨fun b o hb e => k₃ b o hb (k b o e), hx₃, Nat.le_of_lt (Nat.lt_of_lt_of_le z dn), dne, hn₃⟩))
theorem one_fits (v : Value) : [v].length ≤ sizeLine := by (rw [sizeLine_eq]; exact (by decide : 1 ≤ 16777216))
theorem o_made (T : OTxt K C fI f qual B newId bm) {v : Value} (X : K.In s.heap) (hlim : s.heap.NoLimit) (hroom : A.depth + 1 < recursionLimit)
    (hq : ∀ h' tk e d, OMade f s.heap h' e C d v → R (.ok (.ret (.ref e))) { s with heap := h', toks := tk }) : codeAny (model prog w) A (.call (.ref C) ⟨[v], []⟩) R s := by
  obtain ⟨nm, q, N, bs, sn, sub, ab, col, dd, k0, k1, k2, k3, k5, hC⟩ := T.cls; obtain ⟨initId, bmB, F⟩ := T.F; obtain ⟨hp, g, dr, tk, os⟩ := s
  have k : ∀ b o, hp.get? b = some o → ((hp.push (kdv_tup [v])).push (excO C hp.objs.size)).get? b = some o := fun b o e => Heap.get?_push_of_some _ (Heap.get?_push_of_some _ e)
  have hget : ((hp.push (kdv_tup [v])).push (excO C hp.objs.size)).get? (hp.objs.size + 1) = some (excO C hp.objs.size) := by heap_get
  refine call_any F T.Z (X _ _ hC) (looks_findIn X T.iC) (fun self => bind_fn X self T.tC) (one_fits v) ?_
  refine o_init (s := ⟨(hp.push (kdv_tup [v])).push (excO C hp.objs.size), g, dr, tk, os⟩) T (X.keeps k) (hlim.keeps k) hget ?_ fun h' tk' dx ⟨k', hx, dn, dne, hns⟩ => ?_
  · show A.depth + 1 < recursionLimit; exact hroom
  · have old : ∀ b o, hp.get? b = some o → h'.get? b = some o := fun b o e => k' b o (Nat.ne_of_lt (Nat.lt_succ_of_lt (Heap.lt_size e))) (k b o e)
    have z : hp.objs.size + 1 + 1 ≤ dx := by first | (simpa only [Heap.size_push] using dn) | exact dn | (have q := dn; rw [Heap.size_push, Heap.size_push] at q; exact q)
    exact ⟨rfl, hq h' tk' (hp.objs.size + 1) dx ⟨old, Nat.le_succ _, ⟨_, hx⟩, Nat.le_trans (Nat.le_trans (Nat.le_succ _) (Nat.le_succ _)) z, dne, hns⟩⟩
end
end Mk0
end PySem
namespace Ox
open PySem PySem.Spec PyProof.Rows L2
theorem relO_one {f g : Str} {v : V} {v' : Value} (r : RelV v v') : RelO (List.lookup g [(f, v)]) (if g = f then some v' else none) := by
  by_cases hw : g = f
  · subst hw; rw [if_pos rfl, show List.lookup g [(g, v)] = some v by simp [List.lookup]]; exact r
  · rw [if_neg hw, show List.lookup g [(f, v)] = none by simp [List.lookup, show (g == f) = false by simpa using hw]]; trivial
section
variable {X : Cx} {C fI : Addr} {f qual : Str} {B newId : String} {bm : List Value}
/-- C(e), C an exception class of one's own with a field f, made to be raised -/
def tOi (C : Addr) (f : Str) (ta : TA) : L2.St → Hp → XK → Prop := fun σ H Q => ta σ H fun vs H1 => ∃ v, vs = [v] ∧ ∀ d, H1 d = none → Q (.ref C) (some d) (upd H1 d (.xd [(f, v)]))
theorem pmk_oi {a : Expr} {ta : TA} {p pos : Pos} {k : Nat} {x : Str} (T : PySem.Mk0.OTxt X.K C fI f qual B newId bm) (gC : X.mg x = some (.ref C)) (hr : Room k X.A) (ha : PA X [a] ta) (hg : Gl X x := by rfl) (hdb : (x == ("__debug__" : Str)) = false := by decide)
    (he : starEach (a :: []) X.env = (false, eval a X.env) :: starEach [] X.env := by rfl) (hpl : (backTo pos (starEach [] X.env)).any (·.1) = false := by rfl) : L2N.PMk X (.Call (.Name x p) [a] [] pos) (tOi C f ta) := by
  intro pins s σ H Q I h; refine wpAny_Call_Name_kw (ld_glob I hg gC ?_ hdb)
  refine PySem.W.callWith_K (h₀ := X.base) I.ok.mod.kin T.kC (thn (ha.run pos pins s σ H _ I h) fun us s1 ⟨vs, H1, I1, r1, v, ev, q1⟩ => ?_) he hpl
  subst ev; refine ⟨I1.kIn, ?_⟩; obtain ⟨v', e', rv⟩ := vals1 r1; subst e'
  · show wpAny _ _ (call (.ref C) [v']) _ _ _; have hlim := I1.nolimit; obtain ⟨hp, g, dr, tk, os⟩ := s1
    refine wpAny_call (PySem.Mk0.o_made T I1.kIn hlim (by have := hr.dp; omega) fun h' tk' e d M => ?_)
    show L2N.MkP X pins σ Q (.ref e) ⟨h', g, dr, tk', os⟩
    obtain ⟨t1, hoe⟩ := M.obj; have hns := M.ns; obtain ⟨G', g1, g2⟩ := restrict h' fun b => decide (b ≠ e)
    have gk : ∀ b, b ≠ e → G'.get? b = h'.get? b := fun b hb => g1 b (decide_eq_true hb); have ge : G'.get? e = none := g2 e (by simp)
    have old : ∀ b o, hp.get? b = some o → G'.get? b = some o := fun b o q => (gk b (Nat.ne_of_lt (Nat.lt_of_lt_of_le (Heap.lt_size q) M.new))).trans (M.keep b o q)
    have ob : ObjOk X.prog X.w (upd H1 d (.xd [(f, v)])) G' d (.xd [(f, v)]) := ⟨_, hns.at (fun o q => (gk d M.ne).trans q), fun g => relO_one rv⟩
    have J : Inv X pins σ (upd H1 d (.xd [(f, v)])) ⟨G', g, dr, tk', os⟩ := I1.laid (t' := tk') old M.big ob
    refine ⟨e, _, _, ⟨G', g, dr, tk', os⟩, _, .ref C, some d, rfl, J, fun b o q => ?_, ge, hoe, ⟨rfl, rfl, fun vs z => by cases z; rfl⟩, rfl, rfl, ?_, rfl, I1.bare, raises_own T.exC T.tyC, q1 d (I1.hok.fresh M.big)⟩
    · by_cases hb : b = e
      · have q' : G'.get? b = some o := q
        rw [hb, ge] at q'; cases q'
      · exact (gk b hb).symm.trans q
    · rw [upd_ne (Ne.symm M.ne)]; exact I1.hok.fresh M.new
/-- C(e) as a value -/
def tOv (C : Addr) (f : Str) (ta : TA) : TE := fun σ H Q => ta σ H fun vs H1 => ∃ v, vs = [v] ∧ ∀ e d, H1 e = none → H1 d = none → d ≠ e → Q (.ref e) (upd (upd H1 d (.xd [(f, v)])) e (exo e C (some d)))
theorem pe_ov {a : Expr} {ta : TA} {p pos : Pos} {k : Nat} {x : Str} (T : PySem.Mk0.OTxt X.K C fI f qual B newId bm) (gC : X.mg x = some (.ref C)) (hr : Room k X.A) (ha : PA X [a] ta) (hg : Gl X x := by rfl) (hdb : (x == ("__debug__" : Str)) = false := by decide)
    (he : starEach (a :: []) X.env = (false, eval a X.env) :: starEach [] X.env := by rfl) (hpl : (backTo pos (starEach [] X.env)).any (·.1) = false := by rfl) : PE X (.Call (.Name x p) [a] [] pos) (tOv C f ta) := by
  refine ⟨fun pins s σ H Q I h => ?_⟩; refine wpAny_Call_Name_kw (ld_glob I hg gC ?_ hdb)
  refine PySem.W.callWith_K (h₀ := X.base) I.ok.mod.kin T.kC (thn (ha.run pos pins s σ H _ I h) fun us s1 ⟨vs, H1, I1, r1, v, ev, q1⟩ => ?_) he hpl
  subst ev; refine ⟨I1.kIn, ?_⟩; obtain ⟨v', e', rv⟩ := vals1 r1; subst e'
  · show wpAny _ _ (call (.ref C) [v']) _ _ _; have hlim := I1.nolimit; obtain ⟨hp, g, dr, tk, os⟩ := s1
    refine wpAny_call (PySem.Mk0.o_made T I1.kIn hlim (by have := hr.dp; omega) fun h' tk' e d M => ?_)
    show EP X pins σ Q (.ref e) ⟨h', g, dr, tk', os⟩
    obtain ⟨t1, hoe⟩ := M.obj; have hns := M.ns; have he1 : H1 e = none := I1.hok.fresh M.new; have hd1 : H1 d = none := I1.hok.fresh M.big
    have ob : ObjOk X.prog X.w (upd H1 d (.xd [(f, v)])) h' d (.xd [(f, v)]) := ⟨_, hns, fun g => relO_one rv⟩
    have J0 : Inv X pins σ (upd H1 d (.xd [(f, v)])) ⟨h', g, dr, tk', os⟩ := I1.laid (t' := tk') M.keep M.big ob
    have he2 : upd H1 d (.xd [(f, v)]) e = none := by (rw [upd_ne (Ne.symm M.ne)]; exact he1)
    -- e itself: a new object beside d
    have nod : ∀ {b : Addr} {o : Obj}, hp.get? b = some o → b ≠ e ∧ b ≠ d := fun q => ⟨Nat.ne_of_lt (Nat.lt_of_lt_of_le (Heap.lt_size q) M.new), Nat.ne_of_lt (Nat.lt_of_lt_of_le (Heap.lt_size q) M.big)⟩
    have U : Un X.fs [] H1 (upd (upd H1 d (.xd [(f, v)])) e (exo e C (some d))) hp h' := ⟨fun b o q n _ _ => M.keep b o q, fun b o q n _ _ => ⟨o.slots, M.keep b o q⟩, fun b o q n _ => by (rw [upd_ne (nod q).1, upd_ne (nod q).2]; exact n), fun b o q _ => ⟨o, M.keep b o q⟩,
      fun b xs q => by (rw [upd_ne (ne_of_none q he1), upd_ne (ne_of_none q hd1)]; exact q), fun b o u q => by (rw [upd_ne (ne_of_none q he1), upd_ne (ne_of_none q hd1)]; exact q), fun b ps q => ⟨#[], by (rw [upd_ne (ne_of_none q he1), upd_ne (ne_of_none q hd1), q]; simp)⟩⟩
    have ok2 : HOk X.prog X.w (upd (upd H1 d (.xd [(f, v)])) e (exo e C (some d))) h' := fun b o q => by
      by_cases hb : b = e
      · subst hb; rw [upd_same] at q; cases q; exact exo_ok hoe
      · rw [upd_ne hb] at q
        exact (J0.hok b o q).stay (fun c u hc z => z) (fun c hc => by (rw [upd_ne (ne_of_none hc he2)]; exact hc)) fun c xs hc => by (rw [upd_ne (ne_of_none hc he2)]; exact hc)
    exact ⟨.ref e, _, I1.un (t' := tk') U ok2, rfl, q1 e d he1 hd1 M.ne⟩
/-- e.f of an exception that is held as a value -/
def tXv (C : Addr) (f : Str) (te : TE) : TE := fun σ H Q => te σ H fun x H1 => ∃ (a d : Addr) (v : V), x = .ref a ∧ H1 a = some (exo a C (some d)) ∧ H1 d = some (.xd [(f, v)]) ∧ Q v H1
theorem pe_xv {e : Expr} {te : TE} {pos : Pos} (T : PySem.Mk0.OTxt X.K C fI f qual B newId bm) (he : PE X e te) (hb : attributeBase e f X.env (eval e X.env) = eval e X.env := by rfl) : PE X (.Attribute e f pos) (tXv C f te) := by
  refine ⟨fun pins s σ H Q I h => ?_⟩; refine attr_of hb (thn (he.run pins s σ H _ I h) fun u s1 ⟨x, H1, I1, rx, a, d, v, ex, ea, ed, q⟩ => ?_)
  subst ex; obtain rfl : u = Value.ref a := rx; obtain ⟨t1, ha⟩ := exo_at I1.hok ea
  have hx : ObjOk X.prog X.w H1 s1.heap d (.xd [(f, v)]) := I1.hok d _ ed; obtain ⟨mA, hns, hr⟩ := hx; obtain ⟨od, ho, hl⟩ := lookIn_ns hns
  obtain ⟨u, hu, ru⟩ := RelO.some_of (v := v) (o := mA f) (by have z := hr f; rw [show List.lookup f [(f, v)] = some v by simp [List.lookup]] at z; exact z)
  have J : PySem.W.InstAt s1.heap a _ C (some od) := ⟨ha, rfl, rfl, ho⟩
  exact HandSPX.exc_get I1.kIn J T.ga T.gg T.exC (PySem.W.findObj_own T.hdC T.noN rfl (by (rw [hl, hu]))) (handed_of ru) ⟨v, H1, I1.tok _, ru, q⟩
end
end Ox
namespace Ox
open PySem PySem.Spec PyProof.Rows L2
/-- behind an except suite the slot of its name is empty -/
abbrev gone (i : Nat) (D : Ends) : Ends := { nx := fun σ' H' => D.nx (σ'.set i none) H', rt := D.rt, bk := fun σ' H' => D.bk (σ'.set i none) H', ct := fun σ' H' => D.ct (σ'.set i none) H' }
/-- what several clauses, all with a name in the slot i, wish of an exception -/
def wAll (K : PySem.W.Frag) (i : Nat) (Wout : WX) (D : Ends) : List (Value × (Addr → Value → Option Addr → TS)) → WX
  | [] => Wout
  | (c, ts) :: r => fun cls d σ H => ∃ b, PySem.W.exmOne K cls c = some b ∧ (b = true → ∀ a, H a = none → ts a cls d (gone i D) (σ.set i (some (.ref a))) H) ∧ (b = false → wAll K i Wout D r cls d σ H)
inductive Clauses (X : Cx) (n : Str) : List ExceptHandler → List (Value × (Addr → Value → Option Addr → TS)) → Prop
  | nil : Clauses X n [] []
  | cons {x : Str} {c : Value} {ts : Addr → Value → Option Addr → TS} {b₀ : Stmt} {su : List Stmt} {np pos' : Pos} {hds : List ExceptHandler} {l : List (Value × (Addr → Value → Option Addr → TS))} (hc : Names X x c)
      (hsu : ∀ (a : Addr) (oe : Obj) (cls : Value) (d : Option Addr) (pn : List (Addr × Obj)), L2N.Zn cls d oe → (∃ vs, oe.data = .fields vs) → PSs (X.suite a ((a, oe) :: pn)) (b₀ :: su) (ts a cls d)) (r : Clauses X n hds l) : Clauses X n (.ExceptHandler (some (.Name x np)) (some n) (b₀ :: su) pos' :: hds) ((c, ts) :: l)
section
variable {X : Cx} {n : Str} {i : Nat} {body : List Stmt} {h₀ : ExceptHandler} {hds : List ExceptHandler} {l : List (Value × (Addr → Value → Option Addr → TS))} {pos : Pos} {tb : WX → TS} {Wout : WX}
theorem ps_try_all (hs : X.stack = X.env :: X.outer) (hf : X.env.frame = some X.env.locals) (hN : X.N.Nodup) (hi : X.N[i]? = some n) (hln : X.env.kindOf n = some .local) (tk : L2N.Takes X Wout)
    (hb : ∀ (W : WX) (pn : List (Addr × Obj)) (xe : Value → Shared → Prop), L2N.Takes (X.tr pn xe) W → PassesOwn (model X.prog X.w) X.A X.env xe → PSs (X.tr pn xe) body (tb W))
    (hh : Clauses X n (h₀ :: hds) l) : PS X (.Try body (h₀ :: hds) [] [] pos) (fun D σ H => tb (wAll X.K i Wout D l) D σ H) := by
  refine ⟨fun pins s σ H D I h => ?_⟩; have ok := I.ok; have hfr : X.A.frames = some (X.env :: X.outer) := by (rw [ok.frames, hs])
  have hloc : Loc X.env.scope n := .inl hln; refine wpAny_Try_except ?_
  refine wpAny_mono ((hb (wAll X.K i Wout D l) (X.pn ++ pins) (fun e s₁ => wpAny (model X.prog X.w) X.A (noteFrame e X.env) (fun _ s₂ => wpAny (model X.prog X.w) X.A (setFlight e none) (fun _ s₃ => wpAny (model X.prog X.w) X.A (handleBy e X.env (h₀ :: hds)) (SP X pins D) X.xe s₃) X.xe s₂) X.xe s₁)
    (fun u s' xx => ?_) PassesOwn.looking).run [] s σ H D (I.toTry _) h) (fun fl s1 hsp => ?_) (fun e s1 he => he)
  · obtain ⟨a, B, sI, pins', σ', H', cls, d, rfl, J', nb, up, sky, na, os, ag, w⟩ := xx; have J : Inv X pins σ' H' sI := J'.ofTry ok
    have sky' : Sky B (X.env :: X.outer) a (L2N.Zn cls d) X.env.locals s'.heap := by (rw [← hs]; exact sky)
    show wpAny (model X.prog X.w) X.A (noteFrame (.ref a) X.env) _ _ _; refine L2N.Sky.land L2N.Zn.steady hfr hf sky' fun h3 fl3 up3 => ?_
    have J3 : Inv X pins σ' H' { s' with heap := h3 } := J.landed nb fl3.1 (up.trans up3) os ag; obtain ⟨oe3, vs3, he3, hz3, hd3⟩ := fl3.there
    have nfr : a ∉ frs (X.env :: X.outer) := fun hm => by
      obtain ⟨_, o', e', hnf⟩ := fl3.2.2.1.mem hm
      rw [he3] at e'; cases e'; exact hnf _ hd3
    have nL : a ≠ X.env.locals := fun z => nfr (List.mem_filterMap.mpr ⟨X.env, List.mem_cons_self, by (rw [hf, z])⟩)
    have nF : a ∉ X.fs := fun hm => by
      obtain ⟨e, he, q⟩ := List.mem_filterMap.mp hm
      exact nfr (List.mem_filterMap.mpr ⟨e, List.mem_cons_of_mem _ he, q⟩)
    have S3 := J3.suite he3 hd3 na nL nF
    have LT : PySem.W.Looks (model X.prog X.w) h3 (typeOf (.ref a)) cls := fun A Q E s k q => wpAny_typeOf_ref (k _ _ he3) (by (rw [hz3.1]; exact q))
    have go : ∀ {hds' : List ExceptHandler} {l' : List (Value × (Addr → Value → Option Addr → TS))}, Clauses X n hds' l' → wAll X.K i Wout D l' cls d σ' H' → wpAny (model X.prog X.w) X.A (handleBy (.ref a) X.env hds') (SP X pins D) X.xe { s' with heap := h3 } := by
      intro hds' l' hk
      induction hk with
      | nil =>
        intro w; refine wpAny_handleBy_nil ?_; obtain ⟨k1, k2, k3, oe, vs, T, oT, ts', he, hz, hd, h1, hr⟩ := id fl3; unfold PySem.passOn
        refine wpAny_bind (wpAny_field he hd h1 ?_); rw [if_neg (show ¬ ((Value.ref T == Value.none) = true) from by simp)]
        have fin : wpAny (model X.prog X.w) X.A (setFlight (.ref a) X.env.frame) (fun _ s4 => wpAny (model X.prog X.w) X.A (throw (.ref a) : Sem Flow) (SP X pins D) X.xe s4) X.xe { s' with heap := h3 } := by
          rw [hf]; refine PySem.HandSPX.setFlight_upZ fl3 fun h4 hh4 up4 => wpAny_throw (tk _ _ ?_)
          exact ⟨a, B, sI, pins, σ', H', cls, d, rfl, J, nb, (up.trans up3).trans up4, .inr (.inr (by (rw [hs]; exact hh4))), na, os, ag, w⟩
        first | exact wpAny_bind (wpAny_pure (wpAny_bind fin)) | exact wpAny_bind fin
      | @cons x c ts b₀ su np pos' hds2 l2 hc hsu r ih =>
        intro w; obtain ⟨b, hb1, hyes, hno⟩ := w; refine wpAny_handleBy_cons (codeAny_handlers_test ?_) (by intro q; cases q)
        have LM := PySem.W.exm_one (M := model X.prog X.w) (J3.kIn) LT hb1
        have test : ∀ {Q : Value → Shared → Prop} {E : Value → Shared → Prop}, Q c { s' with heap := h3 } → wpAny (model X.prog X.w) (X.A.mark (some (.ref a))) (eval (.Name x np) X.env) Q E { s' with heap := h3 } := fun {Q E} q => by
          obtain ⟨hg, hdbg, hm | ⟨hm, hv, hnn⟩⟩ := hc
          · exact ld_glob (X := X.suite a ((a, oe3) :: (X.pn ++ pins))) S3 hg hm q hdbg
          · exact ld_blt (X := X.suite a ((a, oe3) :: (X.pn ++ pins))) S3 hg hm hv q hnn hdbg
        refine test (LM.here ?_)
        cases b with
        | false => show wpAny _ X.A (handleBy (.ref a) X.env hds2) _ _ _; exact ih (hno rfl)
        | true =>
          refine codeAny_handlers_suite_as ?_; refine PySem.HandSPX.lands_againZ fl3 fun h4 fl4 up4 => ?_
          have J4 : Inv X pins σ' H' { s' with heap := h4 } := J.landed nb fl4.1 ((up.trans up3).trans up4) os ag; obtain ⟨oe4, vs4, he4, hz4, hd4⟩ := fl4.there
          have S4 := J4.suite he4 hd4 na nL nF; refine store_ok (X := X.suite a ((a, oe4) :: (X.pn ++ pins))) (v := .ref a) S4 hN hi hloc rfl (fun s5 S5 => ?_) (.inr hln)
          refine wpAny_mono ((hsu a oe4 cls d (X.pn ++ pins) hz4 ⟨_, hd4⟩).run [] s5 _ H' _ S5 (hyes rfl a na)) (fun fl s6 hsp => ?_) (fun _ _ z => False.elim z)
          have end_ : ∀ {σ6 : L2.St} {H6 : Hp} {Q : Shared → Prop}, Inv (X.suite a ((a, oe4) :: (X.pn ++ pins))) [] σ6 H6 s6 → (∀ s7, Inv X pins (σ6.set i none) H6 s7 → Q s7) →
              wpAny (model X.prog X.w) X.A (do bindName X.env n .none; unbindBehindTheSuite X.env n pos') (fun _ s7 => Q s7) X.xe s6 := fun {σ6 H6 Q} S6 hq => gone_ok (S6.unsuite ok) hN hi hln hq
          cases fl with
          | next => obtain ⟨σ6, H6, S6, q6⟩ := hsp; exact end_ S6 fun s7 J7 => ⟨_, _, J7, q6⟩
          | brk => obtain ⟨σ6, H6, S6, q6⟩ := hsp; exact end_ S6 fun s7 J7 => ⟨_, _, J7, q6⟩
          | cont => obtain ⟨σ6, H6, S6, q6⟩ := hsp; exact end_ S6 fun s7 J7 => ⟨_, _, J7, q6⟩
          | ret u => obtain ⟨v6, σ6, H6, S6, r6, q6⟩ := hsp; exact end_ S6 fun s7 J7 => ⟨_, _, _, J7, r6, q6⟩
    exact go hh w
  · cases fl with
    | next => obtain ⟨σ', H', J', q⟩ := hsp; exact wpAny_execs_nil ⟨σ', H', J'.ofTry ok, q⟩
    | brk => obtain ⟨σ', H', J', q⟩ := hsp; exact ⟨σ', H', J'.ofTry ok, q⟩
    | cont => obtain ⟨σ', H', J', q⟩ := hsp; exact ⟨σ', H', J'.ofTry ok, q⟩
    | ret u => obtain ⟨v, σ', H', J', r, q⟩ := hsp; exact ⟨v, σ', H', J'.ofTry ok, r, q⟩
end
end Ox
namespace Ox
open PySem PySem.Spec PyProof.Rows L2
/-- isinstance(a, c), a an exception that is pinned, of the class at D, with the dict d -/
def rIsP (K : PySem.W.Frag) (D a : Addr) (d : Option Addr) : List V → Hp → VK → Prop := fun xs H Q => ∃ (c : V) (cv : Value) (b : Bool), xs = [.ref a, c] ∧ (∀ u, RelV c u → u = cv) ∧ PySem.W.kitOne K (.ref D) cv = some b ∧ (∀ dd, d = some dd → ∃ fs, H dd = some (.xd fs)) ∧ Q (.bl b) H
theorem call_isP {X : Cx} {a D : Addr} {oe : Obj} {d : Option Addr} (C : ExcC X.K D) (hp : (a, oe) ∈ X.pn) (hz : Zc (.ref D) d oe) (hf : ∃ vs, oe.data = .fields vs) : CallR X (.builtin "isinstance") (rIsP X.K D a d) := by
  intro pins s σ H xs us Q I r h; obtain ⟨c, cv, b, rfl, hcv, e, hd, q⟩ := h; obtain ⟨u1, u2, rfl, r1, r2⟩ := vals2 r
  cases (show u1 = Value.ref a from r1); have ec := hcv _ r2; subst ec; obtain ⟨hget, _⟩ := I.pin (a, oe) (List.mem_append.mpr (.inl hp)); obtain ⟨vs, hv⟩ := hf
  have hcl : (PySem.W.clsIn X.K D).isSome = true := by
    obtain ⟨cd, hc, _⟩ := PySem.W.any_some C.hd
    rw [hc]; rfl
  obtain ⟨od, J⟩ : ∃ od, PySem.W.InstAt s.heap a oe D od := by
    cases d with
    | none => exact ⟨none, hget, hz.1, by (unfold PySem.W.notCls; rw [hv] <;> rfl), by (rw [hz.2]; trivial)⟩
    | some dd =>
      obtain ⟨fs, e1⟩ := hd dd rfl; have hx : ObjOk X.prog X.w H s.heap dd (.xd fs) := I.hok dd _ e1; obtain ⟨mA, hns, hr⟩ := hx; obtain ⟨od, ho, hl⟩ := lookIn_ns hns
      exact ⟨some od, hget, hz.1, by (unfold PySem.W.notCls; rw [hv] <;> rfl), by (rw [hz.2]; exact ho)⟩
  exact PySem.W.kia_one (PySem.W.kitx_exc hcl C.hg C.hk C.hs C.ha C.hn C.ht C.hm) I.kIn J e (fun z => nomatch z) fun tk => ⟨.bl b, H, I.kept (t' := tk) fun _ _ z => z, rfl, q⟩

/-- .. where the class is told by the question -/
def rIsX (K : PySem.W.Frag) (cls : Value) (a : Addr) (d : Option Addr) : List V → Hp → VK → Prop := fun xs H Q => ∃ D, cls = .ref D ∧ ExcC K D ∧ rIsP K D a d xs H Q
theorem call_isX {X : Cx} {a : Addr} {cls : Value} {oe : Obj} {d : Option Addr} (hp : (a, oe) ∈ X.pn) (hz : Zc cls d oe) (hf : ∃ vs, oe.data = .fields vs) : CallR X (.builtin "isinstance") (rIsX X.K cls a d) := by
  intro pins s σ H xs us Q I r h; obtain ⟨D, rfl, EC, h⟩ := h
  exact call_isP EC hp hz hf pins s σ H xs us Q I r h
/-! ### a def that is handed the exception which the suite holds -/
structure FnP (P : Program) (w : World) (K : PySem.W.Frag) (mg : Str → Option Value) (base : Heap) (CX : CXT) (k : Nat) (f : Addr) (fd : FuncData) (ps : List Str) (sp : Addr → Value → Option Addr → Sp) : Prop where
  len : ∀ a cls d vs H Q E, sp a cls d vs H Q E → vs.length = ps.length
  run : ∀ (p : Addr × Obj) (cls : Value) (d : Option Addr), Zc cls d p.2 → (∃ vs, p.2.data = .fields vs) → ∀ (A : Around) (outer : List Env) (s : Shared) (H : Hp) (args : Args) (us : List Value) (vs : List V) (Q : VK) (E : XK), L2H.RoomH k A → L2H.PinOk outer H s p → Env0 P w K mg base A outer s H → BindsTo s fd args (ps.zip us) → Vals vs us → sp p.1 cls d vs H Q E →
    codeAny (model P w) A (.call (.ref f) args) (CR CX outer P w H s Q E) s
theorem fn_ofP {CX : CXT} {P : Program} {w : World} {K : PySem.W.Frag} {mg : Str → Option Value} {base : Heap} {k : Nat} {f : Addr} {name qual : Str} {params : Arguments} {body : List Stmt} {scope : Scope} {dV kV doc pm cdv ct oc : Value} {an od : Option Addr} {osl : Array (Option Value)} {N ps : List Str} {sp : Addr → Value → Option Addr → Sp}
    (lk : K.lookup f = some ⟨oc, od, .func (PySem.W.fnOf name qual params body scope dV kV doc pm an cdv ct), osl⟩) (hcd : PySem.W.codeIn K cdv qual = true) (S : FnScope N ps scope) (len : ∀ a cls d vs H Q E, sp a cls d vs H Q E → vs.length = ps.length)
    (hbody : ∀ (p : Addr × Obj) (cls : Value) (d : Option Addr), Zc cls d p.2 → (∃ vs, p.2.data = .fields vs) → ∀ (A : Around) (outer : List Env) (s : Shared) (H : Hp) (vs : List V) (Q : VK) (E : XK), L2H.RoomH k (A.deeper (envOfC qual scope s.heap.objs.size f cdv)) → sp p.1 cls d vs H Q E →
      ∃ t, PSs (L2H.cxH CX P w K mg base N qual scope f cdv A outer s H E p) body t ∧ t { nx := fun _ H' => Q .non H', rt := Q } (L2.start N vs) H) : FnP P w K mg base CX (k + 1) f (PySem.W.fnOf name qual params body scope dV kV doc pm an cdv ct) ps sp := by
  refine ⟨len, fun p cls d hz hf A outer s H args us vs Q E hr hpin e0 hb r hsp => ?_⟩; have hl := len _ _ _ _ _ _ _ hsp
  have KX : K.In s.heap := e0.mod.kin.keeps fun b o e => (e0.bs b o e).1; have lim : s.heap.NoLimit := e0.mod.nolimit.keeps fun b o e => (e0.bs b o e).1
  have hkind : ∀ y ∈ ps.zip us, scope.names.lookup y.1 = some .local ∨ (scope.names.lookup y.1 = some .cell ∧ ((cellsFrom (s.heap.objs.size + 1) scope.names []).lookup y.1).isSome = true) := fun ⟨n, v⟩ hy => (S.par n (List.of_mem_zip hy).1).elim .inl fun q => .inr ⟨q, PySem.W.cellsFrom_some _ _ _ (.inl q)⟩
  refine codeAny_call_function hr.depth (KX _ _ lk) rfl S.co S.gen rfl (PySem.W.codeRec_of KX hcd) (hb _ _ _ _ ?_); refine wpAny_newFunctionEnv_cells S.kind hkind fun env he s1 x => ?_
  subst he; refine ⟨lim.keeps x.toInCall.keep, codeAny_func ?_⟩; obtain ⟨t, ht, hq⟩ := hbody p cls d hz hf A outer s H vs Q E (hr.deeper _) hsp
  have I : Inv (L2H.cxH CX P w K mg base N qual scope f cdv A outer s H E p) [] (L2.start N vs) H s1 := L2H.inv_startH S hpin e0 hl r x
  refine wpAny_mono (ht.run [] s1 (L2.start N vs) H _ I hq) (fun fl s' hs => ?_) fun e s' hs => hs
  have fin : ∀ {σ' : L2.St} {H' : Hp} {v : V} {u : Value}, Inv (L2H.cxH CX P w K mg base N qual scope f cdv A outer s H E p) [] σ' H' s' → RelV v u → Q v H' → CE outer P w H s Q u s' := fun {σ' H' v u} J rv q => ⟨v, H', J.os, J.bare, J.base, J.hok, rv, q⟩
  cases fl with
  | ret u => obtain ⟨v, σ', H', J, rv, q⟩ := hs; exact fin J rv q
  | next => obtain ⟨σ', H', J, q⟩ := hs; exact fin (v := V.non) (u := Value.none) J rfl q
  | brk => obtain ⟨_, _, _, q⟩ := hs; exact False.elim q
  | cont => obtain ⟨_, _, _, q⟩ := hs; exact False.elim q
theorem _root_.L2.Fun.okP {P : Program} {w : World} {K : PySem.W.Frag} {mg : Str → Option Value} {base : Heap} {x qual : Str} {st : Stmt} {f : Addr} {fd : FuncData} {N ps : List Str} {k : Nat} {sp : Addr → Value → Option Addr → Sp} (F : Fun K x qual st f fd) (S : FnScope N ps (defScope st)) (len : ∀ a cls d vs H Q E, sp a cls d vs H Q E → vs.length = ps.length)
    (hbody : ∀ (cdv : Value) (p : Addr × Obj) (cls : Value) (d : Option Addr), Zc cls d p.2 → (∃ vs, p.2.data = .fields vs) → ∀ (A : Around) (outer : List Env) (s : Shared) (H : Hp) (vs : List V) (Q : VK) (E : XK), L2H.RoomH k (A.deeper (envOfC qual (defScope st) s.heap.objs.size f cdv)) → sp p.1 cls d vs H Q E →
      ∃ t, PSs (L2H.cxH CX0 P w K mg base N qual (defScope st) f cdv A outer s H E p) (defBody st) t ∧ t { nx := fun _ H' => Q .non H', rt := Q } (L2.start N vs) H) : FnP P w K mg base CX0 (k + 1) f fd ps sp := by
  obtain ⟨oc, od, kV, doc, pm, an, cdv, ct, osl, rfl, lk, hcd⟩ := F.ex
  exact fn_ofP lk hcd S len fun p cls d hz hf A outer s H vs Q E hr h => hbody cdv p cls d hz hf A outer s H vs Q E hr h
section
variable {X : Cx} {k : Nat} {f : Addr} {fd : FuncData} {ps : List Str} {sp : Addr → Value → Option Addr → Sp} {x : Str} {p q pos : Pos} {e : Expr} {es : List Expr} {t : TA}
def tCallP (sp : Addr → Value → Option Addr → Sp) (a : Addr) (cls : Value) (d : Option Addr) (t : TA) : TE := fun σ H Q => t σ H fun vs H1 => sp a cls d vs H1 Q E0
theorem pe_callP {pn : Addr × Obj} {cls : Value} {d : Option Addr} (hz : Zc cls d pn.2) (hf : ∃ vs, pn.2.data = .fields vs) (F : FnP X.prog X.w X.K X.mg X.base CX0 k f fd ps sp) (hr : L2H.RoomH k X.A) (hp : pn ∈ X.pn) (hg : Gl X x) (hm : X.mg x = some (.ref f)) (hk : PySem.W.keepIn X.K (.ref f) = true) (hb : Binds X.K fd ps [])
    (ha : PA X (e :: es) t) (hdb : (x == ("__debug__" : Str)) = false := by decide) (he : starEach (e :: es) X.env = (false, eval e X.env) :: starEach es X.env := by rfl) (hpl : (backTo pos (starEach es X.env)).any (·.1) = false := by rfl) : PE X (.Call (.Name x q) (e :: es) [] pos) (tCallP sp pn.1 cls d t) := by
  refine ⟨fun pins s σ H Q I h => ?_⟩; refine wpAny_Call_Name_kw (ld_glob I hg hm ?_ hdb)
  refine PySem.W.callWith_K (h₀ := X.base) I.ok.mod.kin hk (thn (ha.run pos pins s σ H _ I h) fun us s1 ⟨vs, H1, I1, r, h1⟩ => ⟨I1.kIn, ?_⟩) he hpl
  have hl : us.length = ps.length := by (rw [← r.length]; exact F.len _ _ _ _ _ _ _ h1)
  have b := hb s1 us I1.kIn (by (rw [List.append_nil]; exact hl)); rw [List.append_nil] at b
  have P1 := I1.pin pn (List.mem_append_left _ hp); have hpin : L2H.PinOk X.stack H1 s1 pn := ⟨P1.1, P1.2.1, fun hm => (List.mem_cons.mp (I1.stkSub pn.1 hm)).elim P1.2.2.1 P1.2.2.2.1, P1.2.2.2.2⟩
  refine wpAny_call (codeAny_mono (F.run pn cls d hz hf X.A X.stack s1 H1 ⟨us, []⟩ us vs Q E0 hr hpin I1.env0 b r h1) fun r s' hq => ?_)
  cases r with
  | error e => exact False.elim hq
  | ok fl =>
    cases fl with
    | ret u => exact I1.after hq
    | next => exact False.elim hq
    | brk => exact False.elim hq
    | cont => exact False.elim hq
end
end Ox
namespace Ox
open PySem PySem.Spec PyProof.Rows L2 L2H
/-- a comprehension's block within an except suite: the pins stay -/
abbrev blkP (X : Cx) (s : Shared) (H : Hp) (scope : Scope) (cenv : Env) (fp : List Addr) : Cx := { X.blk s H scope cenv fp with pn := X.pn }
theorem okP {X : Cx} {s : Shared} {H : Hp} {scope : Scope} {cenv : Env} {fp : List Addr} (ok : (X.blk s H scope cenv fp).Ok) : (blkP X s H scope cenv fp).Ok :=
  ⟨ok.mod, ok.kind, ok.glob, ok.blt, ok.above, ok.inj, ok.has, ok.cab, ok.hd, ok.frames, ok.stk, ok.exf, ok.bs, ok.bsz, ok.noex, ok.exfs, ok.funs, ok.frf⟩
theorem blkP_start {X : Cx} {pins : List (Addr × Obj)} {σ σ' : L2.St} {H H0 H' : Hp} {s s' sb : Shared} {scope : Scope} {cenv : Env} {fp : List Addr} (I : Inv X pins σ H s) (hk : ∀ b o, s.heap.get? b = some o → H b = none → s'.heap.get? b = some o ∧ H' b = none) (hL : cenv.locals = s.heap.objs.size)
    (J : Inv (X.blk sb H0 scope cenv fp) [] σ' H' s') : Inv (blkP X sb H0 scope cenv fp) [] σ' H' s' := by
  refine ⟨okP J.ok, J.os, J.bare, J.base, J.loc, J.cell, J.free, J.freeC, fun p hp => ?_, J.hok, J.len⟩
  have hp' : p ∈ X.pn := by simpa using hp
  obtain ⟨e, n, ne, nf, d⟩ := I.pin p (List.mem_append_left _ hp'); obtain ⟨e2, n2⟩ := hk _ _ e n
  refine ⟨e2, n2, fun z => ?_, fun hm => (List.mem_cons.mp (I.stkSub p.1 hm)).elim ne nf, d⟩
  have z' : p.1 = cenv.locals := z; rw [hL] at z'; exact absurd (Heap.lt_size e) (by (rw [z']; exact Nat.lt_irrefl _))
section
variable {X : Cx}
theorem lc_hot {pins : List (Addr × Obj)} {s : Shared} {σ : L2.St} {H : Hp} {Q : VK} {elt tg iter : Expr} {ifs : List Expr} {scope : Scope} {own : List (Str × Nat)} {pos pos' : Pos} {wi : TI} {g : TG} {tt : TT} {te : TE} {use : Option (Value → Sem Unit)} {Qf : Value → Shared → Prop}
    (hc : HotC X) (hN : X.N.Nodup) (I : Inv X pins σ H s) (hi : PIH X tg iter wi) (ok : BlkOk X.N X.env.scope scope own)
    (hg : ∀ (s : Shared) (H : Hp) (C : Addr) (cl : List (Str × Addr)) (fp : List Addr), PG (blkP X s H scope (compEnvC scope cl C X.env) fp) tg g) (ht : ∀ (s : Shared) (H : Hp) (C : Addr) (cl : List (Str × Addr)) (fp : List Addr), PTs (blkP X s H scope (compEnvC scope cl C X.env) fp) ifs tt)
    (he : ∀ (s : Shared) (H : Hp) (C : Addr) (cl : List (Str × Addr)) (fp : List Addr), PE (blkP X s H scope (compEnvC scope cl C X.env) fp) elt te) (hs : ∀ x, foldedSetIterable iter X.env x = pure x) (h : tLc wi g tt te (own.map (·.2)) σ H Q)
    (hRR : ∀ D C s' m H', Inv X pins σ H' s' → Q (.ref D) H' → s'.heap.Ns C m → FpOk X pins H' C → compPost (model X.prog X.w) X.A X.xe use Qf (.ref D) C (.ok .next) s') :
    wpAny (model X.prog X.w) X.A (comprehension (.ListComp elt [⟨tg, iter, ifs, 0⟩] scope pos) scope X.env pos' (newList []) false (eval iter X.env) use) Qf X.xe s := by
  have hfree : ∀ y ∈ scope.names, y.2 = .free → ∃ c, X.env.cells.lookup y.1 = some c := fun y hy e => (ok.free y hy e).elim (fun k => I.ok.has _ (.inl k)) fun k => I.ok.has _ (.inr k)
  refine wpAny_comprehension_free (use := use) rfl hs (closure_ok hfree) ok.kind (fun y hy e => by (rw [ok.uniq y hy, e])) (thn (hi.run pins s σ H _ I h) fun xv s1 hx => thn hx fun itv s2 h2 => ?_)
  obtain ⟨it, fp, tn, J, H2, e, I2, T, st2, f2, q⟩ := h2; subst e; refine wpAny_newObj_type (newEnv_comp ?_) (by (show 0 ≤ sizeLine; decide))
  generalize hD : s2.heap.objs.size = D; have hDn : H2 D = none := I2.hok.fresh (Nat.le_of_eq hD); obtain ⟨W, ⟨m0, w0⟩, turn⟩ := q D hDn
  generalize hs3 : ({ s2 with heap := s2.heap.push { cls := .type "list", data := .seq ([] : List Value).toArray } } : Shared) = s3
  have I3 : Inv X pins σ (upd H2 D (.lst [])) s3 := by
    rw [← hs3]; refine I2.laid (t' := s2.toks) (fun b o e => Heap.get?_push_of_some _ e) (Nat.le_of_eq hD) ⟨Nat.zero_le _, [], 0, .nil, ?_⟩
    rw [← hD]; exact Heap.get?_push_size _ rfl
  have h3 : s3.heap = s2.heap.push { cls := .type "list", data := .seq ([] : List Value).toArray } := by (rw [← hs3])
  have sz : ∀ b ∈ fp, b < s2.heap.objs.size := fun b hb => by
    obtain ⟨o, e, _⟩ := T.obj _ _ st2 b hb; exact Heap.lt_size e
  have f3 : ∀ b ∈ fp, FpOk X pins (upd H2 D (.lst [])) b ∧ b < s3.heap.objs.size := fun b hb => by
    have hlt := sz b hb; refine ⟨⟨?_, (f2 b hb).2⟩, by (rw [h3, Heap.size_push]; exact Nat.lt_succ_of_lt hlt)⟩
    rw [upd_ne (by (rw [← hD]; exact Nat.ne_of_lt hlt))]; exact (f2 b hb).1
  have st3 : tn 0 s3.heap := T.keep _ _ _ st2 fun b _ o e => by (rw [h3]; exact Heap.get?_push_of_some _ e)
  have I4 := block_start I3 ok hN f3
  have pg := hg s3 (upd H2 D (.lst [])) s3.heap.objs.size (cellsFrom (s3.heap.objs.size + 1) scope.names (cloFrom X.env.cells scope.names [])) fp
  have pt := ht s3 (upd H2 D (.lst [])) s3.heap.objs.size (cellsFrom (s3.heap.objs.size + 1) scope.names (cloFrom X.env.cells scope.names [])) fp
  have pe := he s3 (upd H2 D (.lst [])) s3.heap.objs.size (cellsFrom (s3.heap.objs.size + 1) scope.names (cloFrom X.env.cells scope.names [])) fp
  show codeAny _ _ (.compStart (.ListComp elt [⟨tg, iter, ifs, 0⟩] scope pos) 0 (.ref it) (.ref D) (compEnvC scope (cellsFrom (s3.heap.objs.size + 1) scope.names (cloFrom X.env.cells scope.names [])) s3.heap.objs.size X.env)) (compPost (model X.prog X.w) X.A X.xe use Qf (.ref D) s3.heap.objs.size) { s3 with heap := pushCells (s3.heap.push { cls := .type "dict", data := .dict #[] }) scope.names }
  have nfp : ∀ b ∈ fp, (upd H2 D (.lst [])) b = none := fun b hb => (f3 b hb).1.1
  generalize hce : compEnvC scope (cellsFrom (s3.heap.objs.size + 1) scope.names (cloFrom X.env.cells scope.names [])) s3.heap.objs.size X.env = ce at I4 pg pt pe ⊢
  have cL : ce.locals = s3.heap.objs.size := by (subst hce; rfl)
  generalize hH3 : upd H2 D (.lst []) = H3 at I3 I4 pg pt pe w0 nfp f3; have keep4 : ∀ b o, s3.heap.get? b = some o → (pushCells (s3.heap.push { cls := .type "dict", data := .dict #[] }) scope.names).get? b = some o := fun b o e => pushCells_keeps _ _ _ _ (Heap.get?_push_of_some _ e)
  generalize hs4 : ({ s3 with heap := pushCells (s3.heap.push { cls := .type "dict", data := .dict #[] }) scope.names } : Shared) = s4 at I4 ⊢
  have I4 : Inv (blkP X s3 H3 scope ce fp) [] (wipe σ (own.map (·.2))) H3 s4 := blkP_start I3 (fun b o e n => ⟨by (rw [← hs4]; exact keep4 b o e), n⟩) cL I4
  have hcB : HotC (blkP X s3 H3 scope ce fp) := hc
  have st4 : tn 0 s4.heap := T.keep _ _ _ st3 fun b _ o e => by (rw [← hs4]; exact keep4 b o e)
  have stat : ∀ {σ' : L2.St} {H' : Hp} {s' : Shared}, Inv (blkP X s3 H3 scope ce fp) [] σ' H' s' → (∀ b ∈ fp, H' b = none) → ∀ b ∈ fp, FpOk (blkP X s3 H3 scope ce fp) [] H' b := fun {σ' H' s'} I' hn b hb =>
    ⟨hn b hb, (I'.ok.exf b hb).1, I'.ok.exfs b hb, .inl hb, fun x c e => (I'.ok.exf b hb).2 x c e, fun p hp => (f3 b hb).1.2.2.2.2.2 p (List.mem_append_left _ (by simpa using hp))⟩
  have loop : codeAny (model X.prog X.w) X.A (.compLoop (.ListComp elt [⟨tg, iter, ifs, 0⟩] scope pos) 0 (.ref it) (.ref D) ce) (compPost (model X.prog X.w) X.A X.xe use Qf (.ref D) s3.heap.objs.size) s4 := by
    refine compLoop_any (fun n s' => ∃ i H', Inv (blkP X s3 H3 scope ce fp) [] (wipe σ (own.map (·.2))) H' s' ∧ tn i s'.heap ∧ (∀ b ∈ fp, H' b = none) ∧ W i n H') ?_ m0 ⟨0, H3, I4, st4, nfp, w0⟩
    rintro n s5 ⟨i, H5, I5, st5, n5, w5⟩
    rcases turn i n H5 w5 with ⟨stop, qq⟩ | ⟨go, Nx, hNx, step⟩
    · have td := T.done (blkP X s3 H3 scope ce fp) rfl rfl rfl hcB i [] s5 _ H5 (fun _ _ => False) I5 (stat I5 n5) st5 stop
      refine thnF td fun r s6 ⟨hr, I6⟩ => ?_
      subst hr; have I7 : Inv X pins σ H5 s6 := I3.call' (ch := fp) I6.os I6.base I6.hok I6.bare fun b hb => ⟨(f3 b hb).1.2.2.2.1, (f3 b hb).1.2.1, (f3 b hb).1.2.2.2.2.1, (f3 b hb).1.2.2.2.2.2⟩
      have nC : H5 s3.heap.objs.size = none := by
        have z : H5 ce.locals = none := I6.free
        rw [cL] at z; exact z
      obtain ⟨m, hn, _⟩ := I6.loc; have hn : s6.heap.Ns ce.locals m := hn; rw [cL] at hn; exact hRR D s3.heap.objs.size s6 m H5 I7 qq hn (I3.fpOk (Nat.le_refl _) nC)
    · have ti := T.item (blkP X s3 H3 scope ce fp) rfl rfl rfl hcB i [] s5 _ H5 (fun _ _ => False) I5 (stat I5 n5) st5 go
      refine thnF ti fun r s6 ⟨u, hr, h6⟩ => ?_
      subst hr; refine thnF h6 fun _ s7 ⟨x, H7, I7, r7, y7, st7, n7⟩ => ?_
      have I7' := I7.pinned (stat I7 n7) (T.obj _ _ st7); refine thnF (pg.run _ s7 _ H7 x u _ I7' r7 (step x H7 y7)) fun _ s8 ⟨σ8, H8, I8, hw8, q8⟩ => ?_
      refine thnF (pt.run _ s8 σ8 H8 _ I8 q8) fun b s9 ⟨H9, I9, q9⟩ => ?_
      have fin : ∀ {s' : Shared} {H' : Hp}, Inv (blkP X s3 H3 scope ce fp) ([] ++ pinsAt fp s7.heap) σ8 H' s' → Nx H' → ∃ m, m < n ∧ ∃ i H', Inv (blkP X s3 H3 scope ce fp) [] (wipe σ (own.map (·.2))) H' s' ∧ tn i s'.heap ∧ (∀ b ∈ fp, H' b = none) ∧ W i m H' := fun {s' H'} I' nx => by
        obtain ⟨m', hm, w'⟩ := hNx H' nx
        have pin' : ∀ b ∈ fp, ∀ o, s7.heap.get? b = some o → s'.heap.get? b = some o ∧ H' b = none := fun b hb o e => let z := I'.pin (b, o) (List.mem_append_right _ (List.mem_append_right _ (mem_pinsAt hb e))); ⟨z.1, z.2.1⟩
        have hl : (wipe σ (own.map (·.2))).length = σ8.length := by (rw [← hw8, wipe_length])
        refine ⟨m', hm, i + 1, H', (I'.unpinned (pins := [])).weak hl (fun j v e => ?_), T.keep _ _ _ st7 fun b hb o e => (pin' b hb o e).1, fun b hb => ?_, w'⟩
        · rw [← hw8] at e; exact (wipe_some e).1
        · obtain ⟨o, e, _⟩ := T.obj _ _ st7 b hb; exact (pin' b hb o e).2
      cases b with
      | false => simp only [Bool.false_eq_true, if_false] at q9 ⊢; exact fin I9 q9
      | true =>
        simp only [if_true] at q9 ⊢; refine thnF (pe.run _ s9 σ8 H9 _ I9 q9) fun z s10 ⟨yv, H10, I10, r10, acc, hD10, hz10, nx⟩ => ?_
        exact app_ok (X := blkP X s3 H3 scope ce fp) I10 hD10 hz10 r10 fun s11 I11 => fin I11 nx
  exact codeAny_compStart_list loop (T.self X.A 0 _ _ _ st4 loop)
theorem ps_setLcH {i : Nat} {y : Str} {py : Pos} {elt tg iter : Expr} {ifs : List Expr} {scope : Scope} {own : List (Str × Nat)} {pos spos : Pos} {wi : TI} {g : TG} {tt : TT} {te : TE} (hc : HotC X) (hN : X.N.Nodup) (hy : X.N[i]? = some y) (hyl : X.env.scope.names.lookup y = some .local)
    (hsw : swapsWith (.ListComp elt [⟨tg, iter, ifs, 0⟩] scope pos) (some (.Name y py)) spos.line X.env = pure true) (hi : PIH X tg iter wi) (ok : BlkOk X.N X.env.scope scope own)
    (hg : ∀ (s : Shared) (H : Hp) (C : Addr) (cl : List (Str × Addr)) (fp : List Addr), PG (blkP X s H scope (compEnvC scope cl C X.env) fp) tg g) (ht : ∀ (s : Shared) (H : Hp) (C : Addr) (cl : List (Str × Addr)) (fp : List Addr), PTs (blkP X s H scope (compEnvC scope cl C X.env) fp) ifs tt)
    (he : ∀ (s : Shared) (H : Hp) (C : Addr) (cl : List (Str × Addr)) (fp : List Addr), PE (blkP X s H scope (compEnvC scope cl C X.env) fp) elt te) (hs : ∀ x, foldedSetIterable iter X.env x = pure x := by intro _; rfl) :
    PS X (.Assign [.Name y py] (.ListComp elt [⟨tg, iter, ifs, 0⟩] scope pos) spos) (tAsg (tLc wi g tt te (own.map (·.2))) (gName i)) := by
  refine ⟨fun pins s σ H D I h => ?_⟩; rw [exec_Assign_Name_used _ _ _ _ hsw]; refine wpAny_bind (wpAny_standAt (wpAny_bind ?_))
  show wpAny _ X.A (do let _ ← comprehension (.ListComp elt [⟨tg, iter, ifs, 0⟩] scope pos) scope X.env (firstIterPos [⟨tg, iter, ifs, 0⟩] pos) (newList []) false (eval iter X.env) (some (assign (.Name y py) X.env))) _ _ s
  have h : tLc wi g tt te (own.map (·.2)) σ H (fun x H1 => gName i x σ H1 D.nx) := h
  refine wpAny_bind (thn (lc_hot (Qf := fun _ s' => SP X pins D .next s') hc hN I hi ok hg ht he hs h fun L C s' m H' I' q hn f => ?_) fun _ s' hq => wpAny_pure (wpAny_pure hq))
  show wpAny _ _ (assign (.Name y py) X.env (.ref L)) _ _ _
  refine wpAny_assign_Name (store_ok2 (v := V.ref L) I' hN hy (.inl hyl) rfl (fun s2 I2 ⟨a, sb, ha⟩ => ?_) (.inr hyl)); obtain ⟨f0, f1, f2, f3, f4, f5⟩ := f
  have haC : C ≠ a := ha.elim (fun z => by (rw [z]; exact f1)) fun z e => f4 y a z e.symm
  exact ⟨m, hn.sameBut sb haC, fun h3 sb3 => ⟨_, H', I2.turned (t' := s2.toks) (fun b o hb e => (sb3.2 b hb).trans e) f0 f1 f3 f4 f5, q⟩⟩
end
end Ox
namespace Ox
open PySem PySem.Spec PyProof.Rows L2
/-! ### data, told of the abstract heap: what is tracked alone -/
mutual
inductive Dq (H : Hp) : V → PyData → Prop
  | non : Dq H .non .none
  | bl (b : Bool) : Dq H (.bl b) (.bool b)
  | int (i : Int) : Dq H (.int i) (.int i)
  | str (x : Str) : Dq H (.str x) (.str x)
  | lst {a : Addr} {xs : List V} {ds : List PyData} : H a = some (.lst xs) → DqAll H xs ds → Dq H (.ref a) (.list ds)
  | tup {a : Addr} {xs : List V} {ds : List PyData} : H a = some (.tup xs) → DqAll H xs ds → Dq H (.ref a) (.tuple ds)
  | dct {a : Addr} {kvs : List (Key × V)} {ds : List PyData} : H a = some (.dK kvs) → DqAll H (kvs.map (·.2)) ds → Dq H (.ref a) (.dict ((kvs.map fun p => match p.1 with | .inl i => PyData.int i | .inr x => PyData.str x).zip ds))
inductive DqAll (H : Hp) : List V → List PyData → Prop
  | nil : DqAll H [] []
  | cons {v : V} {vs : List V} {d : PyData} {ds : List PyData} : Dq H v d → DqAll H vs ds → DqAll H (v :: vs) (d :: ds)
end
theorem DqAll.length {H : Hp} : ∀ {vs : List V} {ds : List PyData}, DqAll H vs ds → vs.length = ds.length
  | _, _, .nil => rfl
  | _, _, .cons _ h => congrArg (· + 1) (DqAll.length h)
mutual
theorem Dq.keeps {H H' : Hp} (k : ∀ b o, H b = some o → H' b = some o) : ∀ {v : V} {d : PyData}, Dq H v d → Dq H' v d
  | _, _, .non => .non
  | _, _, .bl b => .bl b
  | _, _, .int i => .int i
  | _, _, .str x => .str x
  | _, _, .lst h a => .lst (k _ _ h) (DqAll.keeps k a)
  | _, _, .tup h a => .tup (k _ _ h) (DqAll.keeps k a)
  | _, _, .dct h a => .dct (k _ _ h) (DqAll.keeps k a)
theorem DqAll.keeps {H H' : Hp} (k : ∀ b o, H b = some o → H' b = some o) : ∀ {vs : List V} {ds : List PyData}, DqAll H vs ds → DqAll H' vs ds
  | _, _, .nil => .nil
  | _, _, .cons h a => .cons (Dq.keeps k h) (DqAll.keeps k a)
end
theorem dq_bools {H : Hp} : ∀ bs : List Bool, DqAll H (bs.map V.bl) (bs.map PyData.bool)
  | [] => .nil
  | b :: bs => .cons (.bl b) (dq_bools bs)
theorem dq_ints {H : Hp} : ∀ bs : List Int, DqAll H (bs.map V.int) (bs.map PyData.int)
  | [] => .nil
  | b :: bs => .cons (.int b) (dq_ints bs)
section
variable {X : Cx} {pins : List (Addr × Obj)} {σ : L2.St} {H : Hp} {s : Shared}
theorem reads_keys {P : Program} {w : World} {h : Heap} : ∀ {kvs : List (Key × V)} {vs : List (Key × Value)} {es : List DictEntry}, KV kvs vs → PySem.Pairs (mixKind P w) es vs →
    ReadsAll h (es.map (·.key)) (kvs.map fun p => match p.1 with | .inl i => PyData.int i | .inr x => PyData.str x) [] ∧ Vals (kvs.map (·.2)) (es.map (·.val))
  | _, _, _, .nil, .nil => ⟨.nil, .nil⟩
  | _, _, _, .cons (a := ⟨k, v⟩) r t, .cons (e := e) hk hv q => by
    obtain ⟨h1, h2⟩ := reads_keys (h := h) t q; obtain ⟨r1, r2⟩ := r; refine ⟨?_, .cons (by (show RelV v e.val; rw [hv]; exact r2)) h2⟩
    rw [mixKind_is] at hk; rw [← r1] at hk
    rcases keyIs_shape hk with ⟨i, t, e1, e2⟩ | ⟨x, t, e1, e2⟩
    · simp only at e1; subst e1; exact .cons (as := []) (bs := []) (by (show Reads h e.key _ []; rw [e2]; exact .int i t)) h1
    · simp only at e1; subst e1; exact .cons (as := []) (bs := []) (by (show Reads h e.key _ []; rw [e2]; exact .str x t)) h1
mutual
theorem Dq.reads (I : Inv X pins σ H s) : ∀ {v : V} {d : PyData} {u : Value}, Dq H v d → RelV v u → ∃ as, Reads s.heap u d as ∧ ∀ b ∈ as, H b ≠ none
  | _, _, _, .non, r => by cases r; exact ⟨[], .none, fun b hb => absurd hb (by simp)⟩
  | _, _, _, .bl b, r => by cases r; exact ⟨[], .bool b, fun b hb => absurd hb (by simp)⟩
  | _, _, _, .int i, r => by obtain ⟨t, rfl⟩ := r; exact ⟨[], .int i t, fun b hb => absurd hb (by simp)⟩
  | _, _, _, .str x, r => by obtain ⟨t, rfl⟩ := r; exact ⟨[], .str x t, fun b hb => absurd hb (by simp)⟩
  | _, _, _, .lst (a := a) (xs := xs) h q, r => by
    cases r; obtain ⟨_, its, n, rv, e⟩ : ObjOk X.prog X.w H s.heap a (.lst xs) := I.hok a _ h; obtain ⟨as, h1, h2⟩ := DqAll.reads I q rv
    refine ⟨_, .list e rfl rfl h1, fun b hb => ?_⟩
    rcases List.mem_cons.mp hb with z | z
    · rw [z, h]; exact fun y => nomatch y
    · exact h2 b z
  | _, _, _, .tup (a := a) (xs := xs) h q, r => by
    cases r; obtain ⟨_, its, rv, o, e, hc, n, hd⟩ : ObjOk X.prog X.w H s.heap a (.tup xs) := I.hok a _ h; obtain ⟨as, h1, h2⟩ := DqAll.reads I q rv
    exact ⟨_, .tuple e hc hd h1, h2⟩
  | _, _, _, .dct (a := a) (kvs := kvs) (ds := ds) h q, r => by
    cases r; obtain ⟨_, _, vs, rk, o, es, ep, e, hx, hd, _, hp, _⟩ : ObjOk X.prog X.w H s.heap a (.dK kvs) := I.hok a _ h
    obtain ⟨k1, k2⟩ := reads_keys (h := s.heap) rk hp; obtain ⟨as, h1, h2⟩ := DqAll.reads I q k2; have hl : (kvs.map (·.2)).length = ds.length := q.length
    have e1 : (((kvs.map fun p => match p.1 with | .inl i => PyData.int i | .inr x => PyData.str x).zip ds).map (·.1)) = (kvs.map fun p => match p.1 with | .inl i => PyData.int i | .inr x => PyData.str x) := List.map_fst_zip (by simp at hl ⊢; omega)
    have e2 : (((kvs.map fun p => match p.1 with | .inl i => PyData.int i | .inr x => PyData.str x).zip ds).map (·.2)) = ds := List.map_snd_zip (by simp at hl ⊢; omega)
    refine ⟨_, .dict (as := []) (bs := as) e hx.1 hd (by (rw [e1]; exact k1)) (by (rw [e2]; exact h1)), fun b hb => ?_⟩
    rcases List.mem_cons.mp (by simpa using hb) with z | z
    · rw [z, h]; exact fun y => nomatch y
    · exact h2 b z
theorem DqAll.reads (I : Inv X pins σ H s) : ∀ {vs : List V} {ds : List PyData} {us : List Value}, DqAll H vs ds → Vals vs us → ∃ as, ReadsAll s.heap us ds as ∧ ∀ b ∈ as, H b ≠ none
  | _, _, _, .nil, r => by cases r; exact ⟨[], .nil, fun b hb => absurd hb (by simp)⟩
  | _, _, _, .cons h q, r => by
    cases r with
    | cons r1 r2 =>
      obtain ⟨as, h1, h2⟩ := Dq.reads I h r1; obtain ⟨bs, h3, h4⟩ := DqAll.reads I q r2
      exact ⟨_, .cons h1 h3, fun b hb => (List.mem_append.mp hb).elim (h2 b) (h4 b)⟩
end
/-- repr(x), x a tuple, a list or a dict of data -/
def rRepr : List V → Hp → VK → Prop := fun xs H Q => ∃ (a : Addr) (d : PyData), xs = [.ref a] ∧ Dq H (.ref a) d ∧ d.showable = true ∧ d.depth ≤ 50 ∧ d.shown.length ≤ sizeLine ∧ Q (.str d.shown) H
theorem call_reprD {X : Cx} (hg : X.A.guards = some []) (hu : X.A.units + 64 < cLine) (hs : ∃ o, X.base.get? sysModules = some o) : CallR X (.builtin "repr") rRepr := by
  intro pins s σ H xs us Q I r h; obtain ⟨a, d, rfl, hd, h1, h2, h3, q⟩ := h; obtain ⟨u, rfl, ru⟩ := vals1 r; cases (show u = Value.ref a from ru)
  obtain ⟨as, hr, hn⟩ := hd.reads I (u := .ref a) rfl; obtain ⟨o, ho⟩ := hs
  have hsm : d.hasDict = true → sysModules ∉ as := fun _ hm => hn _ hm (I.bs _ _ ho).2
  exact repr_of_reads' hr h1 hsm hg (by omega) (fun _ _ e => e) (fun h' u tk k => ⟨.str _, H, I.kept (t' := tk) k, ⟨_, rfl⟩, q⟩) h3
end

/-! ### a def that asks repr: nothing is being shown around it -/
structure FnG (P : Program) (w : World) (K : PySem.W.Frag) (mg : Str → Option Value) (base : Heap) (k : Nat) (f : Addr) (fd : FuncData) (ps : List Str) (sp : Sp) : Prop where
  len : ∀ vs H Q E, sp vs H Q E → vs.length = ps.length
  run : ∀ (A : Around) (outer : List Env) (s : Shared) (H : Hp) (args : Args) (us : List Value) (vs : List V) (Q : VK) (E : XK), A.guards = some [] → Room k A → Env0 P w K mg base A outer s H → BindsTo s fd args (ps.zip us) → Vals vs us → sp vs H Q E → codeAny (model P w) A (.call (.ref f) args) (CR CX0 outer P w H s Q E) s
theorem _root_.L2.Fun.okG {P : Program} {w : World} {K : PySem.W.Frag} {mg : Str → Option Value} {base : Heap} {x qual : Str} {st : Stmt} {f : Addr} {fd : FuncData} {N ps : List Str} {k : Nat} {sp : Sp} (F : Fun K x qual st f fd) (S : FnScope N ps (defScope st)) (len : ∀ vs H Q E, sp vs H Q E → vs.length = ps.length)
    (hbody : ∀ (cdv : Value) (A : Around) (outer : List Env) (s : Shared) (H : Hp) (vs : List V) (Q : VK) (E : XK), A.guards = some [] → Room k (A.deeper (envOfC qual (defScope st) s.heap.objs.size f cdv)) → sp vs H Q E →
      ∃ t, PSs (cxOf CX0 P w K mg base N qual (defScope st) f cdv A outer s H E).nox (defBody st) t ∧ t { nx := fun _ H' => Q .non H', rt := Q } (start N vs) H) : FnG P w K mg base (k + 1) f fd ps sp := by
  obtain ⟨oc, od, kV, doc, pm, an, cdv, ct, osl, rfl, lk, hcd⟩ := F.ex; refine ⟨len, fun A outer s H args us vs Q E hgd hr e0 hb r hsp => ?_⟩; have hl := len _ _ _ _ hsp
  have KX : K.In s.heap := e0.mod.kin.keeps fun b o e => (e0.bs b o e).1; have lim : s.heap.NoLimit := e0.mod.nolimit.keeps fun b o e => (e0.bs b o e).1
  have hkind : ∀ y ∈ ps.zip us, (defScope st).names.lookup y.1 = some .local ∨ ((defScope st).names.lookup y.1 = some .cell ∧ ((cellsFrom (s.heap.objs.size + 1) (defScope st).names []).lookup y.1).isSome = true) := fun ⟨n, v⟩ hy => (S.par n (List.of_mem_zip hy).1).elim .inl fun q => .inr ⟨q, PySem.W.cellsFrom_some _ _ _ (.inl q)⟩
  refine codeAny_call_function hr.depth (KX _ _ lk) rfl S.co S.gen rfl (PySem.W.codeRec_of KX hcd) (hb _ _ _ _ ?_); refine wpAny_newFunctionEnv_cells S.kind hkind fun env he s1 x => ?_
  subst he; refine ⟨lim.keeps x.toInCall.keep, codeAny_func ?_⟩; obtain ⟨t, ht, hq⟩ := hbody cdv A outer s H vs Q E hgd (hr.deeper _) hsp
  have I : Inv (cxOf CX0 P w K mg base N qual (defScope st) f cdv A outer s H E) [] (start N vs) H s1 := inv_start S hr.hd e0 hl r x
  refine wpAny_mono (ht.nox.run [] s1 (start N vs) H _ I hq) (fun fl s' hs => ?_) fun e s' hs => hs
  have fin : ∀ {σ' : L2.St} {H' : Hp} {v : V} {u : Value}, Inv (cxOf CX0 P w K mg base N qual (defScope st) f cdv A outer s H E) [] σ' H' s' → RelV v u → Q v H' → CE outer P w H s Q u s' := fun {σ' H' v u} J rv q => ⟨v, H', J.os, J.bare, J.base, J.hok, rv, q⟩
  cases fl with
  | ret u => obtain ⟨v, σ', H', J, rv, q⟩ := hs; exact fin J rv q
  | next => obtain ⟨σ', H', J, q⟩ := hs; exact fin (v := V.non) (u := Value.none) J rfl q
  | brk => obtain ⟨_, _, _, q⟩ := hs; exact False.elim q
  | cont => obtain ⟨_, _, _, q⟩ := hs; exact False.elim q
section
variable {X : Cx} {k : Nat} {f : Addr} {fd : FuncData} {ps : List Str} {sp : Sp} {x : Str} {q pos : Pos} {e : Expr} {es : List Expr} {t : TA}
theorem pe_callG (F : FnG X.prog X.w X.K X.mg X.base k f fd ps sp) (hgd : X.A.guards = some []) (hr : Room k X.A) (hg : Gl X x) (hm : X.mg x = some (.ref f)) (hk : PySem.W.keepIn X.K (.ref f) = true) (hb : Binds X.K fd ps [])
    (ha : PA X (e :: es) t) (hdb : (x == ("__debug__" : Str)) = false := by decide) (he : starEach (e :: es) X.env = (false, eval e X.env) :: starEach es X.env := by rfl) (hpl : (backTo pos (starEach es X.env)).any (·.1) = false := by rfl) : PE X (.Call (.Name x q) (e :: es) [] pos) (tCall sp [] E0 t) := by
  refine ⟨fun pins s σ H Q I h => ?_⟩; refine wpAny_Call_Name_kw (ld_glob I hg hm ?_ hdb)
  refine PySem.W.callWith_K (h₀ := X.base) I.ok.mod.kin hk (thn (ha.run pos pins s σ H _ I h) fun us s1 ⟨vs, H1, I1, r, h1⟩ => ⟨I1.kIn, ?_⟩) he hpl
  have h1 : sp vs H1 Q E0 := by simpa using (show sp (vs ++ []) H1 Q E0 from h1)
  have hl : us.length = ps.length := by (rw [← r.length]; exact F.len _ _ _ _ h1)
  have b := hb s1 us I1.kIn (by (rw [List.append_nil]; exact hl)); rw [List.append_nil] at b
  refine wpAny_call (codeAny_mono (F.run X.A X.stack s1 H1 ⟨us, []⟩ us vs Q E0 hgd hr I1.env0 b r h1) fun r s' hq => ?_)
  cases r with
  | error e => exact False.elim hq
  | ok fl =>
    cases fl with
    | ret u => exact I1.after hq
    | next => exact False.elim hq
    | brk => exact False.elim hq
    | cont => exact False.elim hq
end
end Ox
namespace Ox
open PySem PySem.Spec PyProof.Rows L2
theorem law_callG {P : Program} {w : World} {K : PySem.W.Frag} {mg mb : Str → Option Value} {k : Nat} {fa a : Addr} {fd : FuncData} {x : Str} {sp : Sp} {s₁ : Shared} {vs : List Value} {ns : List Int} (KX : K.In s₁.heap) (hns : s₁.heap.Ns mainGlobals mg) (hb : s₁.heap.Ns builtinsNs mb)
    (hbb : ∀ x : Str, x ≠ "__name__" → mb x = bootBuiltins x) (hlim : s₁.heap.NoLimit) (hsys : ∃ mm, s₁.heap.Ns sysModules mm) (hg : s₁.gens = #[]) (ha : s₁.heap.get? a = some { cls := .type "list", data := .seq vs.toArray }) (hi : IntsAre vs ns) (hl : ns.length ≤ sizeLine) (hr : Room k callerA)
    (F : ∀ base : Heap, K.In base → base.Ns mainGlobals mg → (∃ o, base.get? sysModules = some o) → FnG P w K mg base k fa fd [x] sp) (hbind : ∀ (s : Shared) (u : Value), BindsTo s fd ⟨[u], []⟩ [(x, u)]) (hsp : ∀ H : Hp, SqL K H a (ns.map V.int) → sp [.ref a] H (fun v _ => v = .bl true) fun _ _ _ => False) :
    codeAny (model P w) callerA (.call (.ref fa) ⟨[.ref a], []⟩) (fun r s' => r = .ok (.ret (.bool true)) ∧ OldK s₁.heap s'.heap ∧ s'.os = s₁.os ∧ AllBare s'.gens) s₁ := by
  have rv := vals_ints hi; have lenV := hi.length
  have core : ∀ H : Hp, (∀ b u, H b = some u → b = a ∧ K.lookup a = none ∧ ∃ o xs, u = .frz o (.lst xs)) → SqL K H a (ns.map V.int) → HOk P w H s₁.heap →
      codeAny (model P w) callerA (.call (.ref fa) ⟨[.ref a], []⟩) (fun r s' => r = .ok (.ret (.bool true)) ∧ OldK s₁.heap s'.heap ∧ s'.os = s₁.os ∧ AllBare s'.gens) s₁ := by
    intro H hA hS hok
    have base_of : ∀ {b : Addr} {o : Obj}, s₁.heap.get? b = some o → H b = none → (hidT s₁.heap H).get? b = some o := fun e n => hidT_get e n
    have noD : ∀ {b : Addr} {o : Obj} {es : Array DictEntry} {ep : Nat}, s₁.heap.get? b = some o → o.data = .dict es ep → H b = none := fun {b o es ep} e d => by
      cases q : H b with
      | none => rfl
      | some u =>
        have e' := (hA b u q).1; subst e'; rw [ha] at e; cases e; have d' : Data.seq vs.toArray _ = Data.dict es ep := d; cases d'
    have nsK : ∀ {b : Addr} {m : Str → Option Value}, s₁.heap.Ns b m → (hidT s₁.heap H).Ns b m := fun {b m} ⟨o, es, ep, e, d, r⟩ => ⟨o, es, ep, base_of e (noD e d), d, r⟩
    have hKb : K.In (hidT s₁.heap H) := fun b o e => base_of (KX b o e) (by
      cases q : H b with
      | none => rfl
      | some u => have z := hA b u q; rw [z.1, z.2.1] at e; cases e)
    have hM : Mod K mg (hidT s₁.heap H) := ⟨hKb, nsK hns, ⟨mb, nsK hb, hbb⟩, let ⟨mc, h1, h2⟩ := hlim; ⟨mc, nsK h1, h2⟩⟩
    have hS1 : ∃ o, (hidT s₁.heap H).get? sysModules = some o := by
      obtain ⟨mm, hm⟩ := hsys; obtain ⟨o, es, ep, e, _⟩ := nsK hm; exact ⟨o, e⟩
    have e0 : Env0 P w K mg (hidT s₁.heap H) callerA [] s₁ H := ⟨rfl, hM, fun b o e => of_hidT e, Nat.le_of_eq (hidT_size _ _), trivial, fun b hb => absurd (show b ∈ ([] : List Addr) from hb) (by simp), hok, .of_eq hg⟩
    refine codeAny_mono ((F _ hKb (nsK hns) hS1).run callerA [] s₁ H ⟨[.ref a], []⟩ [.ref a] [.ref a] _ _ rfl hr e0 (hbind s₁ (.ref a)) (.cons rfl .nil) (hsp H hS)) fun r s' h => ?_
    cases r with
    | error e => exact False.elim h
    | ok fl =>
      cases fl with
      | next => exact False.elim h
      | brk => exact False.elim h
      | cont => exact False.elim h
      | ret u =>
        obtain ⟨v, H', os, bare, un, hok', r', q⟩ := h; have q' : v = .bl true := q; subst q'; obtain rfl : u = Value.bool true := r'
        refine ⟨rfl, OldK.of_keep fun b o e => ?_, os, bare⟩
        cases q : H b with
        | none => exact un.keep b o e q (by intro z; exact absurd (show b ∈ ([] : List Addr) from z) (by simp)) (by simp)
        | some u =>
          obtain ⟨_, _, ob, xs, z⟩ := hA b u q; subst z; have z2 := un.frzs b ob _ q; obtain ⟨e1, _⟩ := hok b _ q; obtain ⟨e2, _⟩ := hok' b _ z2
          rw [e] at e1; cases e1; exact e2
  cases hk : K.lookup a with
  | some o =>
    have e := KX a o hk; rw [ha] at e; cases e
    exact core (fun _ => none) (fun b u z => nomatch (show (none : Option HO) = some u from z)) (.inr ⟨_, vs.toArray, _, hk, rfl, rfl, rfl, by (rw [List.size_toArray, lenV]; exact hl), by simpa using rv⟩) (fun b u z => nomatch (show (none : Option HO) = some u from z))
  | none =>
    refine core (fun b => if b = a then some (.frz { cls := .type "list", data := .seq vs.toArray } (.lst (ns.map V.int))) else none) (fun b u z => ?_) (.inl (.inr ⟨{ cls := .type "list", data := .seq vs.toArray }, if_pos rfl⟩)) (fun b u z => ?_)
    · by_cases hb : b = a
      · exact ⟨hb, hk, _, _, (Option.some.inj ((if_pos hb).symm.trans z)).symm⟩
      · exact nomatch ((if_neg hb).symm.trans z)
    · by_cases hb : b = a
      · have z' := Option.some.inj ((if_pos hb).symm.trans z); subst z'; subst hb; exact ⟨ha, by (rw [List.length_map]; exact hl), vs, _, rv, ha⟩
      · exact nomatch ((if_neg hb).symm.trans z)
theorem walkG {l : PySem.W.OpenLaw} {n k : Nat} {q : Program} {loose : List Str} {XP : (Str → Option Value) → Heap → Prop} {YP : World → Heap → Prop} {d : DefRec} {K : Params → PySem.W.Frag} {sp : PySem.W.Frag → Sp} {x : Str} (hn : l.most = some n) (hn2 : n ≤ sizeLine) (hdf : d.params.defaults = []) (hr : Room k callerA)
    (hq : importsNone q = true) (hY : ∀ (w : World) (h : Heap), YP w h → (K w.params).In h)
    (F : ∀ (w : World) (mg : Str → Option Value) (fa : Addr) (h : Heap), (K w.params).In h → h.Ns mainGlobals mg → mg d.name = some (.ref fa) →
      ∃ fd : FuncData, (∀ (s : Shared) (u : Value), BindsTo s fd ⟨[u], []⟩ [(x, u)]) ∧ ∀ base : Heap, (K w.params).In base → base.Ns mainGlobals mg → (∃ o, base.get? sysModules = some o) → FnG l.prog w (K w.params) mg base k fa fd [x] (sp (K w.params)))
    (hsp : ∀ (K : PySem.W.Frag) (H : Hp) (a : Addr) (ns : List Int), ns.length ≤ n → SqL K H a (ns.map V.int) → sp K [.ref a] H (fun v _ => v = .bl true) fun _ _ _ => False) : PySem.W.WalkO q loose XP YP l.row.toRowW d [] (fun f vs => PySem.call f vs) := by
  refine Att.attach_call hn hdf fun w s₀ s₁ mg mb fa o pm cd doc a vs ns G Y ho hd hcd hmg hobj hints hlen hg => ?_
  have KX := hY w _ Y; obtain ⟨fd, hb, hF⟩ := F w mg fa _ KX G.T.g hmg; have hs := (G.T.seer hq).mods
  exact law_callG KX G.T.g G.T.b G.T.builtins G.T.nolimit (let ⟨mm, h, _⟩ := hs; ⟨mm, h⟩) hg hobj hints (Nat.le_trans hlen hn2) hr hF hb fun H hS => hsp _ H a ns hlen hS
end Ox
namespace Dc
open PySem PySem.Spec PyProof.Rows L2
def top (i : Nat) : Stmt := PySem.Challenge.pw_asunmoved_k00_errors.main.body.getD i (.Pass ⟨0, 0, 0, 0⟩)
abbrev sDice : Stmt := top 16
abbrev sRoll : Stmt := top 17
abbrev sOne : Stmt := top 18
abbrev sText : Stmt := top 20
abbrev sNum : Stmt := top 21
/-- the generator of numbers stands at p -/
def DiceAt (H : Hp) (p : Addr) : Prop := ∃ a b c : Int, H p = some (.lst [.int a, .int b, .int c]) ∧ 0 ≤ a
/-- all that is tracked is kept, but for the object at p -/
def Keep (p : Addr) (H H' : Hp) : Prop := ∀ b o, b ≠ p → H b = some o → H' b = some o
theorem Keep.refl {p : Addr} {H : Hp} : Keep p H H := fun _ _ _ h => h
theorem Keep.trans {p : Addr} {H H1 H2 : Hp} (a : Keep p H H1) (b : Keep p H1 H2) : Keep p H H2 := fun c o n h => b c o n (a c o n h)
theorem keep_upd {p : Addr} {H : Hp} {o : HO} : Keep p H (upd H p o) := fun b u n h => by rw [upd_ne n]; exact h
theorem keep_new {p q : Addr} {H : Hp} {o : HO} (hq : H q = none) : Keep p H (upd H q o) := fun b u n h => by rw [upd_ne (ne_of_none h hq)]; exact h

theorem DiceAt.upd {p : Addr} {H : Hp} {a b c : Int} (h : 0 ≤ a) : DiceAt (upd H p (.lst [.int a, .int b, .int c])) p := ⟨a, b, c, upd_same, h⟩
structure TxB (K : PySem.W.Frag) (mg : Str → Option Value) : Prop where
  len : mg "len" = none
  int : mg "int" = none
  abs : mg "abs" = none
  max : mg "max" = none
  list : mg "list" = none
  range : mg "range" = none

theorem tt_yes {σ : L2.St} {H : Hp} {A B : Hp → Prop} (h : A H) : tYes σ H (fun b H3 => if b = true then A H3 else B H3) := by
  show (if true = true then A H else B H)
  rw [if_pos rfl]
  exact h
/-- x ** n with a bound by bits -/
theorem op_powB {X : Cx} : OpR X (binaryOp .Pow) (rI (fun i j => 0 ≤ j ∧ (Builtin.Int.intBits i : Int) * j ≤ 2 ^ 27) fun i j => .int (i ^ j.toNat)) :=
  opI fun _ _ _ _ _ _ _ hc q => pow_int hc.1 hc.2 q

def spDice (K : PySem.W.Frag) : Sp := fun vs H Q _ => ∃ (a : Addr) (ns : List Int) (i : Nat), vs = [.ref a, .int (i : Int)] ∧ SqL K H a (ns.map V.int) ∧ i ≤ 1000 ∧
  ∀ (p : Addr) (x y : Int), H p = none → 0 ≤ x → Q (.ref p) (upd H p (.lst [.int x, .int y, .int 0]))
def spRoll : Sp := fun vs H Q _ => ∃ (p : Addr) (n : Int) (a b c : Int), vs = [.ref p, .int n] ∧ H p = some (.lst [.int a, .int b, .int c]) ∧ 0 ≤ a ∧ 0 < n ∧ n < 2 ^ 40 ∧
  ∀ (r x y z : Int), 0 ≤ r → r < n → 0 ≤ x → Q (.int r) (upd H p (.lst [.int x, .int y, .int z]))
section
variable {P : Program} {w : World} {K : PySem.W.Frag} {mg : Str → Option Value} {base : Heap}
theorem scD : FnScope ["_law_script", "_law_at", "_law_cell", "_law_great", "_law_mixed_here"] ["_law_script", "_law_at"] (defScope sDice) := ⟨rfl, rfl, rfl, by decide +kernel, rfl, by decide +kernel, by decide +kernel⟩
theorem scR : FnScope ["_law_dice_here", "_law_total", "_law_found", "_law_one", "_law_two"] ["_law_dice_here", "_law_total"] (defScope sRoll) := ⟨rfl, rfl, rfl, by decide +kernel, rfl, by decide +kernel, by decide +kernel⟩

theorem big_ne : (((10 : Int) ^ Int.toNat 59) ^ Int.toNat 11) ≠ 0 := by decide +kernel
theorem fmod_in {a n : Int} (h : 0 < n) : 0 ≤ a.fmod n ∧ a.fmod n < n := ⟨Int.fmod_nonneg_of_pos _ h, Int.fmod_lt_of_pos _ h⟩
theorem mul_left_ok {a n : Int} (h : 0 < n) (hn : n < 2 ^ 64) {j : Int} : CMul (a.fmod n) j := .inl ⟨by have := (fmod_in (a := a) h).1; omega, by have := (fmod_in (a := a) h).2; omega⟩
theorem ok_dice {f : Addr} {fd : FuncData} (F : Fun K "_law_dice" "_law_dice" sDice f fd) (T : TxB K mg) : FnOk P w K mg base CX0 1 f fd ["_law_script", "_law_at"] (spDice K) := by
  refine F.ok scD (fun vs H Q E h => ?_) (fun cdv A outer s H vs Q E hr h => ?_)
  · obtain ⟨a, ns, i, rfl, _⟩ := h
    rfl
  · obtain ⟨a, ns, i, rfl, hS, hi, k⟩ := h
    refine ⟨_, pss_cons (ps_set (i := 2) scD.nd rfl (Or.inl rfl) (pe_op op_add (pe_op op_mul pe_int (pv 1)) pe_int))
      (pss_cons (ps_if (pt_cmpR op_lt (pv 1) (pe_callB call_len_seq (by rfl) T.len PySem.boot_len (pa_cons (pv 0) pa_nil)) (nomark _)) (pss_one (ps_set (i := 2) scD.nd rfl (Or.inl rfl) (pe_ix ix_list (pv 0) (pv 1) (fun _ _ => rfl)))) pss_nil)
      (pss_cons (ps_set (i := 3) scD.nd rfl (Or.inl rfl) (pe_op op_modN (pe_callTy call_int1 (by rfl) T.int PyProof.Rows.boot_int (pa_cons (pe_callB call_abs (by rfl) T.abs PyProof.Rows.boot_abs (pa_cons (pv 2) pa_nil)) pa_nil)) (pe_op op_powB (pe_op op_pow pe_int pe_int) pe_int)))
      (pss_cons (ps_set (i := 4) scD.nd rfl (Or.inl rfl) (pe_op op_add (pe_op op_add (pe_op op_add (pe_op op_mul (pe_op op_modN (pe_callTy call_int1 (by rfl) T.int PyProof.Rows.boot_int (pa_cons (pv 3) pa_nil)) pe_int) pe_int) (pe_op op_mul pe_int (pv 1)))
          (pe_op op_mul pe_int (pe_callTy call_int1 (by rfl) T.int PyProof.Rows.boot_int (pa_cons (pe_cmpR op_lt (pv 2) pe_int (nomark _)) pa_nil)))) pe_int))
      (pss_one (ps_ret (pe_lst (pa_cons (pe_callB (call_max2 rfl) (by rfl) T.max PyProof.Rows.boot_max (pa_cons pe_int (pa_cons (pe_op op_sub (pv 3) (pe_op op_pow pe_int pe_int)) pa_nil)))
          (pa_cons (pe_op op_modN (pe_callTy call_int1 (by rfl) T.int PyProof.Rows.boot_int (pa_cons (pv 4) pa_nil)) pe_int) (pa_cons pe_int pa_nil))))))))), ?_⟩
    refine ⟨_, rfl, _, _, rfl, rfl, (.inl ⟨by decide, by decide⟩), _, _, rfl, rfl, ?_⟩
    -- if _law_at < len(_law_script)
    refine ⟨_, rfl, _, rfl, a, _, rfl, .inl hS, _, _, rfl, rfl, _, rfl, ?_⟩
    refine ite2 (fun hlt => ?_) (fun hge => ?_)
    · have hl : i < ns.length := by
        have q := of_decide_eq_true hlt
        rw [List.length_map] at q
        omega
      refine ⟨_, rfl, _, rfl, a, _, _, V.int ns[i], rfl, rfl, hS, atI_nat (by rw [List.getElem?_map, List.getElem?_eq_getElem hl]; rfl), ?_⟩
      refine ⟨_, rfl, _, rfl, .inl ⟨_, rfl, _, _, rfl, rfl, ⟨by decide, by decide, by decide⟩, _, _, rfl, rfl, ⟨by decide, by decide +kernel⟩, _, _, rfl, rfl, big_ne, ?_⟩⟩
      refine ⟨_, rfl, .inl ⟨_, rfl, _, _, rfl, rfl, (show (2147483423 : Int) ≠ 0 by decide), _, _, rfl, rfl, .inr ⟨by decide, by decide⟩, _, rfl, _, _, rfl, rfl, .inl ⟨by decide, by decide⟩, _, _, rfl, rfl,
        _, rfl, _, _, rfl, rfl, .inr ⟨_, rfl, _, _, rfl, rfl, .inl ⟨by decide, by decide⟩, _, _, rfl, rfl, _, _, rfl, rfl, ?_⟩⟩⟩
      refine ⟨_, rfl, _, _, rfl, rfl, ⟨by decide, by decide, by decide⟩, _, _, rfl, rfl, _, _, rfl, _, rfl, .inl ⟨_, rfl, _, _, rfl, rfl, (show (2147483353 : Int) ≠ 0 by decide), (by show 3 ≤ sizeLine; decide), fun p hp => ?_⟩⟩
      exact k p _ _ hp (by split <;> omega)
    · refine ⟨_, rfl, _, rfl, .inl ⟨_, rfl, _, _, rfl, rfl, ⟨by decide, by decide, by decide⟩, _, _, rfl, rfl, ⟨by decide, by decide +kernel⟩, _, _, rfl, rfl, big_ne, ?_⟩⟩
      refine ⟨_, rfl, .inl ⟨_, rfl, _, _, rfl, rfl, (show (2147483423 : Int) ≠ 0 by decide), _, _, rfl, rfl, .inr ⟨by decide, by decide⟩, _, rfl, _, _, rfl, rfl, .inl ⟨by decide, by decide⟩, _, _, rfl, rfl,
        _, rfl, _, _, rfl, rfl, .inr ⟨_, rfl, _, _, rfl, rfl, .inl ⟨by decide, by decide⟩, _, _, rfl, rfl, _, _, rfl, rfl, ?_⟩⟩⟩
      refine ⟨_, rfl, _, _, rfl, rfl, ⟨by decide, by decide, by decide⟩, _, _, rfl, rfl, _, _, rfl, _, rfl, .inl ⟨_, rfl, _, _, rfl, rfl, (show (2147483353 : Int) ≠ 0 by decide), (by show 3 ≤ sizeLine; decide), fun p hp => ?_⟩⟩
      exact k p _ _ hp (by split <;> omega)
theorem ok_roll {f : Addr} {fd : FuncData} (F : Fun K "_law_roll" "_law_roll" sRoll f fd) (T : TxB K mg) : FnOk P w K mg base CX0 1 f fd ["_law_dice_here", "_law_total"] spRoll := by
  refine F.ok scR (fun vs H Q E h => ?_) (fun cdv A outer s H vs Q E hr h => ?_)
  · obtain ⟨p, n, a, b, c, rfl, _⟩ := h
    rfl
  · obtain ⟨p, n, a, b, c, rfl, hp, ha, hn, hn2, k⟩ := h
    refine ⟨_, pss_cons (ps_if (pt_cmpR op_gt (pe_ix ix_list (pv 0) pe_int (fun _ _ => rfl)) pe_int (nomark _))
        (pss_cons (ps_set (i := 2) scR.nd rfl (Or.inl rfl) (pe_op op_modN (pe_callTy call_int1 (by rfl) T.int PyProof.Rows.boot_int (pa_cons (pe_ix ix_list (pv 0) pe_int (fun _ _ => rfl)) pa_nil)) (pv 1)))
        (pss_cons (ps_asg (pe_op op_fdivW (pe_ix ix_list (pv 0) pe_int (fun _ _ => rfl)) (pv 1)) (pg_sub (pv 0) pe_int set_list))
        (pss_one (ps_ret (pv 2))))) pss_nil)
      (pss_cons (ps_asg (pe_op op_add (pe_ix ix_list (pv 0) pe_int (fun _ _ => rfl)) pe_int) (pg_sub (pv 0) pe_int set_list))
      (pss_cons (ps_set (i := 3) scR.nd rfl (Or.inl rfl) (pe_op op_modN (pe_callTy call_int1 (by rfl) T.int PyProof.Rows.boot_int (pa_cons (pe_op op_add (pe_ix ix_list (pv 0) pe_int (fun _ _ => rfl)) (pe_op op_mul pe_int (pe_ix ix_list (pv 0) pe_int (fun _ _ => rfl)))) pa_nil)) pe_int))
      (pss_cons (ps_set (i := 4) scR.nd rfl (Or.inl rfl) (pe_op op_add (pe_op op_mul (pe_op op_modN (pe_callTy call_int1 (by rfl) T.int PyProof.Rows.boot_int (pa_cons (pe_op op_mul (pv 3) (pv 3)) pa_nil)) pe_int) (pv 3)) (pe_op op_mul pe_int (pe_ix ix_list (pv 0) pe_int (fun _ _ => rfl)))))
      (pss_cons (ps_set (i := 4) scR.nd rfl (Or.inl rfl) (pe_op op_modN (pe_callTy call_int1 (by rfl) T.int PyProof.Rows.boot_int (pa_cons (pv 4) pa_nil)) pe_int))
      (pss_one (ps_ret (pe_op op_modN (pe_callTy call_int1 (by rfl) T.int PyProof.Rows.boot_int (pa_cons (pe_op op_fdiv (pv 4) pe_int) pa_nil)) (pv 1)))))))), ?_⟩
    refine ⟨_, rfl, p, _, 0, _, rfl, rfl, .of hp, atI_nat (j := 0) rfl, _, _, rfl, rfl, _, rfl, ?_⟩
    refine ite2 (fun hgt => ?_) (fun hle => ?_)
    · refine ⟨_, rfl, p, _, 0, _, rfl, rfl, .of hp, atI_nat (j := 0) rfl, .inl ⟨_, rfl, _, rfl, _, _, rfl, rfl, (show n ≠ 0 by omega), ?_⟩⟩
      refine ⟨_, rfl, p, _, 0, _, rfl, rfl, .of hp, atI_nat (j := 0) rfl, _, rfl, _, _, rfl, rfl, wide_div hn (b := 40) (by omega) (by decide) (by decide), _, rfl, p, _, _, 0, rfl, rfl, hp, rfl, _, rfl, ?_⟩
      exact k _ _ _ _ (fmod_in hn).1 (fmod_in hn).2 (Int.ediv_nonneg ha (by omega))
    · refine ⟨_, rfl, p, _, 2, _, rfl, rfl, .of hp, atI_nat (j := 2) rfl, _, _, rfl, rfl, _, rfl, p, _, _, 2, rfl, rfl, hp, rfl, ?_⟩
      have hp2 : upd H p (HO.lst [V.int a, V.int b, V.int (c + 1)]) p = some (HO.lst [V.int a, V.int b, V.int (c + 1)]) := upd_same
      refine ⟨_, rfl, p, _, 1, _, rfl, rfl, .of hp2, atI_nat (j := 1) rfl, _, rfl, p, _, 2, _, rfl, rfl, .of hp2, atI_nat (j := 2) rfl, _, _, rfl, rfl, .inl ⟨by decide, by decide⟩, _, _, rfl, rfl, .inl ⟨_, rfl, _, _, rfl, rfl, (show (2305843009213693951 : Int) ≠ 0 by decide), ?_⟩⟩
      refine ⟨_, rfl, _, rfl, _, _, rfl, rfl, mul_left_ok (by decide) (by decide), .inl ⟨_, rfl, _, _, rfl, rfl, (show (2305843009213693921 : Int) ≠ 0 by decide), _, rfl, _, _, rfl, rfl, mul_left_ok (by decide) (by decide),
        _, rfl, p, _, 2, _, rfl, rfl, .of hp2, atI_nat (j := 2) rfl, _, _, rfl, rfl, .inl ⟨by decide, by decide⟩, _, _, rfl, rfl, ?_⟩⟩
      refine ⟨_, rfl, .inl ⟨_, rfl, _, _, rfl, rfl, (show (2305843009213693907 : Int) ≠ 0 by decide), ?_⟩⟩
      refine ⟨_, rfl, _, _, rfl, rfl, ⟨by decide, by decide⟩, .inl ⟨_, rfl, _, rfl, _, _, rfl, rfl, (show n ≠ 0 by omega), ?_⟩⟩
      exact k _ _ _ _ (fmod_in hn).1 (fmod_in hn).2 ha
theorem call_list_txt {X : Cx} (hc : X.calm = true) : CallR X (.type "list") (fun xs H Q => ∃ z : Str, xs = [.str z] ∧ z.cps.size ≤ sizeLine ∧ ∀ l, H l = none → Q (.ref l) (upd H l (.lst ((signs z).map V.str)))) := by
  intro pins s σ H xs us Q I r h
  obtain ⟨z, rfl, hz, q⟩ := h
  obtain ⟨u, rfl, t, rfl⟩ := vals1 r
  refine call_list_str (I.ok.hd hc) z t (fun h' tk acc c' hk hS hacc => ?_) hz
  have hv : ∀ (j : Nat) (x : V) (u : Value), ((signs z).map V.str)[j]? = some x → acc.toList[j]? = some u → RelV x u := fun j x u e1 e2 => by
    obtain ⟨c, tt, e, rfl⟩ := hacc.2 j u (by simpa using e2)
    rw [List.getElem?_map] at e1
    have e3 : (signs z)[j]? = some ⟨#[c]⟩ := by simp [signs, e]
    rw [e3] at e1
    cases e1
    exact ⟨tt, rfl⟩
  have hlen : ((signs z).map V.str).length = acc.toList.length := by simp [signs, hacc.1]
  have vv : Vals ((signs z).map V.str) acc.toList := vals_of_at hlen hv
  have ob : ObjOk X.prog X.w (upd H s.heap.objs.size (.lst ((signs z).map V.str))) h' s.heap.objs.size (.lst ((signs z).map V.str)) := ⟨by simpa [signs] using hz, acc.toList, c', vv, by simpa using hS⟩
  exact ⟨.ref s.heap.objs.size, _, I.laid (t' := tk) hk (Nat.le_refl _) ob, rfl, q _ (I.hok.fresh (Nat.le_refl _))⟩

/-! ### one of a list, a text, a number -/
structure TxD (K : PySem.W.Frag) (mg : Str → Option Value) (P : Program) (w : World) (base : Heap) : Prop extends TxB K mg where
  roll : ∃ f fd, mg "_law_roll" = some (.ref f) ∧ PySem.W.keepIn K (.ref f) = true ∧ Binds K fd ["_law_dice_here", "_law_total"] [] ∧ FnOk P w K mg base CX0 1 f fd ["_law_dice_here", "_law_total"] spRoll
def spOne : Sp := fun vs H Q _ => ∃ (p l : Addr) (xs : List V), vs = [.ref p, .ref l] ∧ DiceAt H p ∧ H l = some (.lst xs) ∧ l ≠ p ∧ 0 < xs.length ∧ xs.length < 1000 ∧
  ∀ (i : Nat) (x : V) (a b c : Int), xs[i]? = some x → 0 ≤ a → Q x (upd H p (.lst [.int a, .int b, .int c]))
theorem scO : FnScope ["_law_dice_here", "_law_items"] ["_law_dice_here", "_law_items"] (defScope sOne) := ⟨rfl, rfl, rfl, by decide +kernel, rfl, by decide +kernel, by decide +kernel⟩
theorem ok_one {f : Addr} {fd : FuncData} (F : Fun K "_law_one_of" "_law_one_of" sOne f fd) (T : TxD K mg P w base) : FnOk P w K mg base CX0 2 f fd ["_law_dice_here", "_law_items"] spOne := by
  obtain ⟨fR, fdR, mR, kR, bR, GR⟩ := T.roll
  refine F.ok scO (fun vs H Q E h => ?_) (fun cdv A outer s H vs Q E hr h => ?_)
  · obtain ⟨p, l, xs, rfl, _⟩ := h
    rfl
  · obtain ⟨p, l, xs, rfl, ⟨a, b, c, hp, ha⟩, hl, hne, h0, h1, k⟩ := h
    refine ⟨_, pss_one (ps_ret (pe_ix ix_list (pv 1) (pe_call GR hr (by rfl) mR kR bR .nil pass0 (pa_cons (pv 0) (pa_cons (pe_callB call_len_seq (by rfl) T.len PySem.boot_len (pa_cons (pv 1) pa_nil)) pa_nil))) (fun _ _ => rfl))), ?_⟩
    refine ⟨_, rfl, _, rfl, _, rfl, l, _, rfl, .inl (SqL.of hl), p, _, a, b, c, rfl, hp, ha, by omega, by omega, fun r x y z h2 h3 h4 => ?_⟩
    obtain ⟨j, rfl⟩ : ∃ j : Nat, r = (j : Int) := ⟨r.toNat, by omega⟩
    have hj : j < xs.length := by omega
    exact ⟨l, _, j, xs[j], rfl, rfl, SqL.of (by rw [upd_ne hne]; exact hl), atI_nat (List.getElem?_eq_getElem hj), k j _ _ _ _ (List.getElem?_eq_getElem hj) h4⟩

structure TxE (K : PySem.W.Frag) (mg : Str → Option Value) (P : Program) (w : World) (base : Heap) : Prop extends TxD K mg P w base where
  one : ∃ f fd, mg "_law_one_of" = some (.ref f) ∧ PySem.W.keepIn K (.ref f) = true ∧ Binds K fd ["_law_dice_here", "_law_items"] [] ∧ FnOk P w K mg base CX0 2 f fd ["_law_dice_here", "_law_items"] spOne
def spText : Sp := fun vs H Q _ => ∃ p : Addr, vs = [.ref p] ∧ DiceAt H p ∧ ∀ (z : Str) (H' : Hp), Keep p H H' → DiceAt H' p → Q (.str z) H'
theorem scT : FnScope ["_law_dice_here", "_law_signs", "_law_turn"] ["_law_dice_here"] (defScope sText) := ⟨rfl, rfl, rfl, by decide +kernel, rfl, by decide +kernel, by decide +kernel⟩
theorem sum_le : ∀ {zs : List Str}, (∀ z ∈ zs, z.length ≤ 1) → (zs.map (·.length)).sum ≤ zs.length
  | [], _ => Nat.le_refl _
  | z :: zs, h => by
    have h1 := h z List.mem_cons_self
    have h2 := sum_le (zs := zs) fun y hy => h y (List.mem_cons_of_mem _ hy)
    simp only [List.map_cons, List.sum_cons, List.length_cons]
    omega
theorem ok_text {f : Addr} {fd : FuncData} (F : Fun K "_law_text" "_law_text" sText f fd) (T : TxE K mg P w base) : FnOk P w K mg base CX0 3 f fd ["_law_dice_here"] spText := by
  obtain ⟨fR, fdR, mR, kR, bR, GR⟩ := T.roll
  obtain ⟨fO, fdO, mO, kO, bO, GO⟩ := T.one
  refine F.ok scT (fun vs H Q E h => ?_) (fun cdv A outer s H vs Q E hr h => ?_)
  · obtain ⟨p, rfl, _⟩ := h
    rfl
  · obtain ⟨p, rfl, hD, k⟩ := h
    have hr1 : Room 1 _ := hr.mono (by decide)
    refine ⟨_, pss_cons (ps_set (i := 1) scT.nd rfl (Or.inr rfl) (pe_callTy (call_list_txt rfl) (by rfl) T.list PyProof.Rows.boot_list (pa_cons pe_str pa_nil)))
      (pss_one (ps_ret (pe_join pe_str (pe_lc (own := [("_law_turn", 2)]) (g := gName 2) (tt := tYes) rfl scT.nd (pi_range1 (by rfl) T.range (pa_cons (pe_call GR hr1 (by rfl) mR kR bR .nil pass0 (pa_cons (pv 0) (pa_cons pe_int pa_nil))) pa_nil))
        (blkOk_by (N := ["_law_dice_here", "_law_signs", "_law_turn"]) (sc := defScope sText) (by decide +kernel)) (fun _ _ _ _ _ => pg_name (i := 2) scT.nd rfl (Or.inl rfl)) (fun _ _ _ _ _ => pts_nil)
        (fun _ _ _ _ _ => pe_call GO hr (by rfl) mO kO bO .nil pass0 (pa_cons (pv 0) (pa_cons (pv 1) pa_nil))))))), ?_⟩
    refine ⟨_, rfl, (by decide +kernel), fun l hl => ?_⟩
    obtain ⟨a, b, c, hp, ha⟩ := id hD
    have hlp : l ≠ p := fun e => by rw [e, hp] at hl; cases hl
    have hp1 : upd H l (HO.lst ((signs " !#&()*+,-./0123456789:;<=>?@ABCXYZ[]^_abcxyz{|}~").map V.str)) p = some (HO.lst [V.int a, V.int b, V.int c]) := by rw [upd_ne (Ne.symm hlp)]; exact hp
    have hK1 : Keep p H (upd H l (HO.lst ((signs " !#&()*+,-./0123456789:;<=>?@ABCXYZ[]^_abcxyz{|}~").map V.str))) := keep_new hl
    generalize hH1 : upd H l (HO.lst ((signs " !#&()*+,-./0123456789:;<=>?@ABCXYZ[]^_abcxyz{|}~").map V.str)) = H1 at hp1 hK1
    have hl1 : H1 l = some (HO.lst ((signs " !#&()*+,-./0123456789:;<=>?@ABCXYZ[]^_abcxyz{|}~").map V.str)) := by rw [← hH1]; exact upd_same
    refine ⟨⟨_, rfl⟩, _, rfl, p, 12, a, b, c, rfl, hp1, ha, by decide, by decide, fun r x y z h2 h3 h4 => ?_⟩
    refine ⟨r, rfl, by omega, by omega, fun D hD0 => ?_⟩
    have hDp : D ≠ p := fun e => by rw [e, upd_same] at hD0; cases hD0
    have hD1 : H1 D = none := by rw [upd_ne hDp] at hD0; exact hD0
    have hDl : D ≠ l := fun e => by rw [e, hl1] at hD1; cases hD1
    refine lc_range (n := r.toNat) (fun i H' => ∃ zs : List Str, zs.length = i ∧ (∀ z ∈ zs, z.length ≤ 1) ∧ H' D = some (.lst (zs.map V.str)) ∧ Keep p H1 H' ∧ DiceAt H' p)
      ⟨[], rfl, fun z hz => absurd hz (by simp), upd_same, (keep_upd (o := HO.lst [V.int x, V.int y, V.int z])).trans (keep_new hD0), x, y, z, by rw [upd_ne (Ne.symm hDp)]; exact upd_same, h4⟩ ?_ ?_
    · rintro i H' hi ⟨zs, hz1, hz2, hz3, hz4, hz5⟩
      refine ⟨rfl, ?_⟩
      refine tt_yes ?_
      refine ⟨_, rfl, _, rfl, p, l, _, rfl, hz5, hz4 l _ hlp hl1, hlp, by decide +kernel, by decide +kernel, fun j v a2 b2 c2 hv ha2 => ?_⟩
      obtain ⟨u, hu, rfl⟩ : ∃ u ∈ signs " !#&()*+,-./0123456789:;<=>?@ABCXYZ[]^_abcxyz{|}~", v = V.str u := by
        rw [List.getElem?_map] at hv
        cases e : (signs " !#&()*+,-./0123456789:;<=>?@ABCXYZ[]^_abcxyz{|}~")[j]? with
        | none => rw [e] at hv; cases hv
        | some u => rw [e] at hv; exact ⟨u, List.mem_of_getElem? e, (Option.some.inj hv).symm⟩
      have hu1 : u.length ≤ 1 := by
        obtain ⟨n, _, rfl⟩ := List.mem_map.mp hu
        exact Nat.le_refl _
      refine ⟨zs.map V.str, by rw [upd_ne hDp]; exact hz3, by rw [List.length_map, hz1]; exact Nat.lt_of_lt_of_le (show i < 12 by omega) (by decide), zs ++ [u], by simp [hz1], fun y hy => ?_, ?_, ?_, ?_⟩
      · rcases List.mem_append.mp hy with hy | hy
        · exact hz2 y hy
        · rw [List.mem_singleton.mp hy]; exact hu1
      · rw [upd_same]; simp
      · refine fun b o hb e => ?_
        have hbD : b ≠ D := fun q => by rw [q, hD1] at e; cases e
        rw [upd_ne hbD, upd_ne hb]
        exact hz4 b o hb e
      · exact ⟨a2, b2, c2, by rw [upd_ne (Ne.symm hDp)]; exact upd_same, ha2⟩
    · rintro H' ⟨zs, hz1, hz2, hz3, hz4, hz5⟩
      refine ⟨_, D, zs, rfl, rfl, .inl (SqL.of hz3), ?_, k _ _ (hK1.trans hz4) hz5⟩
      have e := sum_le hz2
      show _ + zs.length * 0 ≤ 16777216
      omega
def spNum : Sp := fun vs H Q _ => ∃ p : Addr, vs = [.ref p] ∧ DiceAt H p ∧ ∀ (n : Int) (H' : Hp), Keep p H H' → DiceAt H' p → -(10 ^ 40) < n → n < 10 ^ 40 → Q (.int n) H'
theorem scN : FnScope ["_law_dice_here", "_law_found"] ["_law_dice_here"] (defScope sNum) := ⟨rfl, rfl, rfl, by decide +kernel, rfl, by decide +kernel, by decide +kernel⟩
theorem ok_num {f : Addr} {fd : FuncData} (F : Fun K "_law_number" "_law_number" sNum f fd) (T : TxE K mg P w base) : FnOk P w K mg base CX0 3 f fd ["_law_dice_here"] spNum := by
  obtain ⟨fR, fdR, mR, kR, bR, GR⟩ := T.roll
  obtain ⟨fO, fdO, mO, kO, bO, GO⟩ := T.one
  refine F.ok scN (fun vs H Q E h => ?_) (fun cdv A outer s H vs Q E hr h => ?_)
  · obtain ⟨p, rfl, _⟩ := h
    rfl
  · obtain ⟨p, rfl, hD, k⟩ := h
    have hr1 : Room 1 _ := hr.mono (by decide)
    refine ⟨_, pss_cons (ps_set (i := 1) scN.nd rfl (Or.inl rfl) (pe_call GO hr (by rfl) mO kO bO .nil pass0 (pa_cons (pv 0) (pa_cons (pe_lst (pa_cons (pe_call GR hr1 (by rfl) mR kR bR .nil pass0 (pa_cons (pv 0) (pa_cons pe_int pa_nil)))
          (pa_cons (pe_call GR hr1 (by rfl) mR kR bR .nil pass0 (pa_cons (pv 0) (pa_cons (pe_op op_pow pe_int pe_int) pa_nil)))
          (pa_cons (pe_op op_sub (pe_op op_sub (pe_op op_pow pe_int pe_int) pe_int) (pe_call GR hr1 (by rfl) mR kR bR .nil pass0 (pa_cons (pv 0) (pa_cons pe_int pa_nil)))) pa_nil)))) pa_nil))))
      (pss_one (ps_ret (pe_ifExp (pt_cmpR op_eq (pe_call GR hr1 (by rfl) mR kR bR .nil pass0 (pa_cons (pv 0) (pa_cons pe_int pa_nil))) pe_int (nomark _)) (pe_op op_sub pe_int (pv 1)) (pv 1)))), ?_⟩
    obtain ⟨a, b, c, hp, ha⟩ := id hD
    refine ⟨_, rfl, _, rfl, p, 9, a, b, c, rfl, hp, ha, by decide, by decide, fun r1 x1 y1 z1 h11 h12 h13 => ?_⟩
    refine ⟨_, rfl, _, _, rfl, rfl, ⟨by decide, by decide, by decide⟩, p, _, x1, y1, z1, rfl, upd_same, h13, by decide, by decide, fun r2 x2 y2 z2 h21 h22 h23 => ?_⟩
    refine ⟨_, _, rfl, rfl, ⟨by decide, by decide, by decide⟩, _, _, rfl, rfl, _, rfl, p, 7, x2, y2, z2, rfl, upd_same, h23, by decide, by decide, fun r3 x3 y3 z3 h31 h32 h33 => ?_⟩
    refine ⟨_, _, rfl, rfl, (by show 3 ≤ sizeLine; decide), fun l hl => ?_⟩
    have hK : Keep p H (upd (upd (upd H p (.lst [.int x1, .int y1, .int z1])) p (.lst [.int x2, .int y2, .int z2])) p (.lst [.int x3, .int y3, .int z3])) := (keep_upd.trans keep_upd).trans keep_upd
    have hP : upd (upd (upd H p (.lst [.int x1, .int y1, .int z1])) p (.lst [.int x2, .int y2, .int z2])) p (.lst [.int x3, .int y3, .int z3]) p = some (.lst [.int x3, .int y3, .int z3]) := upd_same
    generalize upd (upd (upd H p (.lst [.int x1, .int y1, .int z1])) p (.lst [.int x2, .int y2, .int z2])) p (.lst [.int x3, .int y3, .int z3]) = H1 at hl hK hP ⊢
    have hlp : l ≠ p := fun e => by rw [e, hP] at hl; cases hl
    refine ⟨p, l, _, rfl, ⟨x3, y3, z3, by rw [upd_ne (Ne.symm hlp)]; exact hP, h33⟩, upd_same, hlp, (by show 0 < 3; decide), (by show 3 < 1000; decide), fun i v a4 b4 c4 hv h4 => ?_⟩
    have hv2 : ∃ n : Int, v = .int n ∧ 0 ≤ n ∧ n < 10 ^ 40 := by
      match i, hv with
      | 0, hv => cases hv; exact ⟨r1, rfl, h11, by omega⟩
      | 1, hv => cases hv; exact ⟨r2, rfl, h21, Int.lt_trans h22 (by decide)⟩
      | 2, hv => cases hv; exact ⟨_, rfl, by have : (10 : Int) ^ Int.toNat 40 = 10000000000000000000000000000000000000000 := by decide
                                             omega, by have : (10 : Int) ^ Int.toNat 40 = 10 ^ 40 := by decide
                                                       omega⟩
      | j + 3, hv => cases hv
    obtain ⟨n, rfl, hn0, hn1⟩ := hv2
    refine ⟨_, rfl, p, 3, a4, b4, c4, rfl, upd_same, h4, by decide, by decide, fun r5 x5 y5 z5 h51 h52 h53 => ?_⟩
    have hK2 : Keep p H (upd (upd (upd H1 l (.lst [.int r1, .int r2, .int ((10 : Int) ^ Int.toNat 40 - 1 - r3)])) p (.lst [.int a4, .int b4, .int c4])) p (.lst [.int x5, .int y5, .int z5])) := ((hK.trans (keep_new hl)).trans keep_upd).trans keep_upd
    refine ⟨rfl, _, rfl, ite2 (fun _ => ?_) (fun _ => ?_)⟩
    · exact ⟨_, rfl, _, _, rfl, rfl, k _ _ hK2 ⟨_, _, _, upd_same, h53⟩ (by omega) (by omega)⟩
    · exact ⟨_, rfl, k _ _ hK2 ⟨_, _, _, upd_same, h53⟩ (by omega) hn1⟩
end
end Dc
namespace Kk
open PySem PySem.Spec PyProof.Rows L2 Ox Dc
abbrev sKinds : Stmt := top 22
abbrev sOthers : Stmt := top 23
abbrev sBases : Stmt := top 24
/-- the classes by their numbers -/
structure TxC (K : PySem.W.Frag) (mg : Str → Option Value) (A : Nat → Addr) : Prop where
  g0 : mg "MoveError" = some (.ref (A 0))
  g1 : mg "InvalidMover" = some (.ref (A 1))
  g2 : mg "InvalidReader" = some (.ref (A 2))
  g3 : mg "InvalidStore" = some (.ref (A 3))
  g4 : mg "InvalidOperation" = some (.ref (A 4))
  g5 : mg "ParseError" = some (.ref (A 5))
  g6 : mg "InvalidCommand" = some (.ref (A 6))
  g7 : mg "TornJournal" = some (.ref (A 7))
  g8 : mg "InvalidNumber" = some (.ref (A 8))
  g9 : mg "UnknownName" = some (.ref (A 9))
  g10 : mg "TooMany" = some (.ref (A 10))
  g11 : mg "Waits" = some (.ref (A 11))
  g12 : mg "Unreadable" = some (.ref (A 12))
  g13 : mg "NothingToUndo" = some (.ref (A 13))
  ec : ∀ i, i < 14 → ExcC K (A i)
  isi : mg "isinstance" = none
  nIx : mg "IndexError" = none
  nKey : mg "KeyError" = none
  nOv : mg "OverflowError" = none
  nRt : mg "RuntimeError" = none
  nAr : mg "ArithmeticError" = none
  nLk : mg "LookupError" = none
  nVe : mg "ValueError" = none
abbrev Ans (K : PySem.W.Frag) (D : Addr) : List Value → List Bool → Prop := Paired fun c b => PySem.W.kitOne K (.ref D) c = some b
/-- the answers of isinstance to several classes -/
def spIs (K : PySem.W.Frag) (cs : List Value) : Addr → Value → Option Addr → Sp := fun a cls d vs H Q _ => ∃ (D : Addr), vs = [.ref a] ∧ cls = .ref D ∧ ExcC K D ∧ (∀ dd, d = some dd → ∃ fs, H dd = some (.xd fs)) ∧
  ∃ bs : List Bool, Ans K D cs bs ∧ ∀ (l : Addr) (H' : Hp), Same H H' → H l = none → H' l = some (.lst (bs.map V.bl)) → Q (.ref l) H'
def csK (A : Nat → Addr) : List Value := [.ref (A 1), .ref (A 2), .ref (A 3), .ref (A 4), .ref (A 5), .ref (A 6), .ref (A 7)]
def csO (A : Nat → Addr) : List Value := [.ref (A 8), .ref (A 9), .ref (A 10), .ref (A 11), .ref (A 12), .ref (A 13)]
def csB : List Value := [.type "IndexError", .type "KeyError", .type "OverflowError", .type "RuntimeError", .type "ArithmeticError", .type "LookupError"]
theorem ans_cons {K : PySem.W.Frag} {D : Addr} {c : Value} {cs : List Value} {bs : List Bool} (h : Ans K D (c :: cs) bs) : ∃ b bs', bs = b :: bs' ∧ PySem.W.kitOne K (.ref D) c = some b ∧ Ans K D cs bs' := by
  cases h with | cons a b => exact ⟨_, _, rfl, a, b⟩
theorem ans_nil {K : PySem.W.Frag} {D : Addr} {bs : List Bool} (h : Ans K D [] bs) : bs = [] := by
  cases h; rfl
theorem same_new {H : Hp} {p : Addr} {o : HO} (h : H p = none) : Same H (upd H p o) := fun b u e => by (rw [upd_ne (ne_of_none e h)]; exact e)
section
variable {P : Program} {w : World} {K : PySem.W.Frag} {mg : Str → Option Value} {base : Heap} {A : Nat → Addr}
theorem scK : FnScope ["_law_error", "_law_some"] ["_law_error"] (defScope sKinds) := ⟨rfl, rfl, rfl, by decide +kernel, rfl, by decide +kernel, by decide +kernel⟩
theorem ok_kinds {f : Addr} {fd : FuncData} (F : Fun K "_law_kinds" "_law_kinds" sKinds f fd) (T : TxC K mg A) : FnP P w K mg base CX0 1 f fd ["_law_error"] (spIs K (csK A)) := by
  refine F.okP scK (fun a cls d vs H Q E h => ?_) (fun cdv p cls d hz hf A' outer s H vs Q E hr h => ?_)
  · obtain ⟨D, rfl, _⟩ := h; rfl
  · obtain ⟨D, rfl, rfl, EC, hd, bs, hbs, k⟩ := h; obtain ⟨a, oe⟩ := p; have Z : Zc (.ref D) d oe := hz
    have ci : CallR (L2H.cxH CX0 P w K mg base ["_law_error", "_law_some"] "_law_kinds" (defScope sKinds) f cdv A' outer s H E (a, oe)) (.builtin "isinstance") (rIsP K D a d) := call_isP EC (List.mem_singleton.mpr rfl) Z hf
    refine ⟨_, pss_cons (ps_set (i := 1) scK.nd rfl (Or.inl rfl) (pe_lst (pa_cons (pe_callB ci (by rfl) T.isi PyProof.Rows.boot_isinstance (pa_cons (pv 0) (pa_cons (pe_glob (v := .ref (A 1)) (by rfl) T.g1 rfl) pa_nil)))
        (pa_cons (pe_callB ci (by rfl) T.isi PyProof.Rows.boot_isinstance (pa_cons (pv 0) (pa_cons (pe_glob (v := .ref (A 2)) (by rfl) T.g2 rfl) pa_nil)))
        (pa_cons (pe_callB ci (by rfl) T.isi PyProof.Rows.boot_isinstance (pa_cons (pv 0) (pa_cons (pe_glob (v := .ref (A 3)) (by rfl) T.g3 rfl) pa_nil))) pa_nil)))))
      (pss_cons (ps_set (i := 1) scK.nd rfl (Or.inl rfl) (pe_op op_cat (pv 1) (pe_lst (pa_cons (pe_callB ci (by rfl) T.isi PyProof.Rows.boot_isinstance (pa_cons (pv 0) (pa_cons (pe_glob (v := .ref (A 4)) (by rfl) T.g4 rfl) pa_nil)))
        (pa_cons (pe_callB ci (by rfl) T.isi PyProof.Rows.boot_isinstance (pa_cons (pv 0) (pa_cons (pe_glob (v := .ref (A 5)) (by rfl) T.g5 rfl) pa_nil))) pa_nil)))))
      (pss_one (ps_ret (pe_op op_cat (pv 1) (pe_lst (pa_cons (pe_callB ci (by rfl) T.isi PyProof.Rows.boot_isinstance (pa_cons (pv 0) (pa_cons (pe_glob (v := .ref (A 6)) (by rfl) T.g6 rfl) pa_nil)))
        (pa_cons (pe_callB ci (by rfl) T.isi PyProof.Rows.boot_isinstance (pa_cons (pv 0) (pa_cons (pe_glob (v := .ref (A 7)) (by rfl) T.g7 rfl) pa_nil))) pa_nil))))))), ?_⟩
    unfold csK at hbs
    obtain ⟨c1, bs, rfl, b1, hbs⟩ := ans_cons hbs; obtain ⟨c2, bs, rfl, b2, hbs⟩ := ans_cons hbs; obtain ⟨c3, bs, rfl, b3, hbs⟩ := ans_cons hbs; obtain ⟨c4, bs, rfl, b4, hbs⟩ := ans_cons hbs
    obtain ⟨c5, bs, rfl, b5, hbs⟩ := ans_cons hbs; obtain ⟨c6, bs, rfl, b6, hbs⟩ := ans_cons hbs; obtain ⟨c7, bs, rfl, b7, hbs⟩ := ans_cons hbs; cases ans_nil hbs
    have own : ∀ {c : Addr} (u : Value), RelV (.ref c) u → u = .ref c := fun u r => r
    have hdS : ∀ {H' : Hp}, Same H H' → ∀ dd, d = some dd → ∃ fs, H' dd = some (.xd fs) := fun sm dd e => let ⟨fs, q⟩ := hd dd e; ⟨fs, sm _ _ q⟩
    refine ⟨_, rfl, _, _, _, rfl, own, b1, hd, _, rfl, _, _, _, rfl, own, b2, hd, _, rfl, _, _, _, rfl, own, b3, hd, (by show 3 ≤ sizeLine; decide), fun l1 n1 => ?_⟩
    have s1 : Same H (upd H l1 (HO.lst [V.bl c1, V.bl c2, V.bl c3])) := same_new n1
    refine ⟨_, rfl, _, rfl, _, _, _, rfl, own, b4, hdS s1, _, rfl, _, _, _, rfl, own, b5, hdS s1, (by show 2 ≤ sizeLine; decide), fun l2 n2 => ?_⟩
    have s2 := s1.trans (same_new (o := HO.lst [V.bl c4, V.bl c5]) n2)
    refine ⟨_, _, _, _, rfl, rfl, (upd_ne (ne_of_none upd_same n2)).trans upd_same, upd_same, (by show 5 ≤ sizeLine; decide), fun l3 n3 => ?_⟩
    have s3 := s2.trans (same_new (o := HO.lst ([V.bl c1, V.bl c2, V.bl c3] ++ [V.bl c4, V.bl c5])) n3)
    refine ⟨_, rfl, _, rfl, _, _, _, rfl, own, b6, hdS s3, _, rfl, _, _, _, rfl, own, b7, hdS s3, (by show 2 ≤ sizeLine; decide), fun l4 n4 => ?_⟩
    have s4 := s3.trans (same_new (o := HO.lst [V.bl c6, V.bl c7]) n4)
    refine ⟨_, _, _, _, rfl, rfl, (upd_ne (ne_of_none upd_same n4)).trans upd_same, upd_same, (by show 7 ≤ sizeLine; decide), fun l5 n5 => ?_⟩
    exact k l5 _ (s4.trans (same_new n5)) (s4.free n5) upd_same
theorem scOt : FnScope ["_law_error", "_law_some"] ["_law_error"] (defScope sOthers) := ⟨rfl, rfl, rfl, by decide +kernel, rfl, by decide +kernel, by decide +kernel⟩
theorem ok_others {f : Addr} {fd : FuncData} (F : Fun K "_law_others" "_law_others" sOthers f fd) (T : TxC K mg A) : FnP P w K mg base CX0 1 f fd ["_law_error"] (spIs K (csO A)) := by
  refine F.okP scOt (fun a cls d vs H Q E h => ?_) (fun cdv p cls d hz hf A' outer s H vs Q E hr h => ?_)
  · obtain ⟨D, rfl, _⟩ := h; rfl
  · obtain ⟨D, rfl, rfl, EC, hd, bs, hbs, k⟩ := h; obtain ⟨a, oe⟩ := p; have Z : Zc (.ref D) d oe := hz
    have ci : CallR (L2H.cxH CX0 P w K mg base ["_law_error", "_law_some"] "_law_others" (defScope sOthers) f cdv A' outer s H E (a, oe)) (.builtin "isinstance") (rIsP K D a d) := call_isP EC (List.mem_singleton.mpr rfl) Z hf
    refine ⟨_, pss_cons (ps_set (i := 1) scOt.nd rfl (Or.inl rfl) (pe_lst (pa_cons (pe_callB ci (by rfl) T.isi PyProof.Rows.boot_isinstance (pa_cons (pv 0) (pa_cons (pe_glob (v := .ref (A 8)) (by rfl) T.g8 rfl) pa_nil)))
        (pa_cons (pe_callB ci (by rfl) T.isi PyProof.Rows.boot_isinstance (pa_cons (pv 0) (pa_cons (pe_glob (v := .ref (A 9)) (by rfl) T.g9 rfl) pa_nil)))
        (pa_cons (pe_callB ci (by rfl) T.isi PyProof.Rows.boot_isinstance (pa_cons (pv 0) (pa_cons (pe_glob (v := .ref (A 10)) (by rfl) T.g10 rfl) pa_nil)))
        pa_nil))))) (pss_one (ps_ret (pe_op op_cat (pv 1) (pe_lst (pa_cons (pe_callB ci (by rfl) T.isi PyProof.Rows.boot_isinstance (pa_cons (pv 0) (pa_cons (pe_glob (v := .ref (A 11)) (by rfl) T.g11 rfl) pa_nil)))
        (pa_cons (pe_callB ci (by rfl) T.isi PyProof.Rows.boot_isinstance (pa_cons (pv 0) (pa_cons (pe_glob (v := .ref (A 12)) (by rfl) T.g12 rfl) pa_nil)))
        (pa_cons (pe_callB ci (by rfl) T.isi PyProof.Rows.boot_isinstance (pa_cons (pv 0) (pa_cons (pe_glob (v := .ref (A 13)) (by rfl) T.g13 rfl) pa_nil)))
        pa_nil))))))), ?_⟩
    unfold csO at hbs
    obtain ⟨c1, bs, rfl, b1, hbs⟩ := ans_cons hbs; obtain ⟨c2, bs, rfl, b2, hbs⟩ := ans_cons hbs; obtain ⟨c3, bs, rfl, b3, hbs⟩ := ans_cons hbs; obtain ⟨c4, bs, rfl, b4, hbs⟩ := ans_cons hbs
    obtain ⟨c5, bs, rfl, b5, hbs⟩ := ans_cons hbs; obtain ⟨c6, bs, rfl, b6, hbs⟩ := ans_cons hbs; cases ans_nil hbs
    have own : ∀ {c : Addr} (u : Value), RelV (.ref c) u → u = .ref c := fun u r => r
    have hdS : ∀ {H' : Hp}, Same H H' → ∀ dd, d = some dd → ∃ fs, H' dd = some (.xd fs) := fun sm dd e => let ⟨fs, q⟩ := hd dd e; ⟨fs, sm _ _ q⟩
    refine ⟨_, rfl, _, _, _, rfl, own, b1, hd, _, rfl, _, _, _, rfl, own, b2, hd, _, rfl, _, _, _, rfl, own, b3, hd, (by show 3 ≤ sizeLine; decide), fun l1 n1 => ?_⟩
    have s1 : Same H (upd H l1 (HO.lst [V.bl c1, V.bl c2, V.bl c3])) := same_new n1
    refine ⟨_, rfl, _, rfl, _, _, _, rfl, own, b4, hdS s1, _, rfl, _, _, _, rfl, own, b5, hdS s1, _, rfl, _, _, _, rfl, own, b6, hdS s1, (by show 3 ≤ sizeLine; decide), fun l2 n2 => ?_⟩
    have s2 := s1.trans (same_new (o := HO.lst [V.bl c4, V.bl c5, V.bl c6]) n2)
    refine ⟨_, _, _, _, rfl, rfl, (upd_ne (ne_of_none upd_same n2)).trans upd_same, upd_same, (by show 6 ≤ sizeLine; decide), fun l3 n3 => ?_⟩
    exact k l3 _ (s2.trans (same_new n3)) (s2.free n3) upd_same
theorem scBa : FnScope ["_law_error", "_law_some"] ["_law_error"] (defScope sBases) := ⟨rfl, rfl, rfl, by decide +kernel, rfl, by decide +kernel, by decide +kernel⟩
theorem ok_bases {f : Addr} {fd : FuncData} (F : Fun K "_law_bases" "_law_bases" sBases f fd) (T : TxC K mg A) : FnP P w K mg base CX0 1 f fd ["_law_error"] (spIs K csB) := by
  refine F.okP scBa (fun a cls d vs H Q E h => ?_) (fun cdv p cls d hz hf A' outer s H vs Q E hr h => ?_)
  · obtain ⟨D, rfl, _⟩ := h; rfl
  · obtain ⟨D, rfl, rfl, EC, hd, bs, hbs, k⟩ := h; obtain ⟨a, oe⟩ := p; have Z : Zc (.ref D) d oe := hz
    have ci : CallR (L2H.cxH CX0 P w K mg base ["_law_error", "_law_some"] "_law_bases" (defScope sBases) f cdv A' outer s H E (a, oe)) (.builtin "isinstance") (rIsP K D a d) := call_isP EC (List.mem_singleton.mpr rfl) Z hf
    refine ⟨_, pss_cons (ps_set (i := 1) scBa.nd rfl (Or.inl rfl) (pe_lst (pa_cons (pe_callB ci (by rfl) T.isi PyProof.Rows.boot_isinstance (pa_cons (pv 0) (pa_cons (pe_bltn (v := .ty "IndexError") (by rfl) T.nIx (by decide +kernel) rfl) pa_nil)))
        (pa_cons (pe_callB ci (by rfl) T.isi PyProof.Rows.boot_isinstance (pa_cons (pv 0) (pa_cons (pe_bltn (v := .ty "KeyError") (by rfl) T.nKey (by decide +kernel) rfl) pa_nil)))
        (pa_cons (pe_callB ci (by rfl) T.isi PyProof.Rows.boot_isinstance (pa_cons (pv 0) (pa_cons (pe_bltn (v := .ty "OverflowError") (by rfl) T.nOv (by decide +kernel) rfl) pa_nil)))
        pa_nil))))) (pss_one (ps_ret (pe_op op_cat (pv 1) (pe_lst (pa_cons (pe_callB ci (by rfl) T.isi PyProof.Rows.boot_isinstance (pa_cons (pv 0) (pa_cons (pe_bltn (v := .ty "RuntimeError") (by rfl) T.nRt (by decide +kernel) rfl) pa_nil)))
        (pa_cons (pe_callB ci (by rfl) T.isi PyProof.Rows.boot_isinstance (pa_cons (pv 0) (pa_cons (pe_bltn (v := .ty "ArithmeticError") (by rfl) T.nAr (by decide +kernel) rfl) pa_nil)))
        (pa_cons (pe_callB ci (by rfl) T.isi PyProof.Rows.boot_isinstance (pa_cons (pv 0) (pa_cons (pe_bltn (v := .ty "LookupError") (by rfl) T.nLk (by decide +kernel) rfl) pa_nil)))
        pa_nil))))))), ?_⟩
    unfold csB at hbs
    obtain ⟨c1, bs, rfl, b1, hbs⟩ := ans_cons hbs; obtain ⟨c2, bs, rfl, b2, hbs⟩ := ans_cons hbs; obtain ⟨c3, bs, rfl, b3, hbs⟩ := ans_cons hbs; obtain ⟨c4, bs, rfl, b4, hbs⟩ := ans_cons hbs
    obtain ⟨c5, bs, rfl, b5, hbs⟩ := ans_cons hbs; obtain ⟨c6, bs, rfl, b6, hbs⟩ := ans_cons hbs; cases ans_nil hbs
    have own : ∀ {c : String} (u : Value), RelV (.ty c) u → u = .type c := fun u r => r
    have hdS : ∀ {H' : Hp}, Same H H' → ∀ dd, d = some dd → ∃ fs, H' dd = some (.xd fs) := fun sm dd e => let ⟨fs, q⟩ := hd dd e; ⟨fs, sm _ _ q⟩
    refine ⟨_, rfl, _, _, _, rfl, own, b1, hd, _, rfl, _, _, _, rfl, own, b2, hd, _, rfl, _, _, _, rfl, own, b3, hd, (by show 3 ≤ sizeLine; decide), fun l1 n1 => ?_⟩
    have s1 : Same H (upd H l1 (HO.lst [V.bl c1, V.bl c2, V.bl c3])) := same_new n1
    refine ⟨_, rfl, _, rfl, _, _, _, rfl, own, b4, hdS s1, _, rfl, _, _, _, rfl, own, b5, hdS s1, _, rfl, _, _, _, rfl, own, b6, hdS s1, (by show 3 ≤ sizeLine; decide), fun l2 n2 => ?_⟩
    have s2 := s1.trans (same_new (o := HO.lst [V.bl c4, V.bl c5, V.bl c6]) n2)
    refine ⟨_, _, _, _, rfl, rfl, (upd_ne (ne_of_none upd_same n2)).trans upd_same, upd_same, (by show 6 ≤ sizeLine; decide), fun l3 n3 => ?_⟩
    exact k l3 _ (s2.trans (same_new n3)) (s2.free n3) upd_same
end
end Kk
namespace Kk
open PySem PySem.Spec PyProof.Rows L2 Ox Dc
abbrev sThrown : Stmt := top 25
abbrev sCaught : Stmt := top 26
theorem pmk1N {X : Cx} {C : Addr} {bmB : List Value} {B newId initId : String} {x : Str} {e : Expr} {ta : TE} {p pos : Pos} (F : ExcBaseFacts B newId initId bmB) (q : PySem.W.excIn X.K C bmB newId = true) (gC : X.mg x = some (.ref C)) (kC : PySem.W.keepIn X.K (.ref C) = true) (r : Raises X (.ref C)) (hg : Gl X x)
    (he : PE X e ta) (hs : starEach [e] X.env = (false, eval e X.env) :: starEach [] X.env := by rfl) (hdb : (x == ("__debug__" : Str)) = false := by decide) : L2N.PMk X (.Call (.Name x p) [e] [] pos) (fun σ H Q => ta σ H fun _ H1 => Q (.ref C) none H1) := by
  intro pins s σ H Q I h; refine wpAny_Call_Name_kw (ld_glob I hg gC ?_ hdb); refine PySem.W.callWith_K (h₀ := X.base) I.ok.mod.kin kC ?_ hs (by rfl); rw [hs]
  show wpAny _ _ (spliced ((false, eval e X.env) :: backTo pos (starEach [] X.env))) _ _ s; refine Calls.spliced_cons (thn (he.run pins s σ H _ I h) fun u s1 ⟨v, H1, I1, r1, q1⟩ => ?_)
  refine Calls.spliced_nil ⟨I1.kIn, ?_⟩; show wpAny _ _ (call (.ref C) [u]) _ _ _; obtain ⟨bm, N, nm, qn, bs, hdct, sn, sub, ab, col, dd, k0, k1, k2, k3, k5, mN, hC, hN, hni, T⟩ := exc_obj I1.kIn q
  refine wpAny_call_exc_subT F T hC hN hni (fun h' e hm => ?_) (by (show 1 ≤ sizeLine; rw [sizeLine_eq]; omega)); exact L2N.mk_of I1 hm r q1 (I1.hok.gone hm.new)
theorem takesN0 {X : Cx} : L2N.Takes X (fun _ _ _ _ => False) := fun _ _ x => by
  obtain ⟨_, _, _, _, _, _, _, _, _, _, _, _, _, _, _, _, z⟩ := x; exact z.elim
abbrev bVe : List Value := [.type "ValueError", .type "Exception", .type "BaseException", .type "object"]
/-- the classes over MoveError, and MoveError itself -/
structure TxV (K : PySem.W.Frag) (mg : Str → Option Value) (A : Nat → Addr) : Prop extends TxC K mg A where
  xP : ∀ i, i < 8 → PySem.W.excIn K (A i) bVe "ValueError.__new__" = true
  kP : ∀ i, i < 14 → PySem.W.keepIn K (.ref (A i)) = true
  bP : ∀ i, i < 14 → PySem.W.subIn K (.ref (A i)) (.type "BaseException") = some true
  tP : ∀ i, i < 14 → PySem.W.typeIn K (.ref (A i)) = some (.type "type")
  range : mg "range" = none
  -- what is raised is taken
  em : ∀ i, i < 8 → PySem.W.exmOne K (.ref (A i)) (.ref (A 0)) = some true
  kd : ∀ i, i < 14 → Ans K (A i) (csK A) ((List.range 7).map fun j => decide (i = j + 1))
  ot : ∀ i, i < 14 → Ans K (A i) (csO A) ((List.range 6).map fun j => decide (i = j + 8))
  bs : ∀ i, i < 8 → Ans K (A i) csB [false, false, false, false, false, false]
  ve : ∀ i, i < 8 → PySem.W.kitOne K (.ref (A i)) (.type "ValueError") = some true
def clsOf (n : Nat) : Nat := if n < 7 then n + 1 else 0
def spThrown (A : Nat → Addr) : Sp := fun vs H Q E => ∃ (n : Nat) (v : V), n < 8 ∧ vs = [.int (n : Int), v] ∧ E (.ref (A (clsOf n))) none H
section
variable {P : Program} {w : World} {K : PySem.W.Frag} {mg : Str → Option Value} {base : Heap} {A : Nat → Addr}
theorem scTh : FnScope ["_law_number_here", "_law_word"] ["_law_number_here", "_law_word"] (defScope sThrown) := ⟨rfl, rfl, rfl, by decide +kernel, rfl, by decide +kernel, by decide +kernel⟩
theorem eqN {n : Nat} {m : Int} : decide (V.int (n : Int) = V.int m) = decide ((n : Int) = m) := by
  by_cases h : (n : Int) = m
  · rw [h]; simp
  · rw [decide_eq_false h, decide_eq_false fun e => h (V.int.inj e)]
theorem _root_.L2.Fun.okN {x qual : Str} {st : Stmt} {f : Addr} {fd : FuncData} {N ps : List Str} {k : Nat} {sp : Sp} (F : Fun K x qual st f fd) (S : FnScope N ps (defScope st)) (len : ∀ vs H Q E, sp vs H Q E → vs.length = ps.length)
    (hbody : ∀ (cdv : Value) (A : Around) (outer : List Env) (s : Shared) (H : Hp) (vs : List V) (Q : VK) (E : XK), Room k (A.deeper (envOfC qual (defScope st) s.heap.objs.size f cdv)) → sp vs H Q E →
      ∃ t, PSs (cxOf (L2N.CX P w) P w K mg base N qual (defScope st) f cdv A outer s H E) (defBody st) t ∧ t { nx := fun _ H' => Q .non H', rt := Q } (start N vs) H) : FnOk P w K mg base (L2N.CX P w) (k + 1) f fd ps sp := by
  obtain ⟨oc, od, kV, doc, pm, an, cdv, ct, osl, rfl, lk, hcd⟩ := F.ex
  exact fn_of lk hcd S len fun A outer s H vs Q E hr hsp => hbody cdv A outer s H vs Q E hr hsp
theorem ok_thrown {f : Addr} {fd : FuncData} (F : Fun K "_law_thrown" "_law_thrown" sThrown f fd) (T : TxV K mg A) : FnOk P w K mg base (L2N.CX P w) 2 f fd ["_law_number_here", "_law_word"] (spThrown A) := by
  refine F.okN scTh (fun vs H Q E h => ?_) (fun cdv A' outer s H vs Q E hr h => ?_)
  · obtain ⟨n, v, _, rfl, _⟩ := h; rfl
  · obtain ⟨n, v, hn, rfl, hE⟩ := h
    refine ⟨_, pss_cons (ps_if (pt_cmpR op_eq (pv 0) pe_int (nomark _)) (pss_one (L2N.ps_raise rfl (L2N.takes_of rfl rfl rfl rfl) (pmk1N PySem.F.excBase_ValueError (T.xP 1 (by decide)) T.g1 (T.kP 1 (by decide)) (raises_own (T.bP 1 (by decide)) (T.tP 1 (by decide))) (by rfl) (pv 1)))) pss_nil)
      (pss_cons (ps_if (pt_cmpR op_eq (pv 0) pe_int (nomark _)) (pss_one (L2N.ps_raise rfl (L2N.takes_of rfl rfl rfl rfl) (pmk1N PySem.F.excBase_ValueError (T.xP 2 (by decide)) T.g2 (T.kP 2 (by decide)) (raises_own (T.bP 2 (by decide)) (T.tP 2 (by decide))) (by rfl) (pv 1)))) pss_nil)
      (pss_cons (ps_if (pt_cmpR op_eq (pv 0) pe_int (nomark _)) (pss_one (L2N.ps_raise rfl (L2N.takes_of rfl rfl rfl rfl) (pmk1N PySem.F.excBase_ValueError (T.xP 3 (by decide)) T.g3 (T.kP 3 (by decide)) (raises_own (T.bP 3 (by decide)) (T.tP 3 (by decide))) (by rfl) (pv 1)))) pss_nil)
      (pss_cons (ps_if (pt_cmpR op_eq (pv 0) pe_int (nomark _)) (pss_one (L2N.ps_raise rfl (L2N.takes_of rfl rfl rfl rfl) (pmk1N PySem.F.excBase_ValueError (T.xP 4 (by decide)) T.g4 (T.kP 4 (by decide)) (raises_own (T.bP 4 (by decide)) (T.tP 4 (by decide))) (by rfl) (pv 1)))) pss_nil)
      (pss_cons (ps_if (pt_cmpR op_eq (pv 0) pe_int (nomark _)) (pss_one (L2N.ps_raise rfl (L2N.takes_of rfl rfl rfl rfl) (pmk1N PySem.F.excBase_ValueError (T.xP 5 (by decide)) T.g5 (T.kP 5 (by decide)) (raises_own (T.bP 5 (by decide)) (T.tP 5 (by decide))) (by rfl) (pv 1)))) pss_nil)
      (pss_cons (ps_if (pt_cmpR op_eq (pv 0) pe_int (nomark _)) (pss_one (L2N.ps_raise rfl (L2N.takes_of rfl rfl rfl rfl) (pmk1N PySem.F.excBase_ValueError (T.xP 6 (by decide)) T.g6 (T.kP 6 (by decide)) (raises_own (T.bP 6 (by decide)) (T.tP 6 (by decide))) (by rfl) (pv 1)))) pss_nil)
      (pss_cons (ps_if (pt_cmpR op_eq (pv 0) pe_int (nomark _)) (pss_one (L2N.ps_raise rfl (L2N.takes_of rfl rfl rfl rfl) (pmk1N PySem.F.excBase_ValueError (T.xP 7 (by decide)) T.g7 (T.kP 7 (by decide)) (raises_own (T.bP 7 (by decide)) (T.tP 7 (by decide))) (by rfl) (pv 1)))) pss_nil)
      (pss_one (L2N.ps_raise rfl (L2N.takes_of rfl rfl rfl rfl) (pmk1N PySem.F.excBase_ValueError (T.xP 0 (by decide)) T.g0 (T.kP 0 (by decide)) (raises_own (T.bP 0 (by decide)) (T.tP 0 (by decide))) (by rfl) (pv 1)))))))))), ?_⟩
    have go : ∀ (m : Nat) {B C : Prop}, (n = m → B) → (n ≠ m → C) → (if decide (V.int (n : Int) = V.int (m : Int)) = true then B else C) := fun m B C h1 h2 => by
      rw [eqN]; by_cases h : n = m
      · rw [if_pos (by rw [h]; simp)]; exact h1 h
      · rw [if_neg (by simp; omega)]; exact h2 h
    refine ⟨_, rfl, rfl, _, rfl, go 0 (fun e => ⟨_, rfl, by rw [e] at hE; exact hE⟩) fun e0 => ?_⟩
    refine ⟨_, rfl, rfl, _, rfl, go 1 (fun e => ⟨_, rfl, by rw [e] at hE; exact hE⟩) fun e1 => ?_⟩
    refine ⟨_, rfl, rfl, _, rfl, go 2 (fun e => ⟨_, rfl, by rw [e] at hE; exact hE⟩) fun e2 => ?_⟩
    refine ⟨_, rfl, rfl, _, rfl, go 3 (fun e => ⟨_, rfl, by rw [e] at hE; exact hE⟩) fun e3 => ?_⟩
    refine ⟨_, rfl, rfl, _, rfl, go 4 (fun e => ⟨_, rfl, by rw [e] at hE; exact hE⟩) fun e4 => ?_⟩
    refine ⟨_, rfl, rfl, _, rfl, go 5 (fun e => ⟨_, rfl, by rw [e] at hE; exact hE⟩) fun e5 => ?_⟩
    refine ⟨_, rfl, rfl, _, rfl, go 6 (fun e => ⟨_, rfl, by rw [e] at hE; exact hE⟩) fun e6 => ?_⟩
    have e7 : n = 7 := by omega
    exact ⟨_, rfl, by rw [e7] at hE; exact hE⟩
end
end Kk
namespace Kk
open PySem PySem.Spec PyProof.Rows L2 Ox Dc
/-- the three helpers, and thrown -/
structure TxH (K : PySem.W.Frag) (mg : Str → Option Value) (A : Nat → Addr) (P : Program) (w : World) (base : Heap) : Prop extends TxV K mg A where
  kinds : ∃ f fd, mg "_law_kinds" = some (.ref f) ∧ PySem.W.keepIn K (.ref f) = true ∧ Binds K fd ["_law_error"] [] ∧ FnP P w K mg base CX0 1 f fd ["_law_error"] (spIs K (csK A))
  others : ∃ f fd, mg "_law_others" = some (.ref f) ∧ PySem.W.keepIn K (.ref f) = true ∧ Binds K fd ["_law_error"] [] ∧ FnP P w K mg base CX0 1 f fd ["_law_error"] (spIs K (csO A))
  bases : ∃ f fd, mg "_law_bases" = some (.ref f) ∧ PySem.W.keepIn K (.ref f) = true ∧ Binds K fd ["_law_error"] [] ∧ FnP P w K mg base CX0 1 f fd ["_law_error"] (spIs K csB)
  thrown : ∃ f fd, mg "_law_thrown" = some (.ref f) ∧ PySem.W.keepIn K (.ref f) = true ∧ Binds K fd ["_law_number_here", "_law_word"] [] ∧ FnOk P w K mg base (L2N.CX P w) 2 f fd ["_law_number_here", "_law_word"] (spThrown A)
def spCaught : Sp := fun vs H Q _ => ∃ (n : Nat) (v : V), n < 8 ∧ vs = [.int (n : Int), v] ∧ ∀ H', Same H H' → Q (.bl true) H'
theorem hot_suite {X : Cx} {a : Addr} {oe : Obj} {cls : Value} {d : Option Addr} {pn : List (Addr × Obj)} (hz : L2N.Zn cls d oe) (hf : ∃ vs, oe.data = .fields vs) : L2H.HotC (X.suite a ((a, oe) :: pn)) := by
  obtain ⟨vs, e⟩ := hf
  exact ⟨(a, oe), ⟨rfl, vs, e, hz.2.2 vs e⟩, List.mem_cons_self⟩
theorem roomH_suite {X : Cx} {a : Addr} {pn : List (Addr × Obj)} {k : Nat} (r : Room k X.A) : L2H.RoomH k (X.suite a pn).A := ⟨r.dp, r.un⟩
section
variable {P : Program} {w : World} {K : PySem.W.Frag} {mg : Str → Option Value} {base : Heap} {A : Nat → Addr}
theorem scC : FnScope ["_law_number_here", "_law_word", "e", "_law_due", "_law_spot"] ["_law_number_here", "_law_word"] (defScope sCaught) := ⟨rfl, rfl, rfl, by decide +kernel, rfl, by decide +kernel, by decide +kernel⟩
theorem dp_bools {H : Hp} : ∀ bs : List Bool, DpAll K H (bs.map V.bl) (bs.map PyData.bool)
  | [] => .nil
  | b :: bs => .cons (.bl b) (dp_bools bs)
theorem due_kinds : ∀ n, n < 8 → (List.range 7).map (fun j => decide (clsOf n = j + 1)) = (List.range 7).map (fun j => decide (n = j)) := by decide
theorem due_others : ∀ n, n < 8 → (List.range 6).map (fun j => decide (clsOf n = j + 8)) = [false, false, false, false, false, false] := by decide
theorem cls_lt : ∀ n, n < 8 → clsOf n < 8 := by decide
def tSuC (K : PySem.W.Frag) (A : Nat → Addr) : Addr → Value → Option Addr → TS := fun a cls d =>
  tSeq (tAsg (tLc (iRng1 (tCons (tC (.int 7)) tNil)) (gName 4) tYes (tOp rEq (tVar 4) (tVar 0)) [4]) (gName 3))
    (tRet (tAndV (tOp (rEqD K) (tCallP (spIs K (csK A)) a cls d (tCons (tVar 2) tNil)) (tVar 3)) (tAndV (tCB (rIsX K cls a d) (tCons (tVar 2) (tCons (tC (.ty "ValueError")) tNil)))
      (tOp (rIn K true) (tC (.bl true)) (tOp rCat (tCallP (spIs K (csO A)) a cls d (tCons (tVar 2) tNil)) (tCallP (spIs K csB) a cls d (tCons (tVar 2) tNil)))))))
theorem ok_caught {f : Addr} {fd : FuncData} (F : Fun K "_law_caught" "_law_caught" sCaught f fd) (T : TxH K mg A P w base) : FnOk P w K mg base CX0 3 f fd ["_law_number_here", "_law_word"] spCaught := by
  obtain ⟨fK, fdK, mK, kK, bK, GK⟩ := T.kinds; obtain ⟨fO, fdO, mO, kO, bO, GO⟩ := T.others; obtain ⟨fB, fdB, mB, kB, bB, GB⟩ := T.bases; obtain ⟨fT, fdT, mT, kT, bT, GT⟩ := T.thrown
  refine F.ok scC (fun vs H Q E h => ?_) (fun cdv A' outer s H vs Q E hr h => ?_)
  · obtain ⟨n, v, _, rfl, _⟩ := h; rfl
  · obtain ⟨n, v, hn, rfl, k⟩ := h
    have hr1 : Room 1 _ := hr.mono (by decide)
    have hu := hr.units
    refine ⟨_, pss_cons (L2N.ps_try_as (i := 2) (tb := fun W => tDrop (tCallS (spThrown A) (WE W) (tCons (tVar 0) (tCons (tVar 1) tNil)))) (ts := tSuC K A) (Wout := fun _ _ _ _ => False) rfl rfl scC.nd rfl rfl ⟨rfl, by decide, .inl T.g0⟩ takesN0
        (fun W pn xe tk _ => pss_one (ps_expr (by exact (pe_callS GT hr (by rfl) mT kT bT (fun σ => L2N.passAt tk σ) (by exact (pa_cons (pv 0) (pa_cons (pv 1) pa_nil)))))))
        (fun a oe cls d pn hz hf => pss_cons (ps_setLcH (i := 3) (own := [("_law_spot", 4)]) (g := gName 4) (tt := tYes) (hot_suite hz hf) scC.nd rfl rfl (sw_true rfl rfl rfl (by decide +kernel)) (L2H.pi_range1H (by rfl) T.range (by exact (pa_cons pe_int pa_nil)))
            (blkOk_by (N := ["_law_number_here", "_law_word", "e", "_law_due", "_law_spot"]) (sc := defScope sCaught) (by decide +kernel)) (fun _ _ _ _ _ => pg_name (i := 4) scC.nd rfl (Or.inl rfl)) (fun _ _ _ _ _ => pts_nil)
            (fun _ _ _ _ _ => by exact (pe_cmpR op_eq (pv 4) (pv 0) (nomark _))))
          (pss_one (ps_ret (by exact (pe_and (pe_cmpR (op_eqD hu) (pe_callP (pn := (a, oe)) hz.zc hf GK (roomH_suite hr1) List.mem_cons_self (by rfl) mK kK bK (by exact (pa_cons (pv 2) pa_nil))) (pv 3) (nomark _))
            (pe_and (pe_callB (call_isX List.mem_cons_self hz.zc hf) (by rfl) T.isi PyProof.Rows.boot_isinstance (by exact (pa_cons (pv 2) (pa_cons (pe_bltn (v := .ty "ValueError") (by rfl) T.nVe (by decide +kernel) rfl) pa_nil))))
            (pe_one (pe_cmpR op_notIn_seq pe_bl (pe_op op_cat (pe_callP (pn := (a, oe)) hz.zc hf GO (roomH_suite hr1) List.mem_cons_self (by rfl) mO kO bO (by exact (pa_cons (pv 2) pa_nil))) (pe_callP (pn := (a, oe)) hz.zc hf GB (roomH_suite hr1) List.mem_cons_self (by rfl) mB kB bB (by exact (pa_cons (pv 2) pa_nil)))) (by rfl))))))))))
      (pss_one (ps_ret pe_bl)), ?_⟩
    have hc := cls_lt n hn; have hc14 : clsOf n < 14 := by omega
    have noD : ∀ {H' : Hp} dd, (none : Option Addr) = some dd → ∃ fs, H' dd = some (.xd fs) := fun dd e => nomatch e
    refine ⟨_, rfl, _, rfl, n, v, hn, rfl, true, T.em _ hc, fun _ a ha => ?_, fun q => nomatch q⟩
    refine ⟨7, rfl, by decide, by decide, fun D hD => ?_⟩
    refine lc_range (n := 7) (fun i H' => H' D = some (.lst (((List.range i).map fun j => decide (n = j)).map V.bl)) ∧ Same H H') ⟨upd_same, same_new hD⟩ ?_ ?_
    · rintro i H' hi ⟨h1, h2⟩
      refine ⟨rfl, tt_yes ?_⟩
      refine ⟨_, rfl, _, rfl, rfl, _, h1, by rw [List.length_map, List.length_map, List.length_range]; exact Nat.lt_of_lt_of_le hi (by decide), ?_, fun b o e => ?_⟩
      · rw [upd_same, List.range_succ, List.map_append, List.map_append]
        have e : decide (V.int (0 + (i : Int)) = V.int (n : Int)) = decide (n = i) := by
          by_cases q : n = i
          · rw [decide_eq_true q, decide_eq_true (by rw [q]; simp)]
          · rw [decide_eq_false q, decide_eq_false fun z => q (by have := V.int.inj z; omega)]
        rw [e]; rfl
      · rw [upd_ne (ne_of_none e hD)]; exact h2 _ _ e
    · rintro H1 ⟨h1, h2⟩
      refine ⟨_, rfl, A (clsOf n), rfl, rfl, T.ec _ hc14, noD, _, T.kd _ hc14, fun l H2 s2 nl hl => ?_⟩
      have h3 := s2 _ _ h1
      refine ⟨_, rfl, _, _, .lst (SqL.of hl) (dp_bools _), .lst (SqL.of h3) (dp_bools _), rfl, rfl, _, rfl, ?_⟩
      rw [due_kinds n hn, SeqAt.eqv_refl _ (by rfl)]
      refine iteT ?_
      refine ⟨_, rfl, A (clsOf n), rfl, T.ec _ hc14, _, _, true, rfl, fun u r => r, T.ve _ hc, noD, _, rfl, iteT ?_⟩
      refine ⟨_, rfl, A (clsOf n), rfl, rfl, T.ec _ hc14, noD, _, T.ot _ hc14, fun l4 H4 s4 nl4 hl4 => ?_⟩
      refine ⟨_, rfl, A (clsOf n), rfl, rfl, T.ec _ hc14, noD, _, T.bs _ hc, fun l5 H5 s5 nl5 hl5 => ?_⟩
      rw [due_others n hn] at hl4
      refine ⟨l4, l5, _, _, rfl, rfl, s5 _ _ hl4, hl5, (by show 12 ≤ sizeLine; decide), fun l6 n6 => ?_⟩
      refine ⟨l6, _, rfl, .inl (SqL.of upd_same), rfl, rfl, ?_⟩
      exact k _ (((h2.trans s2).trans s4).trans s5 |>.trans (same_new n6))
end
end Kk
namespace Kk
open PySem PySem.Spec PyProof.Rows L2 Ox Dc
abbrev sHurled : Stmt := top 27
abbrev sKept : Stmt := top 28
def rowOf (n : Nat) : List Nat := match n with | 0 => [0, 5] | 1 => [1, 5] | 2 => [2, 4] | 3 => [3] | 4 => [4] | _ => [5]
def basesOf (n : Nat) : List Bool := (List.range 6).map fun j => decide (j ∈ rowOf n)
/-- the classes with a field of their own -/
structure TxO (K : PySem.W.Frag) (mg : Str → Option Value) (A J : Nat → Addr) : Prop extends TxV K mg A where
  o0 : PySem.Mk0.OTxt K (A 8) (J 0) "value" "InvalidNumber.__init__" "IndexError" "IndexError.__new__" PySem.Mk0.bIx
  o1 : PySem.Mk0.OTxt K (A 9) (J 1) "name" "UnknownName.__init__" "LookupError" "LookupError.__new__" PySem.Mk0.bKey
  o2 : PySem.Mk0.OTxt K (A 10) (J 2) "limit" "TooMany.__init__" "OverflowError" "OverflowError.__new__" PySem.Mk0.bOv
  o3 : PySem.Mk0.OTxt K (A 11) (J 3) "readers" "Waits.__init__" "RuntimeError" "RuntimeError.__new__" PySem.Mk0.bRt
  o4 : PySem.Mk0.OTxt K (A 12) (J 4) "paper" "Unreadable.__init__" "ArithmeticError" "ArithmeticError.__new__" PySem.Mk0.bAr
  o5 : PySem.Mk0.OTxt K (A 13) (J 5) "many" "NothingToUndo.__init__" "LookupError" "LookupError.__new__" PySem.Mk0.bLk
  em2 : ∀ n, n < 6 → ∀ i, i < 6 → PySem.W.exmOne K (.ref (A (n + 8))) (.ref (A (i + 8))) = some (decide (n = i))
  bs2 : ∀ n, n < 6 → Ans K (A (n + 8)) csB (basesOf n)
  mv : ∀ n, n < 6 → PySem.W.kitOne K (.ref (A (n + 8))) (.ref (A 0)) = some false
theorem xfc {K : PySem.W.Frag} {C fI : Addr} {f qual : Str} {B newId : String} {bm : List Value} (T : PySem.Mk0.OTxt K C fI f qual B newId bm) : XfC K C := ⟨T.ga, T.gg, T.exC, T.hdC⟩
def fName (n : Nat) : Str := match n with | 0 => "value" | 1 => "name" | 2 => "limit" | 3 => "readers" | 4 => "paper" | _ => "many"
def spHurled (A : Nat → Addr) : Sp := fun vs H Q E => ∃ (n : Nat) (v : V), n < 6 ∧ vs = [.int (n : Int), v] ∧ ∀ d, H d = none → E (.ref (A (n + 8))) (some d) (upd H d (.xd [(fName n, v)]))
section
variable {P : Program} {w : World} {K : PySem.W.Frag} {mg : Str → Option Value} {base : Heap} {A J : Nat → Addr}
theorem scH : FnScope ["_law_number_here", "_law_told"] ["_law_number_here", "_law_told"] (defScope sHurled) := ⟨rfl, rfl, rfl, by decide +kernel, rfl, by decide +kernel, by decide +kernel⟩
theorem goN {n : Nat} (m : Nat) {B C : Prop} (h1 : n = m → B) (h2 : n ≠ m → C) : (if decide (V.int (n : Int) = V.int (m : Int)) = true then B else C) := by
  rw [eqN]; by_cases h : n = m
  · rw [if_pos (by rw [h]; simp)]; exact h1 h
  · rw [if_neg (by simp; omega)]; exact h2 h
theorem ok_hurled {f : Addr} {fd : FuncData} (F : Fun K "_law_hurled" "_law_hurled" sHurled f fd) (T : TxO K mg A J) : FnOk P w K mg base (L2N.CX P w) 3 f fd ["_law_number_here", "_law_told"] (spHurled A) := by
  refine F.okN scH (fun vs H Q E h => ?_) (fun cdv A' outer s H vs Q E hr h => ?_)
  · obtain ⟨n, v, _, rfl, _⟩ := h; rfl
  · obtain ⟨n, v, hn, rfl, hE⟩ := h
    refine ⟨_, pss_cons (ps_if (pt_cmpR op_eq (pv 0) pe_int (nomark _)) (pss_one (L2N.ps_raise rfl (L2N.takes_of rfl rfl rfl rfl) (pmk_oi T.o0 T.g8 hr (pa_cons (pv 1) pa_nil)))) pss_nil)
      (pss_cons (ps_if (pt_cmpR op_eq (pv 0) pe_int (nomark _)) (pss_one (L2N.ps_raise rfl (L2N.takes_of rfl rfl rfl rfl) (pmk_oi T.o1 T.g9 hr (pa_cons (pv 1) pa_nil)))) pss_nil)
      (pss_cons (ps_if (pt_cmpR op_eq (pv 0) pe_int (nomark _)) (pss_one (L2N.ps_raise rfl (L2N.takes_of rfl rfl rfl rfl) (pmk_oi T.o2 T.g10 hr (pa_cons (pv 1) pa_nil)))) pss_nil)
      (pss_cons (ps_if (pt_cmpR op_eq (pv 0) pe_int (nomark _)) (pss_one (L2N.ps_raise rfl (L2N.takes_of rfl rfl rfl rfl) (pmk_oi T.o3 T.g11 hr (pa_cons (pv 1) pa_nil)))) pss_nil)
      (pss_cons (ps_if (pt_cmpR op_eq (pv 0) pe_int (nomark _)) (pss_one (L2N.ps_raise rfl (L2N.takes_of rfl rfl rfl rfl) (pmk_oi T.o4 T.g12 hr (pa_cons (pv 1) pa_nil)))) pss_nil)
      (pss_one (L2N.ps_raise rfl (L2N.takes_of rfl rfl rfl rfl) (pmk_oi T.o5 T.g13 hr (pa_cons (pv 1) pa_nil)))))))), ?_⟩
    have go : ∀ (m : Nat) {B C : Prop}, (n = m → B) → (n ≠ m → C) → (if decide (V.int (n : Int) = V.int (m : Int)) = true then B else C) := fun m B C h1 h2 => goN m h1 h2
    refine ⟨_, rfl, rfl, _, rfl, go 0 (fun e => ⟨_, rfl, _, rfl, fun d hd => by subst e; exact hE d hd⟩) fun e0 => ?_⟩
    refine ⟨_, rfl, rfl, _, rfl, go 1 (fun e => ⟨_, rfl, _, rfl, fun d hd => by subst e; exact hE d hd⟩) fun e1 => ?_⟩
    refine ⟨_, rfl, rfl, _, rfl, go 2 (fun e => ⟨_, rfl, _, rfl, fun d hd => by subst e; exact hE d hd⟩) fun e2 => ?_⟩
    refine ⟨_, rfl, rfl, _, rfl, go 3 (fun e => ⟨_, rfl, _, rfl, fun d hd => by subst e; exact hE d hd⟩) fun e3 => ?_⟩
    refine ⟨_, rfl, rfl, _, rfl, go 4 (fun e => ⟨_, rfl, _, rfl, fun d hd => by subst e; exact hE d hd⟩) fun e4 => ?_⟩
    have e5 : n = 5 := by omega
    subst e5; exact ⟨_, rfl, _, rfl, fun d hd => hE d hd⟩
structure TxK (K : PySem.W.Frag) (mg : Str → Option Value) (A J : Nat → Addr) (P : Program) (w : World) (base : Heap) : Prop extends TxO K mg A J where
  kinds : ∃ f fd, mg "_law_kinds" = some (.ref f) ∧ PySem.W.keepIn K (.ref f) = true ∧ Binds K fd ["_law_error"] [] ∧ FnP P w K mg base CX0 1 f fd ["_law_error"] (spIs K (csK A))
  others : ∃ f fd, mg "_law_others" = some (.ref f) ∧ PySem.W.keepIn K (.ref f) = true ∧ Binds K fd ["_law_error"] [] ∧ FnP P w K mg base CX0 1 f fd ["_law_error"] (spIs K (csO A))
  bases : ∃ f fd, mg "_law_bases" = some (.ref f) ∧ PySem.W.keepIn K (.ref f) = true ∧ Binds K fd ["_law_error"] [] ∧ FnP P w K mg base CX0 1 f fd ["_law_error"] (spIs K csB)
  hurled : ∃ f fd, mg "_law_hurled" = some (.ref f) ∧ PySem.W.keepIn K (.ref f) = true ∧ Binds K fd ["_law_number_here", "_law_told"] [] ∧ FnOk P w K mg base (L2N.CX P w) 3 f fd ["_law_number_here", "_law_told"] (spHurled A)
def bNo7 : List Bool := [false, false, false, false, false, false, false]
def spKept : Sp := fun vs H Q _ => ∃ (n : Nat) (v : V), n < 6 ∧ vs = [.int (n : Int), v] ∧ ∀ (t l1 l2 l3 : Addr) (H' : Hp), Same H H' → H' t = some (.tup [.int (n : Int), v, .ref l1, .ref l2, .ref l3, .bl false]) → H' l1 = some (.lst (bNo7.map V.bl)) →
  H' l2 = some (.lst (((List.range 6).map fun j => decide (n = j)).map V.bl)) → H' l3 = some (.lst ((basesOf n).map V.bl)) → Q (.ref t) H'
def tS (n : Nat) (K : PySem.W.Frag) (A : Nat → Addr) : Addr → Value → Option Addr → TS := fun a cls d => tRet (tTup (tCons (tC (.int (n : Int))) (tCons (tXf a cls d (A (n + 8)) (fName n) (tVar 2)) (tCons (tCallP (spIs K (csK A)) a cls d (tCons (tVar 2) tNil))
  (tCons (tCallP (spIs K (csO A)) a cls d (tCons (tVar 2) tNil)) (tCons (tCallP (spIs K csB) a cls d (tCons (tVar 2) tNil)) (tCons (tCB (rIsX K cls a d) (tCons (tVar 2) (tCons (tC (.ref (A 0))) tNil))) tNil)))))))
theorem due_k7 : ∀ n, n < 6 → (List.range 7).map (fun j => decide (n + 8 = j + 1)) = bNo7 := by decide
theorem due_o6 : ∀ n, n < 6 → (List.range 6).map (fun j => decide (n + 8 = j + 8)) = (List.range 6).map (fun j => decide (n = j)) := by decide
theorem kept_suite (T : TxO K mg A J) {n : Nat} (hn : n < 6) {v : V} {a d : Addr} {H : Hp} {Q : VK} {D : Ends} (hD : D.rt = Q) (hd : H d = none)
    (k : ∀ (t l1 l2 l3 : Addr) (H' : Hp), Same H H' → H' t = some (.tup [.int (n : Int), v, .ref l1, .ref l2, .ref l3, .bl false]) → H' l1 = some (.lst (bNo7.map V.bl)) → H' l2 = some (.lst (((List.range 6).map fun j => decide (n = j)).map V.bl)) → H' l3 = some (.lst ((basesOf n).map V.bl)) → Q (.ref t) H') :
    tS n K A a (.ref (A (n + 8))) (some d) (gone 2 D) [some (.int (n : Int)), some v, some (.ref a)] (upd H d (.xd [(fName n, v)])) := by
  have hn14 : n + 8 < 14 := by omega
  have s0 : Same H (upd H d (.xd [(fName n, v)])) := same_new hd
  have hX : upd H d (.xd [(fName n, v)]) d = some (.xd [(fName n, v)]) := upd_same
  generalize upd H d (.xd [(fName n, v)]) = H0 at s0 hX ⊢
  have ex : ∀ {H' : Hp}, Same H0 H' → ∀ dd, some d = some dd → ∃ fs, H' dd = some (.xd fs) := fun sm dd e => by cases e; exact ⟨_, sm _ _ hX⟩
  have lk : List.lookup (fName n) [(fName n, v)] = some v := by simp [List.lookup]
  have hk := T.kd _ hn14; have ho := T.ot _ hn14; rw [due_k7 n hn] at hk; rw [due_o6 n hn] at ho
  refine ⟨_, rfl, rfl, rfl, d, _, v, rfl, hX, lk, _, rfl, A (n + 8), rfl, rfl, T.ec _ hn14, ex (Same.refl _), _, hk, fun l1 H1 s1 n1 h1 => ?_⟩
  refine ⟨_, rfl, A (n + 8), rfl, rfl, T.ec _ hn14, ex s1, _, ho, fun l2 H2 s2 n2 h2 => ?_⟩
  refine ⟨_, rfl, A (n + 8), rfl, rfl, T.ec _ hn14, ex (s1.trans s2), _, T.bs2 n hn, fun l3 H3 s3 n3 h3 => ?_⟩
  have s03 := (s1.trans s2).trans s3
  refine ⟨_, rfl, A (n + 8), rfl, T.ec _ hn14, .ref (A 0), .ref (A 0), false, rfl, fun u r => r, T.mv n hn, ex s03, (by show 6 ≤ sizeLine; decide), fun t ht => ?_⟩
  have st := same_new (o := HO.tup [.int (n : Int), v, .ref l1, .ref l2, .ref l3, .bl false]) ht
  show D.rt _ _
  rw [hD]
  exact k t l1 l2 l3 _ ((s0.trans s03).trans st) upd_same (st _ _ ((s2.trans s3) _ _ h1)) (st _ _ (s3 _ _ h2)) (st _ _ h3)
theorem scKe : FnScope ["_law_number_here", "_law_told", "e"] ["_law_number_here", "_law_told"] (defScope sKept) := ⟨rfl, rfl, rfl, by decide +kernel, rfl, by decide +kernel, by decide +kernel⟩
theorem ok_kept {f : Addr} {fd : FuncData} (F : Fun K "_law_kept" "_law_kept" sKept f fd) (T : TxK K mg A J P w base) : FnOk P w K mg base CX0 4 f fd ["_law_number_here", "_law_told"] spKept := by
  obtain ⟨fK, fdK, mK, kK, bK, GK⟩ := T.kinds; obtain ⟨fO, fdO, mO, kO, bO, GO⟩ := T.others; obtain ⟨fB, fdB, mB, kB, bB, GB⟩ := T.bases; obtain ⟨fT, fdT, mT, kT, bT, GT⟩ := T.hurled
  refine F.ok scKe (fun vs H Q E h => ?_) (fun cdv A' outer s H vs Q E hr h => ?_)
  · obtain ⟨n, v, _, rfl, _⟩ := h; rfl
  · obtain ⟨n, v, hn, rfl, k⟩ := h
    have hr1 : Room 1 _ := hr.mono (by decide)
    refine ⟨_, pss_cons (ps_try_all (n := "e") (i := 2) (tb := fun W => tDrop (tCallS (spHurled A) (WE W) (tCons (tVar 0) (tCons (tVar 1) tNil)))) (Wout := fun _ _ _ _ => False) (l := [(.ref (A 8), tS 0 K A), (.ref (A 9), tS 1 K A), (.ref (A 10), tS 2 K A), (.ref (A 11), tS 3 K A), (.ref (A 12), tS 4 K A), (.ref (A 13), tS 5 K A)]) rfl rfl scKe.nd rfl rfl takesN0
        (fun W pn xe tk _ => pss_one (ps_expr (by exact (pe_callS GT hr (by rfl) mT kT bT (fun σ => L2N.passAt tk σ) (by exact (pa_cons (pv 0) (pa_cons (pv 1) pa_nil)))))))
        (.cons (ts := tS 0 K A) ⟨rfl, by decide, .inl T.g8⟩ (fun a oe cls d pn hz hf => pss_one (ps_ret (by exact (pe_tup (pa_cons pe_int (pa_cons (pe_xf (xfc T.o0) T.o0.noN hz.zc hf (pv 2)) (pa_cons (pe_callP (pn := (a, oe)) hz.zc hf GK (roomH_suite hr1) List.mem_cons_self (by rfl) mK kK bK (by exact (pa_cons (pv 2) pa_nil)))
          (pa_cons (pe_callP (pn := (a, oe)) hz.zc hf GO (roomH_suite hr1) List.mem_cons_self (by rfl) mO kO bO (by exact (pa_cons (pv 2) pa_nil))) (pa_cons (pe_callP (pn := (a, oe)) hz.zc hf GB (roomH_suite hr1) List.mem_cons_self (by rfl) mB kB bB (by exact (pa_cons (pv 2) pa_nil)))
          (pa_cons (pe_callB (call_isX List.mem_cons_self hz.zc hf) (by rfl) T.isi PyProof.Rows.boot_isinstance (by exact (pa_cons (pv 2) (pa_cons (pe_glob (v := .ref (A 0)) (by rfl) T.g0 rfl) pa_nil)))) pa_nil)))))))))) (.cons (ts := tS 1 K A) ⟨rfl, by decide, .inl T.g9⟩ (fun a oe cls d pn hz hf => pss_one (ps_ret (by exact (pe_tup (pa_cons pe_int (pa_cons (pe_xf (xfc T.o1) T.o1.noN hz.zc hf (pv 2)) (pa_cons (pe_callP (pn := (a, oe)) hz.zc hf GK (roomH_suite hr1) List.mem_cons_self (by rfl) mK kK bK (by exact (pa_cons (pv 2) pa_nil)))
          (pa_cons (pe_callP (pn := (a, oe)) hz.zc hf GO (roomH_suite hr1) List.mem_cons_self (by rfl) mO kO bO (by exact (pa_cons (pv 2) pa_nil))) (pa_cons (pe_callP (pn := (a, oe)) hz.zc hf GB (roomH_suite hr1) List.mem_cons_self (by rfl) mB kB bB (by exact (pa_cons (pv 2) pa_nil)))
          (pa_cons (pe_callB (call_isX List.mem_cons_self hz.zc hf) (by rfl) T.isi PyProof.Rows.boot_isinstance (by exact (pa_cons (pv 2) (pa_cons (pe_glob (v := .ref (A 0)) (by rfl) T.g0 rfl) pa_nil)))) pa_nil)))))))))) (.cons (ts := tS 2 K A) ⟨rfl, by decide, .inl T.g10⟩ (fun a oe cls d pn hz hf => pss_one (ps_ret (by exact (pe_tup (pa_cons pe_int (pa_cons (pe_xf (xfc T.o2) T.o2.noN hz.zc hf (pv 2)) (pa_cons (pe_callP (pn := (a, oe)) hz.zc hf GK (roomH_suite hr1) List.mem_cons_self (by rfl) mK kK bK (by exact (pa_cons (pv 2) pa_nil)))
          (pa_cons (pe_callP (pn := (a, oe)) hz.zc hf GO (roomH_suite hr1) List.mem_cons_self (by rfl) mO kO bO (by exact (pa_cons (pv 2) pa_nil))) (pa_cons (pe_callP (pn := (a, oe)) hz.zc hf GB (roomH_suite hr1) List.mem_cons_self (by rfl) mB kB bB (by exact (pa_cons (pv 2) pa_nil)))
          (pa_cons (pe_callB (call_isX List.mem_cons_self hz.zc hf) (by rfl) T.isi PyProof.Rows.boot_isinstance (by exact (pa_cons (pv 2) (pa_cons (pe_glob (v := .ref (A 0)) (by rfl) T.g0 rfl) pa_nil)))) pa_nil)))))))))) (.cons (ts := tS 3 K A) ⟨rfl, by decide, .inl T.g11⟩ (fun a oe cls d pn hz hf => pss_one (ps_ret (by exact (pe_tup (pa_cons pe_int (pa_cons (pe_xf (xfc T.o3) T.o3.noN hz.zc hf (pv 2)) (pa_cons (pe_callP (pn := (a, oe)) hz.zc hf GK (roomH_suite hr1) List.mem_cons_self (by rfl) mK kK bK (by exact (pa_cons (pv 2) pa_nil)))
          (pa_cons (pe_callP (pn := (a, oe)) hz.zc hf GO (roomH_suite hr1) List.mem_cons_self (by rfl) mO kO bO (by exact (pa_cons (pv 2) pa_nil))) (pa_cons (pe_callP (pn := (a, oe)) hz.zc hf GB (roomH_suite hr1) List.mem_cons_self (by rfl) mB kB bB (by exact (pa_cons (pv 2) pa_nil)))
          (pa_cons (pe_callB (call_isX List.mem_cons_self hz.zc hf) (by rfl) T.isi PyProof.Rows.boot_isinstance (by exact (pa_cons (pv 2) (pa_cons (pe_glob (v := .ref (A 0)) (by rfl) T.g0 rfl) pa_nil)))) pa_nil)))))))))) (.cons (ts := tS 4 K A) ⟨rfl, by decide, .inl T.g12⟩ (fun a oe cls d pn hz hf => pss_one (ps_ret (by exact (pe_tup (pa_cons pe_int (pa_cons (pe_xf (xfc T.o4) T.o4.noN hz.zc hf (pv 2)) (pa_cons (pe_callP (pn := (a, oe)) hz.zc hf GK (roomH_suite hr1) List.mem_cons_self (by rfl) mK kK bK (by exact (pa_cons (pv 2) pa_nil)))
          (pa_cons (pe_callP (pn := (a, oe)) hz.zc hf GO (roomH_suite hr1) List.mem_cons_self (by rfl) mO kO bO (by exact (pa_cons (pv 2) pa_nil))) (pa_cons (pe_callP (pn := (a, oe)) hz.zc hf GB (roomH_suite hr1) List.mem_cons_self (by rfl) mB kB bB (by exact (pa_cons (pv 2) pa_nil)))
          (pa_cons (pe_callB (call_isX List.mem_cons_self hz.zc hf) (by rfl) T.isi PyProof.Rows.boot_isinstance (by exact (pa_cons (pv 2) (pa_cons (pe_glob (v := .ref (A 0)) (by rfl) T.g0 rfl) pa_nil)))) pa_nil)))))))))) (.cons (ts := tS 5 K A) ⟨rfl, by decide, .inl T.g13⟩ (fun a oe cls d pn hz hf => pss_one (ps_ret (by exact (pe_tup (pa_cons pe_int (pa_cons (pe_xf (xfc T.o5) T.o5.noN hz.zc hf (pv 2)) (pa_cons (pe_callP (pn := (a, oe)) hz.zc hf GK (roomH_suite hr1) List.mem_cons_self (by rfl) mK kK bK (by exact (pa_cons (pv 2) pa_nil)))
          (pa_cons (pe_callP (pn := (a, oe)) hz.zc hf GO (roomH_suite hr1) List.mem_cons_self (by rfl) mO kO bO (by exact (pa_cons (pv 2) pa_nil))) (pa_cons (pe_callP (pn := (a, oe)) hz.zc hf GB (roomH_suite hr1) List.mem_cons_self (by rfl) mB kB bB (by exact (pa_cons (pv 2) pa_nil)))
          (pa_cons (pe_callB (call_isX List.mem_cons_self hz.zc hf) (by rfl) T.isi PyProof.Rows.boot_isinstance (by exact (pa_cons (pv 2) (pa_cons (pe_glob (v := .ref (A 0)) (by rfl) T.g0 rfl) pa_nil)))) pa_nil)))))))))) .nil)))))))
      (pss_one (ps_ret pe_non)), ?_⟩
    refine ⟨_, rfl, _, rfl, n, v, hn, rfl, fun d hd => ?_⟩
    have hk : ∀ a, tS n K A a (.ref (A (n + 8))) (some d) (gone 2 _) [some (.int (n : Int)), some v, some (.ref a)] (upd H d (.xd [(fName n, v)])) := fun a => kept_suite T.toTxO hn (D := { nx := fun σ H' => tRet (tC .non) { nx := fun _ H' => Q .non H', rt := Q } σ H', rt := Q }) rfl hd k
    match n, hn, hk with
    | 0, hn, hk => exact ⟨true, T.em2 0 hn 0 (by decide), fun _ a ha => hk a, fun q => nomatch q⟩
    | 1, hn, hk => exact ⟨false, T.em2 1 hn 0 (by decide), (fun q => nomatch q), fun _ => ⟨true, T.em2 1 hn 1 (by decide), fun _ a ha => hk a, fun q => nomatch q⟩⟩
    | 2, hn, hk => exact ⟨false, T.em2 2 hn 0 (by decide), (fun q => nomatch q), fun _ => ⟨false, T.em2 2 hn 1 (by decide), (fun q => nomatch q), fun _ => ⟨true, T.em2 2 hn 2 (by decide), fun _ a ha => hk a, fun q => nomatch q⟩⟩⟩
    | 3, hn, hk => exact ⟨false, T.em2 3 hn 0 (by decide), (fun q => nomatch q), fun _ => ⟨false, T.em2 3 hn 1 (by decide), (fun q => nomatch q), fun _ => ⟨false, T.em2 3 hn 2 (by decide), (fun q => nomatch q), fun _ => ⟨true, T.em2 3 hn 3 (by decide), fun _ a ha => hk a, fun q => nomatch q⟩⟩⟩⟩
    | 4, hn, hk => exact ⟨false, T.em2 4 hn 0 (by decide), (fun q => nomatch q), fun _ => ⟨false, T.em2 4 hn 1 (by decide), (fun q => nomatch q), fun _ => ⟨false, T.em2 4 hn 2 (by decide), (fun q => nomatch q), fun _ => ⟨false, T.em2 4 hn 3 (by decide), (fun q => nomatch q), fun _ => ⟨true, T.em2 4 hn 4 (by decide), fun _ a ha => hk a, fun q => nomatch q⟩⟩⟩⟩⟩
    | 5, hn, hk => exact ⟨false, T.em2 5 hn 0 (by decide), (fun q => nomatch q), fun _ => ⟨false, T.em2 5 hn 1 (by decide), (fun q => nomatch q), fun _ => ⟨false, T.em2 5 hn 2 (by decide), (fun q => nomatch q), fun _ => ⟨false, T.em2 5 hn 3 (by decide), (fun q => nomatch q), fun _ => ⟨false, T.em2 5 hn 4 (by decide), (fun q => nomatch q), fun _ => ⟨true, T.em2 5 hn 5 (by decide), fun _ a ha => hk a, fun q => nomatch q⟩⟩⟩⟩⟩⟩
end
end Kk
namespace Kk
open PySem PySem.Spec PyProof.Rows L2 Ox Dc
abbrev sDue : Stmt := top 29
def spDue : Sp := fun vs H Q _ => ∃ n : Nat, n < 6 ∧ vs = [.int (n : Int)] ∧ ∀ (l : Addr) (H' : Hp), Same H H' → H l = none → H' l = some (.lst ((basesOf n).map V.bl)) → Q (.ref l) H'
section
variable {P : Program} {w : World} {K : PySem.W.Frag} {mg : Str → Option Value} {base : Heap} {A J : Nat → Addr}
theorem scDu : FnScope ["_law_number_here", "_law_rows", "_law_spot"] ["_law_number_here"] (defScope sDue) := ⟨rfl, rfl, rfl, by decide +kernel, rfl, by decide +kernel, by decide +kernel⟩
theorem in_row : ∀ n, n < 6 → ∀ i, i < 6 → inV (.int (0 + ((i : Nat) : Int))) ((rowOf n).map fun x => V.int ((x : Nat) : Int)) = decide (i ∈ rowOf n) := by decide
theorem ok_due {f : Addr} {fd : FuncData} (F : Fun K "_law_due_bases" "_law_due_bases" sDue f fd) (hrange : mg "range" = none) : FnOk P w K mg base CX0 1 f fd ["_law_number_here"] spDue := by
  refine F.ok scDu (fun vs H Q E h => ?_) (fun cdv A' outer s H vs Q E hr h => ?_)
  · obtain ⟨n, _, rfl, _⟩ := h; rfl
  · obtain ⟨n, hn, rfl, k⟩ := h
    refine ⟨_, pss_cons (ps_set (i := 1) scDu.nd rfl (Or.inr rfl) (pe_lst (pa_cons (pe_lst (pa_cons pe_int (pa_cons pe_int pa_nil))) (pa_cons (pe_lst (pa_cons pe_int (pa_cons pe_int pa_nil))) (pa_cons (pe_lst (pa_cons pe_int (pa_cons pe_int pa_nil)))
        (pa_cons (pe_lst (pa_cons pe_int pa_nil)) (pa_cons (pe_lst (pa_cons pe_int pa_nil)) (pa_cons (pe_lst (pa_cons pe_int pa_nil)) pa_nil))))))))
      (pss_one (ps_ret (pe_lc (own := [("_law_spot", 2)]) (g := gName 2) (tt := tYes) rfl scDu.nd (pi_range1 (by rfl) hrange (pa_cons pe_int pa_nil)) (blkOk_by (N := ["_law_number_here", "_law_rows", "_law_spot"]) (sc := defScope sDue) (by decide +kernel))
        (fun _ _ _ _ _ => pg_name (i := 2) scDu.nd rfl (Or.inl rfl)) (fun _ _ _ _ _ => pts_nil) (fun _ _ _ _ _ => pe_cmpR (r := rIn K false) op_in_seq (pv 2) (pe_ix (r := rIxL K) ix_list (pv 1) (pv 0) (fun _ _ => rfl)) (by rfl))))), ?_⟩
    refine ⟨(by show 2 ≤ sizeLine; decide), fun p0 n0 => ⟨(by show 2 ≤ sizeLine; decide), fun p1 n1 => ⟨(by show 2 ≤ sizeLine; decide), fun p2 n2 => ⟨(by show 1 ≤ sizeLine; decide), fun p3 n3 => ⟨(by show 1 ≤ sizeLine; decide), fun p4 n4 => ⟨(by show 1 ≤ sizeLine; decide), fun p5 n5 =>
      ⟨(by show 6 ≤ sizeLine; decide), fun L nL => ?_⟩⟩⟩⟩⟩⟩⟩
    have s0 : Same H (upd H p0 (HO.lst [V.int 0, V.int 5])) := same_new n0
    have s1 := same_new (o := HO.lst [V.int 1, V.int 5]) n1
    have s2 := same_new (o := HO.lst [V.int 2, V.int 4]) n2
    have s3 := same_new (o := HO.lst [V.int 3]) n3
    have s4 := same_new (o := HO.lst [V.int 4]) n4
    have s5 := same_new (o := HO.lst [V.int 5]) n5
    have s6 := same_new (o := HO.lst [V.ref p0, V.ref p1, V.ref p2, V.ref p3, V.ref p4, V.ref p5]) nL
    have hrow : ∃ q, ([V.ref p0, V.ref p1, V.ref p2, V.ref p3, V.ref p4, V.ref p5] : List V)[n]? = some (.ref q) ∧ upd (upd (upd (upd (upd (upd (upd H p0 (HO.lst [V.int 0, V.int 5])) p1 (HO.lst [V.int 1, V.int 5])) p2 (HO.lst [V.int 2, V.int 4])) p3 (HO.lst [V.int 3])) p4 (HO.lst [V.int 4])) p5 (HO.lst [V.int 5])) L (HO.lst [V.ref p0, V.ref p1, V.ref p2, V.ref p3, V.ref p4, V.ref p5]) q = some (.lst ((rowOf n).map fun x => V.int ((x : Nat) : Int))) := by
      match n, hn with
      | 0, _ => exact ⟨p0, rfl, s6 _ _ (s5 _ _ (s4 _ _ (s3 _ _ (s2 _ _ (s1 _ _ upd_same)))))⟩
      | 1, _ => exact ⟨p1, rfl, s6 _ _ (s5 _ _ (s4 _ _ (s3 _ _ (s2 _ _ upd_same))))⟩
      | 2, _ => exact ⟨p2, rfl, s6 _ _ (s5 _ _ (s4 _ _ (s3 _ _ upd_same)))⟩
      | 3, _ => exact ⟨p3, rfl, s6 _ _ (s5 _ _ (s4 _ _ upd_same))⟩
      | 4, _ => exact ⟨p4, rfl, s6 _ _ (s5 _ _ upd_same)⟩
      | 5, _ => exact ⟨p5, rfl, s6 _ _ upd_same⟩
    have hL : upd (upd (upd (upd (upd (upd (upd H p0 (HO.lst [V.int 0, V.int 5])) p1 (HO.lst [V.int 1, V.int 5])) p2 (HO.lst [V.int 2, V.int 4])) p3 (HO.lst [V.int 3])) p4 (HO.lst [V.int 4])) p5 (HO.lst [V.int 5])) L (HO.lst [V.ref p0, V.ref p1, V.ref p2, V.ref p3, V.ref p4, V.ref p5]) L = some (HO.lst [V.ref p0, V.ref p1, V.ref p2, V.ref p3, V.ref p4, V.ref p5]) := upd_same
    have sA := (((((s0.trans s1).trans s2).trans s3).trans s4).trans s5).trans s6
    generalize upd (upd (upd (upd (upd (upd (upd H p0 (HO.lst [V.int 0, V.int 5])) p1 (HO.lst [V.int 1, V.int 5])) p2 (HO.lst [V.int 2, V.int 4])) p3 (HO.lst [V.int 3])) p4 (HO.lst [V.int 4])) p5 (HO.lst [V.int 5])) L (HO.lst [V.ref p0, V.ref p1, V.ref p2, V.ref p3, V.ref p4, V.ref p5]) = H1 at hrow hL sA ⊢
    obtain ⟨q, hq1, hq2⟩ := hrow
    refine ⟨6, rfl, by decide, by decide, fun D hD => ?_⟩
    refine lc_range (n := 6) (fun i H' => H' D = some (.lst (((List.range i).map fun j => decide (j ∈ rowOf n)).map V.bl)) ∧ Same H1 H') ⟨upd_same, same_new hD⟩ ?_ ?_
    · rintro i H' hi ⟨h1, h2⟩
      refine ⟨rfl, tt_yes ?_⟩
      refine ⟨_, rfl, _, rfl, _, rfl, L, _, _, .ref q, rfl, rfl, SqL.of (h2 _ _ hL), atI_nat hq1, q, _, rfl, .inl (SqL.of (h2 _ _ hq2)), rfl, by simp [List.all_map, Function.comp_def, flatV], _, h1, by rw [List.length_map, List.length_map, List.length_range]; exact Nat.lt_of_lt_of_le hi (by decide), ?_, fun b o e => ?_⟩
      · rw [upd_same, List.range_succ, List.map_append, List.map_append]
        have e := in_row n hn i hi
        show some (HO.lst (_ ++ [V.bl (inV (.int (0 + ((i : Nat) : Int))) ((rowOf n).map fun x => V.int ((x : Nat) : Int)))])) = _
        rw [e]; rfl
      · rw [upd_ne (ne_of_none e hD)]; exact h2 _ _ e
    · rintro H2 ⟨h1, h2⟩
      exact k D _ (sA.trans h2) (sA.free hD) h1
end
end Kk
namespace Kk
open PySem PySem.Spec PyProof.Rows L2 Ox Dc
abbrev sRight : Stmt := top 30
abbrev NR : List Str := ["_law_dice_here", "_law_word", "_law_number_here", "_law_spot", "_law_some", "_law_told", "_law_due", "_law_one"]
/-- data that is small enough to be shown -/
def Sm (d : PyData) : Prop := d.showable = true ∧ d.depth ≤ 8 ∧ d.shown.length ≤ 20000
instance (d : PyData) : Decidable (Sm d) := by unfold Sm; infer_instance
/-- a value that is such data, apart from the object at p -/
def Dv (p : Addr) (H : Hp) (v : V) : Prop := ∃ d, Dq (del H p) v d ∧ Sm d
theorem keep_del {p : Addr} {H H' : Hp} (k : Keep p H H') : ∀ b o, del H p b = some o → del H' p b = some o := fun b o e => by
  by_cases hb : b = p
  · rw [hb, del_same] at e; cases e
  · rw [del_ne hb] at e ⊢; exact k b o hb e
theorem Dv.keep {p : Addr} {H H' : Hp} {v : V} (k : Keep p H H') (h : Dv p H v) : Dv p H' v := by
  obtain ⟨d, h1, h2⟩ := h; exact ⟨d, h1.keeps (keep_del k), h2⟩
theorem del_sub {p : Addr} {H : Hp} : ∀ b o, del H p b = some o → H b = some o := fun b o e => by
  by_cases hb : b = p
  · rw [hb, del_same] at e; cases e
  · rw [del_ne hb] at e; exact e
theorem sm_int {n : Int} (h : n.natAbs.log2 < 1920) : Sm (.int n) := by
  refine ⟨by simp [PyData.showable, h], by simp [PyData.depth], ?_⟩
  have e : (PyData.shown (.int n)).length ≤ 1921 := PyProof.Rows.int_text_len_1921 h
  omega
theorem log_of {n : Int} (h1 : -(10 ^ 41) < n) (h2 : n < 10 ^ 41) : n.natAbs.log2 < 1920 := by
  have h : n.natAbs < 2 ^ 137 := by
    have e : (10 : Int) ^ 41 < 2 ^ 137 := by decide
    have e2 : ((2 ^ 137 : Nat) : Int) = 2 ^ 137 := by decide
    omega
  exact Nat.lt_of_lt_of_le (PySem.Flt.log2_lt_of (by decide) h) (by decide)
theorem dv_int {p : Addr} {H : Hp} {n : Int} (h1 : -(10 ^ 41) < n) (h2 : n < 10 ^ 41) : Dv p H (.int n) := ⟨_, .int n, sm_int (log_of h1 h2)⟩
theorem sm_ints {ns : List Int} (hl : ns.length ≤ 6) (h : ∀ n ∈ ns, n.natAbs.log2 < 1920) : Sm (.tuple (ns.map .int)) := by
  have e1 : ∀ l : List Int, (∀ n ∈ l, n.natAbs.log2 < 1920) → PyData.showableAll (l.map .int) = true ∧ PyData.depthAll (l.map .int) = 0 ∧ ((PyData.shownAll (l.map .int)).map (·.length)).sum ≤ 1921 * l.length ∧ (PyData.shownAll (l.map .int)).length = l.length := by
    intro l
    induction l with
    | nil => intro _; exact ⟨rfl, rfl, Nat.le_refl _, rfl⟩
    | cons a l ih =>
      intro q
      obtain ⟨i1, i2, i3, i4⟩ := ih fun n hn => q n (List.mem_cons_of_mem _ hn)
      have qa := q a List.mem_cons_self
      have ea : (PyData.shown (.int a)).length ≤ 1921 := PyProof.Rows.int_text_len_1921 qa
      refine ⟨by simp [PyData.showableAll, PyData.showable, qa, i1], by simp [PyData.depthAll, PyData.depth, i2], ?_, by simp [PyData.shownAll, i4]⟩
      simp only [PyData.shownAll, List.map_cons, List.sum_cons, List.length_cons]
      omega
  obtain ⟨i1, i2, i3, i4⟩ := e1 ns h
  refine ⟨by simpa [PyData.showable] using i1, by simp [PyData.depth, i2], ?_⟩
  have e := tupleText_len_le (PyData.shownAll (ns.map .int))
  show (tupleText (PyData.shownAll (ns.map .int))).length ≤ 20000
  omega
theorem bools_shown : ∀ bs : List Bool, PyData.showableAll (bs.map .bool) = true ∧ PyData.depthAll (bs.map .bool) = 0 ∧ ((PyData.shownAll (bs.map .bool)).map (·.length)).sum ≤ 5 * bs.length ∧ (PyData.shownAll (bs.map .bool)).length = bs.length
  | [] => ⟨rfl, rfl, Nat.le_refl _, rfl⟩
  | b :: bs => by
    obtain ⟨i1, i2, i3, i4⟩ := bools_shown bs
    have eb : (PyData.shown (.bool b)).length ≤ 5 := by cases b <;> decide
    refine ⟨by simp [PyData.showableAll, PyData.showable, i1], by simp [PyData.depthAll, PyData.depth, i2], ?_, by simp [PyData.shownAll, i4]⟩
    simp only [PyData.shownAll, List.map_cons, List.sum_cons, List.length_cons]
    omega
/-- what kept hands back, as data -/
def rowD (i : Nat) (d : PyData) (b7 b6 c6 : List Bool) : PyData := .tuple [.int (i : Int), d, .list (b7.map .bool), .list (b6.map .bool), .list (c6.map .bool), .bool false]
theorem row_ok {i : Nat} {d : PyData} {b7 b6 c6 : List Bool} (hi : i < 6) (hd : Sm d) (h1 : b7.length ≤ 7) (h2 : b6.length ≤ 7) (h3 : c6.length ≤ 7) : (rowD i d b7 b6 c6).showable = true ∧ (rowD i d b7 b6 c6).depth ≤ 50 ∧ (rowD i d b7 b6 c6).shown.length ≤ sizeLine := by
  obtain ⟨d1, d2, d3⟩ := hd
  have hlog : ((i : Int)).natAbs.log2 < 1920 := log_of (by omega) (by omega)
  have ei : (PyData.shown (.int (i : Int))).length ≤ 1921 := PyProof.Rows.int_text_len_1921 hlog
  have hl2 : i.log2 < 1920 := by simpa using hlog
  obtain ⟨a1, a2, a3, a4⟩ := bools_shown b7; obtain ⟨b1, b2, b3, b4⟩ := bools_shown b6; obtain ⟨c1, c2, c3, c4⟩ := bools_shown c6
  have l1 := listText_len_le (PyData.shownAll (b7.map .bool)); have l2 := listText_len_le (PyData.shownAll (b6.map .bool)); have l3 := listText_len_le (PyData.shownAll (c6.map .bool))
  refine ⟨by simp [rowD, PyData.showable, PyData.showableAll, hl2, d1, a1, b1, c1], ?_, ?_⟩
  · simp only [rowD, PyData.depth, PyData.depthAll, a2, b2, c2]; omega
  · have e := tupleText_len_le [PyData.shown (.int (i : Int)), d.shown, listText (PyData.shownAll (b7.map .bool)), listText (PyData.shownAll (b6.map .bool)), listText (PyData.shownAll (c6.map .bool)), PyData.shown (.bool false)]
    have ef : (PyData.shown (.bool false)).length = 5 := by decide
    show (tupleText [PyData.shown (.int (i : Int)), d.shown, listText (PyData.shownAll (b7.map .bool)), listText (PyData.shownAll (b6.map .bool)), listText (PyData.shownAll (c6.map .bool)), PyData.shown (.bool false)]).length ≤ sizeLine
    rw [sizeLine_eq]
    simp only [List.map_cons, List.map_nil, List.sum_cons, List.sum_nil, List.length_cons, List.length_nil] at e
    omega
theorem dice_ne {p q : Addr} {H : Hp} (d : DiceAt H p) (n : H q = none) : q ≠ p := fun e => by
  obtain ⟨a, b, c, h, _⟩ := d; rw [e, h] at n; cases n
theorem dice_new {p q : Addr} {H : Hp} {o : HO} (d : DiceAt H p) (n : H q = none) : DiceAt (upd H q o) p := by
  have ne := dice_ne d n; obtain ⟨a, b, c, h, ha⟩ := d; exact ⟨a, b, c, by rw [upd_ne (Ne.symm ne)]; exact h, ha⟩
theorem Dv.tup {p t : Addr} {H : Hp} {xs : List V} {ds : List PyData} (h : H t = some (.tup xs)) (n : t ≠ p) (q : DqAll (del H p) xs ds) (s : Sm (.tuple ds)) : Dv p H (.ref t) := ⟨_, .tup (by rw [del_ne n]; exact h) q, s⟩
theorem dv_non {p : Addr} {H : Hp} : Dv p H .non := ⟨_, .non, by decide +kernel⟩
theorem dv_bl {p : Addr} {H : Hp} {b : Bool} : Dv p H (.bl b) := ⟨_, .bl b, by cases b <;> decide +kernel⟩
theorem dv_pick {p : Addr} {H : Hp} {xs : List V} {i : Nat} {v : V} (h : ∀ x ∈ xs, Dv p H x) (e : xs[i]? = some v) : Dv p H v := h v (List.mem_of_getElem? e)
theorem _root_.Dc.DiceAt.same {p : Addr} {H H' : Hp} (d : DiceAt H p) (s : Same H H') : DiceAt H' p := by
  obtain ⟨a, b, c, q, ha⟩ := d; exact ⟨a, b, c, s _ _ q, ha⟩
/-- data apart from the objects at p and at l -/
def Dw (p l : Addr) (H : Hp) (v : V) : Prop := ∃ d, Dq (del (del H p) l) v d ∧ Sm d
def Keep2 (p l : Addr) (H H' : Hp) : Prop := ∀ b u, b ≠ p → b ≠ l → H b = some u → H' b = some u
theorem Keep2.trans {p l : Addr} {H H' H'' : Hp} (a : Keep2 p l H H') (b : Keep2 p l H' H'') : Keep2 p l H H'' := fun c u h1 h2 e => b c u h1 h2 (a c u h1 h2 e)
theorem Keep2.of {p l : Addr} {H H' : Hp} (k : Keep p H H') : Keep2 p l H H' := fun b u h1 _ e => k b u h1 e
theorem keep2_upl {p l : Addr} {H : Hp} {o : HO} : Keep2 p l H (upd H l o) := fun b u _ h2 e => by rw [upd_ne h2]; exact e
theorem Keep2.del {p l : Addr} {H H' : Hp} (k : Keep2 p l H H') : ∀ b o, L2.del (L2.del H p) l b = some o → L2.del (L2.del H' p) l b = some o := fun b o e => by
  by_cases hl : b = l
  · rw [hl, del_same] at e; cases e
  · rw [del_ne hl] at e ⊢
    by_cases hp : b = p
    · rw [hp, del_same] at e; cases e
    · rw [del_ne hp] at e ⊢; exact k b o hp hl e
theorem Dw.keep {p l : Addr} {H H' : Hp} {v : V} (k : Keep2 p l H H') (h : Dw p l H v) : Dw p l H' v := by
  obtain ⟨d, h1, h2⟩ := h; exact ⟨d, h1.keeps k.del, h2⟩
theorem Dv.dw {p l : Addr} {H : Hp} {v : V} {o : HO} (n : H l = none) (h : Dv p H v) : Dw p l (upd H l o) v := by
  obtain ⟨d, h1, h2⟩ := h
  refine ⟨d, h1.keeps fun b o e => ?_, h2⟩
  have e2 := del_sub _ _ e
  have nb : b ≠ l := ne_of_none e2 n
  by_cases hp : b = p
  · rw [hp, del_same] at e; cases e
  · rw [del_ne nb, del_ne hp, upd_ne nb]; exact e2
theorem Dw.tup {p l t : Addr} {H : Hp} {xs : List V} {ds : List PyData} (h : H t = some (.tup xs)) (n : t ≠ p) (n2 : t ≠ l) (q : DqAll (del (del H p) l) xs ds) (s : Sm (.tuple ds)) : Dw p l H (.ref t) := ⟨_, .tup (by rw [del_ne n2, del_ne n]; exact h) q, s⟩
theorem dw_int {p l : Addr} {H : Hp} {n : Int} (h1 : -(10 ^ 41) < n) (h2 : n < 10 ^ 41) : Dw p l H (.int n) := ⟨_, .int n, sm_int (log_of h1 h2)⟩
theorem dw_rg {p l q : Addr} {H : Hp} {r : Int} (h : H q = some (.tup (rgV 1 (1 + r)))) (n : q ≠ p) (n2 : q ≠ l) (h0 : 0 ≤ r) (h6 : r < 6) : Dw p l H (.ref q) := by
  obtain ⟨m, rfl⟩ : ∃ m : Nat, r = (m : Int) := ⟨r.toNat, by omega⟩
  have e : (1 + (m : Int) - 1).toNat = m := by omega
  have e2 : rgV 1 (1 + (m : Int)) = ((List.range m).map fun i => (1 + (i : Nat) : Int)).map V.int := by
    unfold rgV; rw [e, List.map_map]; rfl
  rw [e2] at h
  refine .tup h n n2 (dq_ints _) (sm_ints (by rw [List.length_map, List.length_range]; omega) fun x hx => ?_)
  obtain ⟨i, hi, rfl⟩ := List.mem_map.mp hx
  rw [List.mem_range] at hi
  exact log_of (by omega) (by omega)
theorem keep_far {p l : Addr} {H H1 H2 : Hp} {o : HO} (k : Keep p H H1) (n : H1 l = none) (k2 : Keep2 p l (upd H1 l o) H2) : Keep p H H2 := fun b u h e => by
  have e1 := k b u h e
  have nb : b ≠ l := ne_of_none e1 n
  exact k2 b u h nb (by rw [upd_ne nb]; exact e1)
structure TxR (K : PySem.W.Frag) (mg : Str → Option Value) (P : Program) (w : World) (base : Heap) : Prop where
  roll : ∃ f fd, mg "_law_roll" = some (.ref f) ∧ PySem.W.keepIn K (.ref f) = true ∧ Binds K fd ["_law_dice_here", "_law_total"] [] ∧ FnOk P w K mg base CX0 1 f fd ["_law_dice_here", "_law_total"] spRoll
  one : ∃ f fd, mg "_law_one_of" = some (.ref f) ∧ PySem.W.keepIn K (.ref f) = true ∧ Binds K fd ["_law_dice_here", "_law_items"] [] ∧ FnOk P w K mg base CX0 2 f fd ["_law_dice_here", "_law_items"] spOne
  text : ∃ f fd, mg "_law_text" = some (.ref f) ∧ PySem.W.keepIn K (.ref f) = true ∧ Binds K fd ["_law_dice_here"] [] ∧ FnOk P w K mg base CX0 3 f fd ["_law_dice_here"] spText
  num : ∃ f fd, mg "_law_number" = some (.ref f) ∧ PySem.W.keepIn K (.ref f) = true ∧ Binds K fd ["_law_dice_here"] [] ∧ FnOk P w K mg base CX0 3 f fd ["_law_dice_here"] spNum
  caught : ∃ f fd, mg "_law_caught" = some (.ref f) ∧ PySem.W.keepIn K (.ref f) = true ∧ Binds K fd ["_law_number_here", "_law_word"] [] ∧ FnOk P w K mg base CX0 3 f fd ["_law_number_here", "_law_word"] spCaught
  kept : ∃ f fd, mg "_law_kept" = some (.ref f) ∧ PySem.W.keepIn K (.ref f) = true ∧ Binds K fd ["_law_number_here", "_law_told"] [] ∧ FnOk P w K mg base CX0 4 f fd ["_law_number_here", "_law_told"] spKept
  due : ∃ f fd, mg "_law_due_bases" = some (.ref f) ∧ PySem.W.keepIn K (.ref f) = true ∧ Binds K fd ["_law_number_here"] [] ∧ FnOk P w K mg base CX0 1 f fd ["_law_number_here"] spDue
  range : mg "range" = none
  abs : mg "abs" = none
  tuple : mg "tuple" = none
  enum : mg "enumerate" = none
  repr : mg "repr" = none
  sys : ∃ o, base.get? sysModules = some o
def spRight : Sp := fun vs H Q _ => ∃ p : Addr, vs = [.ref p] ∧ DiceAt H p ∧ ∀ H', Keep p H H' → Q (.bl true) H'
section
variable {P : Program} {w : World} {K : PySem.W.Frag} {mg : Str → Option Value} {base : Heap}
theorem scRi : FnScope NR ["_law_dice_here"] (defScope sRight) := ⟨rfl, rfl, rfl, by decide +kernel, rfl, by decide +kernel, by decide +kernel⟩
theorem ok_right {f : Addr} {fd : FuncData} (F : Fun K "_law_right" "_law_right" sRight f fd) (T : TxR K mg P w base) : FnG P w K mg base 5 f fd ["_law_dice_here"] spRight := by
  obtain ⟨fR, fdR, mR, kR, bR, GR⟩ := T.roll; obtain ⟨fO, fdO, mO, kO, bO, GO⟩ := T.one; obtain ⟨fT, fdT, mT, kT, bT, GT⟩ := T.text; obtain ⟨fN, fdN, mN, kN, bN, GN⟩ := T.num
  obtain ⟨fC, fdC, mC, kC, bC, GC⟩ := T.caught; obtain ⟨fK, fdK, mK, kK, bK, GK⟩ := T.kept; obtain ⟨fD, fdD, mD, kD, bD, GD⟩ := T.due
  refine F.okG scRi (fun vs H Q E h => ?_) (fun cdv A' outer s H vs Q E hgd hr h => ?_)
  · obtain ⟨p, rfl, _⟩ := h; rfl
  · obtain ⟨p, rfl, hD, k⟩ := h
    have hr1 : Room 1 _ := hr.mono (by decide); have hr2 : Room 2 _ := hr.mono (by decide); have hr3 : Room 3 _ := hr.mono (by decide); have hu := hr.units
    refine ⟨_, pss_cons (ps_asg (pe_tup (pa_cons (pe_call GT hr3 (by rfl) mT kT bT .nil pass0 (pa_cons (pv 0) pa_nil)) (pa_cons (pe_call GN hr3 (by rfl) mN kN bN .nil pass0 (pa_cons (pv 0) pa_nil)) pa_nil)))
        (pg_tup rfl (pgs_cons (pg_name (i := 1) scRi.nd rfl (.inr rfl)) (pgs_cons (pg_name (i := 2) scRi.nd rfl (.inl rfl)) pgs_nil))))
      (pss_cons (ps_if (pt_cmpR (op_neD hu) (pe_lc (own := [("_law_spot", 3)]) (g := gName 3) (tt := tNot (tB (tCall spCaught [] E0 (tCons (tVar 3) (tCons (tVar 1) tNil))))) (te := tVar 3) rfl scRi.nd (pi_range1 (by rfl) T.range (pa_cons pe_int pa_nil))
          (blkOk_by (N := NR) (sc := defScope sRight) (by decide +kernel)) (fun _ _ _ _ _ => pg_name (i := 3) scRi.nd rfl (Or.inl rfl)) (fun _ _ _ _ _ => pts_one (pt_not (pt_val (pe_call GC hr3 (by rfl) mC kC bC .nil pass0 (pa_cons (pv 3) (pa_cons (pv 1) pa_nil)))))) (fun _ _ _ _ _ => pv 3)) (pe_lst pa_nil) (nomark _))
          (pss_one (ps_ret pe_bl)) pss_nil)
      (pss_cons (ps_set (i := 4) scRi.nd rfl (Or.inl rfl) (pe_lst (pa_cons (pe_call GO hr2 (by rfl) mO kO bO .nil pass0 (pa_cons (pv 0) (pa_cons (pe_lst (pa_cons pe_non (pa_cons pe_bl (pa_cons pe_str (pa_cons (pe_tup (pa_cons pe_int pa_nil)) (pa_cons (pv 2) pa_nil)))))) pa_nil)))
          (pa_cons (pe_call GO hr2 (by rfl) mO kO bO .nil pass0 (pa_cons (pv 0) (pa_cons (pe_lst (pa_cons pe_non (pa_cons pe_int (pa_cons pe_str (pa_cons (pe_tup pa_nil) (pa_cons (pv 2) (pa_cons pe_str pa_nil))))))) pa_nil))) pa_nil))))
      (pss_cons (ps_set (i := 4) scRi.nd rfl (Or.inl rfl) (pe_op op_cat (pv 4) (pe_lst (pa_cons (pe_call GO hr2 (by rfl) mO kO bO .nil pass0 (pa_cons (pv 0) (pa_cons (pe_lst (pa_cons pe_int (pa_cons pe_int (pa_cons pe_int (pa_cons (pe_callB call_abs (by rfl) T.abs PyProof.Rows.boot_abs (pa_cons (pv 2) pa_nil)) pa_nil))))) pa_nil))) pa_nil))))
      (pss_cons (ps_expr (pe_bm PySem.F.plainAttrs_list PySem.F.slot_list_append PySem.F.type_list_append mt_append (pv 4) (pa_cons (pe_tupRg rfl (by rfl) T.tuple (prg_2 (by rfl) T.range pe_int (pe_op op_add pe_int (pe_call GR hr1 (by rfl) mR kR bR .nil pass0 (pa_cons (pv 0) (pa_cons pe_int pa_nil)))))) pa_nil)))
      (pss_cons (ps_expr (pe_bm PySem.F.plainAttrs_list PySem.F.slot_list_append PySem.F.type_list_append mt_append (pv 4) (pa_cons (pe_call GO hr2 (by rfl) mO kO bO .nil pass0 (pa_cons (pv 0) (pa_cons (pe_lst (pa_cons (pe_tup (pa_cons pe_str (pa_cons pe_int (pa_cons (pe_disp (pps_cons pe_str (pe_tup (pa_cons pe_str pa_nil)) pps_nil) rfl rfl (by simp) (by decide)) pa_nil))))
          (pa_cons (pe_tup (pa_cons pe_str (pa_cons (pe_tup (pa_cons pe_str pa_nil)) (pa_cons (pe_tup (pa_cons (pe_tup (pa_cons pe_str pa_nil)) pa_nil)) pa_nil)))) pa_nil))) pa_nil))) pa_nil)))
      (pss_cons (ps_expr (pe_bm PySem.F.plainAttrs_list PySem.F.slot_list_append PySem.F.type_list_append mt_append (pv 4) (pa_cons (pe_callB call_abs (by rfl) T.abs PyProof.Rows.boot_abs (pa_cons (pv 2) pa_nil)) pa_nil)))
      (pss_cons (ps_for PassesOwn.never rfl (pi_enum (by rfl) T.enum (pa_cons (pv 4) pa_nil)) (pg_tup rfl (pgs_cons (pg_name (i := 3) scRi.nd rfl (.inr rfl)) (pgs_cons (pg_name (i := 5) scRi.nd rfl (.inl rfl)) pgs_nil)))
        (pss_cons (ps_set (i := 6) scRi.nd rfl (Or.inl rfl) (pe_tup (pa_cons (pv 3) (pa_cons (pv 5) (pa_cons (pe_op op_rep (pe_lst (pa_cons pe_bl pa_nil)) pe_int)
            (pa_cons (pe_lc (own := [("_law_one", 7)]) (g := gName 7) (tt := tYes) rfl scRi.nd (pi_range1 (by rfl) T.range (pa_cons pe_int pa_nil)) (blkOk_by (N := NR) (sc := defScope sRight) (by decide +kernel)) (fun _ _ _ _ _ => pg_name (i := 7) scRi.nd rfl (Or.inl rfl)) (fun _ _ _ _ _ => pts_nil) (fun _ _ _ _ _ => pe_cmpR op_eq (pv 7) (pv 3) (nomark _)))
            (pa_cons (pe_call GD hr1 (by rfl) mD kD bD .nil pass0 (pa_cons (pv 3) pa_nil)) (pa_cons pe_bl pa_nil))))))))
        (pss_one (ps_if (pt_cmpR op_ne (pe_callB (call_reprD hgd hu T.sys) (by rfl) T.repr PyProof.Rows.boot_repr (pa_cons (pe_call GK hr (by rfl) mK kK bK .nil pass0 (pa_cons (pv 3) (pa_cons (pv 5) pa_nil))) pa_nil)) (pe_callB (call_reprD hgd hu T.sys) (by rfl) T.repr PyProof.Rows.boot_repr (pa_cons (pv 6) pa_nil)) (nomark _)) (pss_one (ps_ret pe_bl)) pss_nil))))
      (pss_one (ps_ret pe_bl))))))))), ?_⟩
    refine ⟨_, rfl, p, rfl, hD, fun z H1 k1 d1 => ⟨_, rfl, p, rfl, d1, fun n H2 k2 d2 b1 b2 => ⟨(by show 2 ≤ sizeLine; decide), fun t nt => ⟨t, _, rfl, SqT.of upd_same, rfl, ?_⟩⟩⟩⟩
    refine ⟨_, _, rfl, _, _, rfl, rfl, ?_⟩
    have ntp : t ≠ p := fun e => by obtain ⟨a, b, c, q, _⟩ := d2; rw [e, q] at nt; cases nt
    have k3 : Keep p H (upd H2 t (HO.tup [V.str z, V.int n])) := (k1.trans k2).trans (keep_new nt)
    have d3 : DiceAt (upd H2 t (HO.tup [V.str z, V.int n])) p := by obtain ⟨a, b, c, q, ha⟩ := d2; exact ⟨a, b, c, by rw [upd_ne (Ne.symm ntp)]; exact q, ha⟩
    generalize upd H2 t (HO.tup [V.str z, V.int n]) = H3 at k3 d3 ⊢
    -- the texts are caught
    refine ⟨8, rfl, by decide, by decide, fun D hD => ?_⟩
    have nDp : D ≠ p := fun e => by obtain ⟨a, b, c, q, _⟩ := d3; rw [e, q] at hD; cases hD
    refine lc_range (n := 8) (fun i H' => H' D = some (.lst []) ∧ Same H3 H') ⟨upd_same, same_new hD⟩ ?_ ?_
    · rintro i H' hi ⟨h1, h2⟩
      refine ⟨rfl, _, rfl, _, rfl, i, .str z, hi, by rw [Int.zero_add]; rfl, fun H'' sm => ⟨true, rfl, ?_⟩⟩
      show (if (!true) = true then _ else _)
      exact iteF ⟨sm _ _ h1, h2.trans sm⟩
    rintro H4 ⟨h1, s4⟩
    refine ⟨Nat.zero_le _, fun l0 nl0 => ?_⟩
    refine ⟨.list [], .list [], .lst (SqL.of ((upd_ne (ne_of_none h1 nl0)).trans h1)) .nil, .lst (SqL.of upd_same) .nil, rfl, rfl, _, rfl, ?_⟩
    have e0 : (!PyData.eqv (.list []) (.list [])) = false := by rw [SeqAt.eqv_refl _ (by rfl)]; rfl
    rw [e0]
    refine iteF ?_
    have s5 : Same H3 (upd H4 l0 (HO.lst [])) := s4.trans (same_new nl0)
    have k5 : Keep p H (upd H4 l0 (HO.lst [])) := k3.trans fun b o _ e => s5 b o e
    have d5 : DiceAt (upd H4 l0 (HO.lst [])) p := by obtain ⟨a, b, c, q, ha⟩ := d3; exact ⟨a, b, c, s5 _ _ q, ha⟩
    generalize upd H4 l0 (HO.lst []) = H5 at k5 d5 ⊢
    -- what is told
    have hn : Dv p H5 (.int n) := dv_int (by have : (10 : Int) ^ 40 < 10 ^ 41 := by decide
                                             omega) (by have : (10 : Int) ^ 40 < 10 ^ 41 := by decide
                                                        omega)
    have hn' : ∀ {H' : Hp}, Dv p H' (.int n) := dv_int (by have : (10 : Int) ^ 40 < 10 ^ 41 := by decide
                                                           omega) (by have : (10 : Int) ^ 40 < 10 ^ 41 := by decide
                                                                      omega)
    have ha' : ∀ {H' : Hp}, Dv p H' (.int (if n < 0 then -n else n)) := dv_int (by have : (10 : Int) ^ 40 < 10 ^ 41 := by decide
                                                                                   split <;> omega) (by have : (10 : Int) ^ 40 < 10 ^ 41 := by decide
                                                                                                        split <;> omega)
    refine ⟨_, rfl, (by show 1 ≤ sizeLine; decide), fun t1 nt1 => ⟨_, rfl, (by show 5 ≤ sizeLine; decide), fun l1 nl1 => ?_⟩⟩
    have d6 := dice_new (o := HO.tup [V.int 1]) d5 nt1
    have d7 := dice_new (o := HO.lst [V.non, V.bl true, V.str "x", V.ref t1, V.int n]) d6 nl1
    have k7 : Keep p H (upd (upd H5 t1 (HO.tup [V.int 1])) l1 (HO.lst [V.non, V.bl true, V.str "x", V.ref t1, V.int n])) := (k5.trans (keep_new nt1)).trans (keep_new nl1)
    have e7 : upd (upd H5 t1 (HO.tup [V.int 1])) l1 (HO.lst [V.non, V.bl true, V.str "x", V.ref t1, V.int n]) t1 = some (HO.tup [V.int 1]) := (upd_ne (ne_of_none upd_same nl1)).trans upd_same
    refine ⟨p, l1, _, rfl, d7, upd_same, dice_ne d6 nl1, (by show 0 < 5; decide), (by show 5 < 1000; decide), fun i1 v1 a1 b1' c1 hv1 ha1 => ?_⟩
    have w1 : Dv p (upd (upd H5 t1 (HO.tup [V.int 1])) l1 (HO.lst [V.non, V.bl true, V.str "x", V.ref t1, V.int n])) v1 := dv_pick (fun x hx => by
      simp only [List.mem_cons, List.not_mem_nil, or_false] at hx
      rcases hx with rfl | rfl | rfl | rfl | rfl
      · exact dv_non
      · exact dv_bl
      · exact ⟨_, .str _, by decide +kernel⟩
      · exact .tup e7 (dice_ne d5 nt1) (.cons (.int 1) .nil) (by decide +kernel)
      · exact hn') hv1
    have k8 := k7.trans (keep_upd (o := HO.lst [V.int a1, V.int b1', V.int c1]))
    have w1' := w1.keep (keep_upd (o := HO.lst [V.int a1, V.int b1', V.int c1]))
    have d8 : DiceAt (upd (upd (upd H5 t1 (HO.tup [V.int 1])) l1 (HO.lst [V.non, V.bl true, V.str "x", V.ref t1, V.int n])) p (HO.lst [V.int a1, V.int b1', V.int c1])) p := ⟨_, _, _, upd_same, ha1⟩
    generalize upd (upd (upd H5 t1 (HO.tup [V.int 1])) l1 (HO.lst [V.non, V.bl true, V.str "x", V.ref t1, V.int n])) p (HO.lst [V.int a1, V.int b1', V.int c1]) = H8 at k8 w1' d8 ⊢
    clear w1 e7 k7 d7 d6
    refine ⟨_, rfl, (by show 0 ≤ sizeLine; decide), fun t2 nt2 => ⟨_, rfl, (by show 6 ≤ sizeLine; decide), fun l2 nl2 => ?_⟩⟩
    have d9 := dice_new (o := HO.tup []) d8 nt2
    have d10 := dice_new (o := HO.lst [V.non, V.int 5, V.str "", V.ref t2, V.int n, V.str "orders"]) d9 nl2
    have k10 : Keep p H8 (upd (upd H8 t2 (HO.tup [])) l2 (HO.lst [V.non, V.int 5, V.str "", V.ref t2, V.int n, V.str "orders"])) := (keep_new nt2).trans (keep_new nl2)
    have e10 : upd (upd H8 t2 (HO.tup [])) l2 (HO.lst [V.non, V.int 5, V.str "", V.ref t2, V.int n, V.str "orders"]) t2 = some (HO.tup []) := (upd_ne (ne_of_none upd_same nl2)).trans upd_same
    refine ⟨p, l2, _, rfl, d10, upd_same, dice_ne d9 nl2, (by show 0 < 6; decide), (by show 6 < 1000; decide), fun i2 v2 a2 b2' c2 hv2 ha2 => ?_⟩
    have w2 : Dv p (upd (upd H8 t2 (HO.tup [])) l2 (HO.lst [V.non, V.int 5, V.str "", V.ref t2, V.int n, V.str "orders"])) v2 := dv_pick (fun x hx => by
      simp only [List.mem_cons, List.not_mem_nil, or_false] at hx
      rcases hx with rfl | rfl | rfl | rfl | rfl | rfl
      · exact dv_non
      · exact ⟨_, .int 5, by decide +kernel⟩
      · exact ⟨_, .str _, by decide +kernel⟩
      · exact .tup e10 (dice_ne d8 nt2) .nil (by decide +kernel)
      · exact hn'
      · exact ⟨_, .str _, by decide +kernel⟩) hv2
    have k11 := k10.trans (keep_upd (o := HO.lst [V.int a2, V.int b2', V.int c2]))
    have w2' := w2.keep (keep_upd (o := HO.lst [V.int a2, V.int b2', V.int c2]))
    have w1'' := w1'.keep k11
    have k12 := k8.trans k11
    have d12 : DiceAt (upd (upd (upd H8 t2 (HO.tup [])) l2 (HO.lst [V.non, V.int 5, V.str "", V.ref t2, V.int n, V.str "orders"])) p (HO.lst [V.int a2, V.int b2', V.int c2])) p := ⟨_, _, _, upd_same, ha2⟩
    generalize upd (upd (upd H8 t2 (HO.tup [])) l2 (HO.lst [V.non, V.int 5, V.str "", V.ref t2, V.int n, V.str "orders"])) p (HO.lst [V.int a2, V.int b2', V.int c2]) = H12 at k12 w2' w1'' d12 ⊢
    clear w2 e10 k10 d10 d9 k11 w1' k8 d8
    refine ⟨(by show 2 ≤ sizeLine; decide), fun l3 nl3 => ?_⟩
    have d13 := dice_new (o := HO.lst [v1, v2]) d12 nl3
    have k13 := k12.trans (keep_new (p := p) (o := HO.lst [v1, v2]) nl3)
    have wA := w1''.keep (keep_new (o := HO.lst [v1, v2]) nl3)
    have wB := w2'.keep (keep_new (o := HO.lst [v1, v2]) nl3)
    have e13 : upd H12 l3 (HO.lst [v1, v2]) l3 = some (HO.lst [v1, v2]) := upd_same
    have n13 := dice_ne d12 nl3
    generalize upd H12 l3 (HO.lst [v1, v2]) = H13 at d13 k13 wA wB e13 ⊢
    clear w1'' w2' d12 k12
    -- one more number
    refine ⟨_, rfl, _, rfl, _, rfl, _, rfl, (by show 4 ≤ sizeLine; decide), fun l4 nl4 => ?_⟩
    have d14 := dice_new (o := HO.lst [V.int 40, V.int 6, V.int 100, V.int (if n < 0 then -n else n)]) d13 nl4
    have k14 := keep_new (p := p) (o := HO.lst [V.int 40, V.int 6, V.int 100, V.int (if n < 0 then -n else n)]) nl4
    refine ⟨p, l4, _, rfl, d14, upd_same, dice_ne d13 nl4, (by show 0 < 4; decide), (by show 4 < 1000; decide), fun i3 v3 a3 b3' c3 hv3 ha3 => ?_⟩
    have w3 : ∀ {H' : Hp}, Dv p H' v3 := fun {H'} => dv_pick (xs := [V.int 40, V.int 6, V.int 100, V.int (if n < 0 then -n else n)]) (fun x hx => by
      simp only [List.mem_cons, List.not_mem_nil, or_false] at hx
      rcases hx with rfl | rfl | rfl | rfl
      · exact dv_int (by decide) (by decide)
      · exact dv_int (by decide) (by decide)
      · exact dv_int (by decide) (by decide)
      · exact ha') hv3
    have k15 := k14.trans (keep_upd (o := HO.lst [V.int a3, V.int b3', V.int c3]))
    have d15 : DiceAt (upd (upd H13 l4 (HO.lst [V.int 40, V.int 6, V.int 100, V.int (if n < 0 then -n else n)])) p (HO.lst [V.int a3, V.int b3', V.int c3])) p := ⟨_, _, _, upd_same, ha3⟩
    have e15 := k15 _ _ n13 e13
    generalize upd (upd H13 l4 (HO.lst [V.int 40, V.int 6, V.int 100, V.int (if n < 0 then -n else n)])) p (HO.lst [V.int a3, V.int b3', V.int c3]) = H15 at k15 d15 e15 ⊢
    refine ⟨(by show 1 ≤ sizeLine; decide), fun l5 nl5 => ?_⟩
    have d16 := dice_new (o := HO.lst [v3]) d15 nl5
    have k16 := k15.trans (keep_new (o := HO.lst [v3]) nl5)
    refine ⟨l3, l5, _, _, rfl, rfl, (upd_ne (ne_of_none e15 nl5)).trans e15, upd_same, (by show 3 ≤ sizeLine; decide), fun l6 nl6 => ?_⟩
    have uA := (wA.keep k16).dw (o := HO.lst [v1, v2, v3]) nl6
    have uB := (wB.keep k16).dw (o := HO.lst [v1, v2, v3]) nl6
    have uC := (w3 (H' := upd H15 l5 (HO.lst [v3]))).dw (o := HO.lst [v1, v2, v3]) nl6
    have kF : ∀ {H2 : Hp}, Keep2 p l6 (upd (upd H15 l5 (HO.lst [v3])) l6 (HO.lst [v1, v2, v3])) H2 → Keep p H H2 := fun h => keep_far (k13.trans k16) nl6 h
    have d17 := dice_new (o := HO.lst [v1, v2, v3]) d16 nl6
    have n6 := dice_ne d16 nl6
    have e17 : upd (upd H15 l5 (HO.lst [v3])) l6 (HO.lst [v1, v2, v3]) l6 = some (HO.lst [v1, v2, v3]) := upd_same
    have ee : ([v1, v2] ++ [v3] : List V) = [v1, v2, v3] := rfl
    rw [ee]
    generalize upd (upd H15 l5 (HO.lst [v3])) l6 (HO.lst [v1, v2, v3]) = H17 at uA uB uC kF d17 e17 ⊢
    clear k16 d16 k15 d15 e15 k14 d14 w3 k13 d13 wA wB e13 n13
    -- a tuple of numbers
    refine ⟨_, rfl, .inl ⟨rfl, _, .inl (.inl e17)⟩, _, rfl, ?_⟩
    have n6p := n6
    have ⟨ra, rb, rc, hpr, hra⟩ := d17
    refine ⟨p, 6, ra, rb, rc, rfl, hpr, hra, by decide, by decide, fun r4 x4 y4 z4 hr0 hr6 hx4 => ?_⟩
    refine ⟨_, _, rfl, rfl, _, _, rfl, rfl, RgOk.of_le (by decide) (by omega) (by decide) (by omega), fun q4 nq4 => ?_⟩
    have d18 : DiceAt (upd H17 p (HO.lst [V.int x4, V.int y4, V.int z4])) p := ⟨_, _, _, upd_same, hx4⟩
    have k18 : Keep2 p l6 H17 (upd H17 p (HO.lst [V.int x4, V.int y4, V.int z4])) := .of keep_upd
    have e18 : upd H17 p (HO.lst [V.int x4, V.int y4, V.int z4]) l6 = some (HO.lst [v1, v2, v3]) := (upd_ne n6).trans e17
    generalize upd H17 p (HO.lst [V.int x4, V.int y4, V.int z4]) = H18 at d18 k18 e18 nq4 ⊢
    have nq6 : q4 ≠ l6 := (ne_of_none e18 nq4).symm
    have nqp : q4 ≠ p := dice_ne d18 nq4
    have d19 := dice_new (o := HO.tup (rgV 1 (1 + r4))) d18 nq4
    have k19 : Keep2 p l6 H17 (upd H18 q4 (HO.tup (rgV 1 (1 + r4)))) := k18.trans (.of (keep_new nq4))
    have e19 : upd H18 q4 (HO.tup (rgV 1 (1 + r4))) l6 = some (HO.lst [v1, v2, v3]) := (upd_ne nq6.symm).trans e18
    have g19 : upd H18 q4 (HO.tup (rgV 1 (1 + r4))) q4 = some (HO.tup (rgV 1 (1 + r4))) := upd_same
    generalize upd H18 q4 (HO.tup (rgV 1 (1 + r4))) = H19 at d19 k19 e19 g19 ⊢
    refine ⟨l6, _, _, rfl, rfl, e19, (by show 3 < sizeLine; decide), ?_⟩
    have ee4 : ([v1, v2, v3] ++ [V.ref q4] : List V) = [v1, v2, v3, V.ref q4] := rfl
    rw [ee4]
    have k20 : Keep2 p l6 H17 (upd H19 l6 (HO.lst [v1, v2, v3, V.ref q4])) := k19.trans keep2_upl
    have d20 : DiceAt (upd H19 l6 (HO.lst [v1, v2, v3, V.ref q4])) p := by obtain ⟨a, b, c, q, ha⟩ := d19; exact ⟨a, b, c, (upd_ne n6.symm).trans q, ha⟩
    have e20 : upd H19 l6 (HO.lst [v1, v2, v3, V.ref q4]) l6 = some (HO.lst [v1, v2, v3, V.ref q4]) := upd_same
    have g20 : upd H19 l6 (HO.lst [v1, v2, v3, V.ref q4]) q4 = some (HO.tup (rgV 1 (1 + r4))) := (upd_ne nq6).trans g19
    generalize upd H19 l6 (HO.lst [v1, v2, v3, V.ref q4]) = H20 at k20 d20 e20 g20 ⊢
    have uD : Dw p l6 H20 (.ref q4) := dw_rg g20 nqp nq6 hr0 hr6
    replace uA := uA.keep k20; replace uB := uB.keep k20; replace uC := uC.keep k20
    have kG : ∀ {H2 : Hp}, Keep2 p l6 H20 H2 → Keep p H H2 := fun h => kF (k20.trans h)
    clear kF k20 k19 k18 d19 e19 g19 d18 e18 d17 e17 g20 hpr hra
    -- one of two papers
    refine ⟨_, rfl, .inl ⟨rfl, _, .inl (.inl e20)⟩, _, rfl, ?_⟩
    refine fun dd ndd => ?_
    refine ⟨(by show 1 ≤ sizeLine; decide), fun t5 nt5 => ?_⟩
    refine ⟨(upd_ne (ne_of_none upd_same nt5)).trans upd_same, [(.inr "live", .ref t5)], rfl, (by show 1 ≤ 15; decide), ?_⟩
    have em : mergeK [] [((.inr "live" : Key), V.ref t5)] = [((.inr "live" : Key), V.ref t5)] := rfl
    rw [em]
    have nd6 : dd ≠ l6 := (ne_of_none e20 ndd).symm
    have ndp : dd ≠ p := dice_ne d20 ndd
    have d21 := dice_new (o := HO.dK []) d20 ndd
    have e21 : upd H20 dd (HO.dK []) l6 = some (HO.lst [v1, v2, v3, V.ref q4]) := (upd_ne nd6.symm).trans e20
    have ntd : t5 ≠ dd := (ne_of_none upd_same nt5).symm
    have nt6 : t5 ≠ l6 := (ne_of_none e21 nt5).symm
    have ntp : t5 ≠ p := dice_ne d21 nt5
    have d22 := dice_new (o := HO.tup [V.str "old"]) d21 nt5
    have k22 : Keep p H20 (upd (upd H20 dd (HO.dK [])) t5 (HO.tup [V.str "old"])) := (keep_new ndd).trans (keep_new nt5)
    have g22 : upd (upd H20 dd (HO.dK [])) t5 (HO.tup [V.str "old"]) t5 = some (HO.tup [V.str "old"]) := upd_same
    generalize upd (upd H20 dd (HO.dK [])) t5 (HO.tup [V.str "old"]) = H22 at d22 k22 g22 ⊢
    have k23 : Keep p H20 (upd H22 dd (HO.dK [((.inr "live" : Key), V.ref t5)])) := fun b u hb e => by
      rw [upd_ne (ne_of_none e ndd)]; exact k22 b u hb e
    have d23 : DiceAt (upd H22 dd (HO.dK [((.inr "live" : Key), V.ref t5)])) p := by obtain ⟨a, b, c, q, ha⟩ := d22; exact ⟨a, b, c, (upd_ne ndp.symm).trans q, ha⟩
    have g23 : upd H22 dd (HO.dK [((.inr "live" : Key), V.ref t5)]) t5 = some (HO.tup [V.str "old"]) := (upd_ne ntd).trans g22
    have f23 : upd H22 dd (HO.dK [((.inr "live" : Key), V.ref t5)]) dd = some (HO.dK [((.inr "live" : Key), V.ref t5)]) := upd_same
    generalize upd H22 dd (HO.dK [((.inr "live" : Key), V.ref t5)]) = H23 at k23 d23 g23 f23 ⊢
    have k22e : ∀ {o : HO}, H20 l6 = some o → H23 l6 = some o := fun e => k23 _ _ n6 e
    clear k22 d22 g22 d21 e21
    refine ⟨(by show 3 ≤ sizeLine; decide), fun T1 nT1 => ⟨(by show 1 ≤ sizeLine; decide), fun ta nta => ⟨(by show 1 ≤ sizeLine; decide), fun tb ntb => ⟨(by show 1 ≤ sizeLine; decide), fun tc ntc => ⟨(by show 3 ≤ sizeLine; decide), fun T2 nT2 => ⟨(by show 2 ≤ sizeLine; decide), fun L nL => ?_⟩⟩⟩⟩⟩⟩
    have e23 := k22e e20
    have s24 := same_new (o := HO.tup [V.str "dodging", V.int 0, V.ref dd]) nT1
    have g24 : upd H23 T1 (HO.tup [V.str "dodging", V.int 0, V.ref dd]) T1 = some (HO.tup [V.str "dodging", V.int 0, V.ref dd]) := upd_same
    have n24p := dice_ne d23 nT1
    have n24l := (ne_of_none e23 nT1).symm
    generalize upd H23 T1 (HO.tup [V.str "dodging", V.int 0, V.ref dd]) = H24 at s24 g24 nta ntb ntc nT2 nL ⊢
    have s25 := same_new (o := HO.tup [V.str "old"]) nta
    have g25 : upd H24 ta (HO.tup [V.str "old"]) ta = some (HO.tup [V.str "old"]) := upd_same
    have n25p := dice_ne (d23.same s24) nta
    have n25l := (ne_of_none (s24 _ _ e23) nta).symm
    generalize upd H24 ta (HO.tup [V.str "old"]) = H25 at s25 g25 ntb ntc nT2 nL ⊢
    have S25 := s24.trans s25
    have s26 := same_new (o := HO.tup [V.str "next"]) ntb
    have g26 : upd H25 tb (HO.tup [V.str "next"]) tb = some (HO.tup [V.str "next"]) := upd_same
    have n26p := dice_ne (d23.same S25) ntb
    have n26l := (ne_of_none (S25 _ _ e23) ntb).symm
    generalize upd H25 tb (HO.tup [V.str "next"]) = H26 at s26 g26 ntc nT2 nL ⊢
    have S26 := S25.trans s26
    have s27 := same_new (o := HO.tup [V.ref tb]) ntc
    have g27 : upd H26 tc (HO.tup [V.ref tb]) tc = some (HO.tup [V.ref tb]) := upd_same
    have n27p := dice_ne (d23.same S26) ntc
    have n27l := (ne_of_none (S26 _ _ e23) ntc).symm
    generalize upd H26 tc (HO.tup [V.ref tb]) = H27 at s27 g27 nT2 nL ⊢
    have S27 := S26.trans s27
    have s28 := same_new (o := HO.tup [V.str "blind", V.ref ta, V.ref tc]) nT2
    have g28 : upd H27 T2 (HO.tup [V.str "blind", V.ref ta, V.ref tc]) T2 = some (HO.tup [V.str "blind", V.ref ta, V.ref tc]) := upd_same
    have n28p := dice_ne (d23.same S27) nT2
    have n28l := (ne_of_none (S27 _ _ e23) nT2).symm
    generalize upd H27 T2 (HO.tup [V.str "blind", V.ref ta, V.ref tc]) = H28 at s28 g28 nL ⊢
    have S28 := S27.trans s28
    have s29 := same_new (o := HO.lst [V.ref T1, V.ref T2]) nL
    have g29 : upd H28 L (HO.lst [V.ref T1, V.ref T2]) L = some (HO.lst [V.ref T1, V.ref T2]) := upd_same
    have n29p := dice_ne (d23.same S28) nL
    generalize upd H28 L (HO.lst [V.ref T1, V.ref T2]) = H29 at s29 g29 ⊢
    have S29 := S28.trans s29
    have d29 := d23.same S29
    have k29 : Keep p H20 H29 := k23.trans fun b u _ e => S29 _ _ e
    have out : ∀ {q : Addr} {o : HO}, q ≠ p → q ≠ l6 → H29 q = some o → del (del H29 p) l6 q = some o := fun h1 h2 h3 => by rw [del_ne h2, del_ne h1]; exact h3
    have r25 := s29 _ _ (s28 _ _ (s27 _ _ (s26 _ _ g25)))
    have r26 := s29 _ _ (s28 _ _ (s27 _ _ g26))
    have r27 := s29 _ _ (s28 _ _ g27)
    have x1 : Dw p l6 H29 (.ref T1) := ⟨_, .tup (out n24p n24l (s29 _ _ (s28 _ _ (s27 _ _ (s26 _ _ (s25 _ _ g24)))))) (.cons (.str _) (.cons (.int 0) (.cons (.dct (out ndp nd6 (S29 _ _ f23)) (.cons (.tup (out ntp nt6 (S29 _ _ g23)) (.cons (.str _) .nil)) .nil)) .nil))), (by show Sm (.tuple [.str "dodging", .int 0, .dict [(.str "live", .tuple [.str "old"])]]); decide +kernel)⟩
    have x2 : Dw p l6 H29 (.ref T2) := ⟨_, .tup (out n28p n28l (s29 _ _ g28)) (.cons (.str _) (.cons (.tup (out n25p n25l r25) (.cons (.str _) .nil)) (.cons (.tup (out n27p n27l r27) (.cons (.tup (out n26p n26l r26) (.cons (.str _) .nil)) .nil)) .nil))), by decide +kernel⟩
    clear r25 r26 r27 out S28 S27 S26 S25 s24 s25 s26 s27 s28 s29 g24 g25 g26 g27 g28 n24p n24l n25p n25l n26p n26l n27p n27l n28p n28l S29 d23 k23 g23 f23
    refine ⟨p, L, _, rfl, d29, g29, n29p, (by show 0 < 2; decide), (by show 2 < 1000; decide), fun i5 v5 a5 b5 c5 hv5 ha5 => ?_⟩
    have x5 : Dw p l6 H29 v5 := by
      have hx := List.mem_of_getElem? hv5
      simp only [List.mem_cons, List.not_mem_nil, or_false] at hx
      rcases hx with rfl | rfl
      · exact x1
      · exact x2
    have k30 := k29.trans (keep_upd (o := HO.lst [V.int a5, V.int b5, V.int c5]))
    replace x5 := x5.keep (.of (keep_upd (p := p) (H := H29) (o := HO.lst [V.int a5, V.int b5, V.int c5])))
    have d30 : DiceAt (upd H29 p (HO.lst [V.int a5, V.int b5, V.int c5])) p := ⟨_, _, _, upd_same, ha5⟩
    have e30 := k30 _ _ n6.symm.symm e20
    generalize upd H29 p (HO.lst [V.int a5, V.int b5, V.int c5]) = H30 at k30 x5 d30 e30 ⊢
    refine ⟨l6, _, _, rfl, rfl, e30, (by show 4 < sizeLine; decide), ?_⟩
    have ee5 : ([v1, v2, v3, V.ref q4] ++ [v5] : List V) = [v1, v2, v3, V.ref q4, v5] := rfl
    rw [ee5]
    have k31 : Keep2 p l6 H20 (upd H30 l6 (HO.lst [v1, v2, v3, V.ref q4, v5])) := (Keep2.of k30).trans keep2_upl
    have d31 : DiceAt (upd H30 l6 (HO.lst [v1, v2, v3, V.ref q4, v5])) p := by obtain ⟨a, b, c, q, ha⟩ := d30; exact ⟨a, b, c, (upd_ne n6.symm).trans q, ha⟩
    have e31 : upd H30 l6 (HO.lst [v1, v2, v3, V.ref q4, v5]) l6 = some (HO.lst [v1, v2, v3, V.ref q4, v5]) := upd_same
    replace x5 : Dw p l6 (upd H30 l6 (HO.lst [v1, v2, v3, V.ref q4, v5])) v5 := x5.keep keep2_upl
    generalize upd H30 l6 (HO.lst [v1, v2, v3, V.ref q4, v5]) = H31 at k31 d31 e31 x5 ⊢
    refine ⟨_, rfl, .inl ⟨rfl, _, .inl (.inl e31)⟩, _, rfl, _, rfl, l6, _, _, rfl, rfl, e31, (by show 5 < sizeLine; decide), ?_⟩
    have ee6 : ([v1, v2, v3, V.ref q4, v5] ++ [V.int (if n < 0 then -n else n)] : List V) = [v1, v2, v3, V.ref q4, v5, V.int (if n < 0 then -n else n)] := rfl
    rw [ee6]
    have k32 : Keep2 p l6 H20 (upd H31 l6 (HO.lst [v1, v2, v3, V.ref q4, v5, V.int (if n < 0 then -n else n)])) := k31.trans keep2_upl
    have e32 : upd H31 l6 (HO.lst [v1, v2, v3, V.ref q4, v5, V.int (if n < 0 then -n else n)]) l6 = some (HO.lst [v1, v2, v3, V.ref q4, v5, V.int (if n < 0 then -n else n)]) := upd_same
    replace x5 : Dw p l6 (upd H31 l6 (HO.lst [v1, v2, v3, V.ref q4, v5, V.int (if n < 0 then -n else n)])) v5 := x5.keep keep2_upl
    generalize upd H31 l6 (HO.lst [v1, v2, v3, V.ref q4, v5, V.int (if n < 0 then -n else n)]) = H32 at k32 e32 x5 ⊢
    have kH : ∀ {H2 : Hp}, Keep2 p l6 H32 H2 → Keep p H H2 := fun h => kG (k32.trans h)
    have hall : ∀ x ∈ [v1, v2, v3, V.ref q4, v5, V.int (if n < 0 then -n else n)], Dw p l6 H32 x := fun x hx => by
      simp only [List.mem_cons, List.not_mem_nil, or_false] at hx
      rcases hx with rfl | rfl | rfl | rfl | rfl | rfl
      · exact uA.keep k32
      · exact uB.keep k32
      · exact uC.keep k32
      · exact uD.keep k32
      · exact x5
      · exact dw_int (by have : (10 : Int) ^ 40 < 10 ^ 41 := by decide
                         split <;> omega) (by have : (10 : Int) ^ 40 < 10 ^ 41 := by decide
                                              split <;> omega)
    have hlen : [v1, v2, v3, V.ref q4, v5, V.int (if n < 0 then -n else n)].length = 6 := rfl
    generalize [v1, v2, v3, V.ref q4, v5, V.int (if n < 0 then -n else n)] = xs at e32 hall hlen ⊢
    clear k32 uA uB uC uD x5 k31 d31 e31 e30 k30 kG d30 d20
    refine ⟨_, rfl, l6, xs, rfl, SqL.of e32, ?_⟩
    refine for_it walk_enum (fun i σ H' => (∃ a b c, σ = [some (.ref p), some (.str z), some (.int n), a, some (.ref l6), b, c, none]) ∧ Same H32 H') ⟨⟨_, _, _, rfl⟩, Same.refl _⟩ (fun i σ H' _ hp => SqL.of (hp.2 _ _ e32)) ?_ ?_
    · rintro i y σ H0 H0' hi ⟨⟨a, b, c, rfl⟩, s0⟩ hy
      obtain ⟨Tp, x0, y0, rfl, nTp, rfl, hx0, hy0⟩ := hy
      obtain rfl : V.int (i : Nat) = x0 := by simpa using hx0
      have hi6 : i < 6 := by rw [← hlen]; exact hi
      have hy1 : Dw p l6 H32 y0 := hall _ (List.mem_of_getElem? hy0)
      refine ⟨Tp, _, rfl, SqT.of upd_same, rfl, _, _, rfl, _, _, rfl, rfl, ?_⟩
      have s1 := s0.trans (same_new (o := HO.tup [V.int (i : Nat), y0]) nTp)
      generalize upd H0 Tp (HO.tup [V.int (i : Nat), y0]) = H33 at s1 ⊢
      clear s0 nTp hx0 hy0
      refine ⟨_, rfl, _, rfl, (by show 1 ≤ sizeLine; decide), fun lr nlr => ?_⟩
      refine ⟨lr, 7, _, rfl, rfl, upd_same, by decide, by decide, (by show 1 * 7 ≤ sizeLine; decide), fun l7 nl7 => ?_⟩
      have s2 := (s1.trans (same_new (o := HO.lst [V.bl false]) nlr)).trans (same_new (o := HO.lst (bNo7.map V.bl)) nl7)
      have eb : (List.replicate (Int.toNat 7) [V.bl false]).flatten = bNo7.map V.bl := by decide
      rw [eb]
      have f7 : upd (upd H33 lr (HO.lst [V.bl false])) l7 (HO.lst (bNo7.map V.bl)) l7 = some (HO.lst (bNo7.map V.bl)) := upd_same
      generalize upd (upd H33 lr (HO.lst [V.bl false])) l7 (HO.lst (bNo7.map V.bl)) = H34 at s2 f7 ⊢
      clear s1 nlr nl7 eb
      refine ⟨6, rfl, by decide, by decide, fun D hD => ?_⟩
      refine lc_range (n := 6) (fun j H' => H' D = some (.lst (((List.range j).map fun m => decide (i = m)).map V.bl)) ∧ Same H34 H') ⟨upd_same, same_new hD⟩ ?_ ?_
      · rintro j H' hj ⟨h1, h2⟩
        refine ⟨rfl, tt_yes ?_⟩
        refine ⟨_, rfl, _, rfl, rfl, _, h1, by rw [List.length_map, List.length_map, List.length_range]; exact Nat.lt_of_lt_of_le hj (by decide), ?_, fun b o e => ?_⟩
        · rw [upd_same, List.range_succ, List.map_append, List.map_append]
          have e : decide (V.int (0 + ((j : Nat) : Int)) = V.int ((i : Nat) : Int)) = decide (i = j) := by
            rw [Int.zero_add]
            by_cases h : i = j
            · rw [h]; simp
            · rw [decide_eq_false h, decide_eq_false fun e => h (by have := V.int.inj e; omega)]
          rw [e]; rfl
        · rw [upd_ne (ne_of_none e hD)]; exact h2 _ _ e
      · rintro H35 ⟨h1, h2⟩
        have s35 := s2.trans h2
        refine ⟨_, rfl, i, hi6, rfl, fun lD H36 s36 nD fD => ?_⟩
        refine ⟨(by show 6 ≤ sizeLine; decide), fun t8 nt8 => ?_⟩
        have s37 := same_new (o := HO.tup [V.int (i : Nat), y0, V.ref l7, V.ref D, V.ref lD, V.bl false]) nt8
        have f37 : upd H36 t8 (HO.tup [V.int (i : Nat), y0, V.ref l7, V.ref D, V.ref lD, V.bl false]) t8 = some (HO.tup [V.int (i : Nat), y0, V.ref l7, V.ref D, V.ref lD, V.bl false]) := upd_same
        generalize upd H36 t8 (HO.tup [V.int (i : Nat), y0, V.ref l7, V.ref D, V.ref lD, V.bl false]) = H37 at s37 f37 ⊢
        refine ⟨_, rfl, _, rfl, i, y0, hi6, rfl, fun tk m1 m2 m3 H38 s38 ft g1 g2 g3 => ?_⟩
        obtain ⟨dd0, hdd, sdd⟩ := hy1
        have sAll := ((s35.trans s36).trans s37).trans s38
        have hdd8 : Dq H38 y0 dd0 := hdd.keeps fun b o e => sAll _ _ (del_sub _ _ (del_sub _ _ e))
        have ok := row_ok (i := i) (d := dd0) (b7 := bNo7) (b6 := (List.range 6).map fun m => decide (i = m)) (c6 := basesOf i) hi6 sdd (by decide) (by rw [List.length_map, List.length_range]; decide) (by unfold basesOf; rw [List.length_map, List.length_range]; decide)
        have q1 : Dq H38 (.ref tk) (rowD i dd0 bNo7 ((List.range 6).map fun m => decide (i = m)) (basesOf i)) := .tup ft (.cons (.int _) (.cons hdd8 (.cons (.lst g1 (dq_bools _)) (.cons (.lst g2 (dq_bools _)) (.cons (.lst g3 (dq_bools _)) (.cons (.bl false) .nil))))))
        have sC := s37.trans s38
        have sB := s36.trans sC
        have q2 : Dq H38 (.ref t8) (rowD i dd0 bNo7 ((List.range 6).map fun m => decide (i = m)) (basesOf i)) := .tup (s38 _ _ f37) (.cons (.int _) (.cons hdd8 (.cons (.lst (sB _ _ (h2 _ _ f7)) (dq_bools _)) (.cons (.lst (sB _ _ h1) (dq_bools _)) (.cons (.lst (sC _ _ fD) (dq_bools _)) (.cons (.bl false) .nil))))))
        refine ⟨tk, _, rfl, q1, ok.1, ok.2.1, ok.2.2, ?_⟩
        refine ⟨_, rfl, t8, _, rfl, q2, ok.1, ok.2.1, ok.2.2, rfl, _, rfl, ?_⟩
        have eN : (!decide (V.str (rowD i dd0 bNo7 ((List.range 6).map fun m => decide (i = m)) (basesOf i)).shown = V.str (rowD i dd0 bNo7 ((List.range 6).map fun m => decide (i = m)) (basesOf i)).shown)) = false := by simp
        rw [eN]
        exact iteF ⟨⟨_, _, _, rfl⟩, sAll⟩
    · rintro σ H' ⟨_, s0⟩
      exact k _ (kH fun b u _ _ e => s0 _ _ e)
end
end Kk
namespace Kk
open PySem PySem.Spec PyProof.Rows L2 Ox Dc
abbrev sLaw : Stmt := top 31
abbrev NL : List Str := ["_law_script", "_law_at", "_law_one", "_law_two"]
structure TxL (K : PySem.W.Frag) (mg : Str → Option Value) (A J : Nat → Addr) (P : Program) (w : World) (base : Heap) : Prop extends TxO K mg A J where
  right : ∃ f fd, mg "_law_right" = some (.ref f) ∧ PySem.W.keepIn K (.ref f) = true ∧ Binds K fd ["_law_dice_here"] [] ∧ FnG P w K mg base 5 f fd ["_law_dice_here"] spRight
  dice : ∃ f fd, mg "_law_dice" = some (.ref f) ∧ PySem.W.keepIn K (.ref f) = true ∧ Binds K fd ["_law_script", "_law_at"] [] ∧ FnOk P w K mg base CX0 1 f fd ["_law_script", "_law_at"] (spDice K)
  max : mg "max" = none
  min : mg "min" = none
  len : mg "len" = none
def spLaw (K : PySem.W.Frag) : Sp := fun vs H Q _ => ∃ (a : Addr) (ns : List Int), vs = [.ref a] ∧ SqL K H a (ns.map V.int) ∧ ∀ H', Q (.bl true) H'
section
variable {P : Program} {w : World} {K : PySem.W.Frag} {mg : Str → Option Value} {base : Heap} {A J : Nat → Addr}
theorem sql_same {H H' : Hp} {a : Addr} {xs : List V} (h : SqL K H a xs) (s : Same H H') : SqL K H' a xs := by
  rcases h with (h | ⟨o, h⟩) | h
  · exact .inl (.inl (s _ _ h))
  · exact .inl (.inr ⟨o, s _ _ h⟩)
  · exact .inr h
theorem scL : FnScope NL ["_law_script"] (defScope sLaw) := ⟨rfl, rfl, rfl, by decide +kernel, rfl, by decide +kernel, by decide +kernel⟩
theorem ok_law {f : Addr} {fd : FuncData} (F : Fun K "law" "law" sLaw f fd) (T : TxL K mg A J P w base) : FnG P w K mg base 6 f fd ["_law_script"] (spLaw K) := by
  obtain ⟨fR, fdR, mR, kR, bR, GR⟩ := T.right; obtain ⟨fD, fdD, mD, kD, bD, GD⟩ := T.dice
  refine F.okG scL (fun vs H Q E h => ?_) (fun cdv A' outer s H vs Q E hgd hr h => ?_)
  · obtain ⟨a, ns, rfl, _⟩ := h; rfl
  · obtain ⟨a, ns, rfl, hS, k⟩ := h
    have hr1 : Room 1 _ := hr.mono (by decide); have hu := hr.units
    refine ⟨_, pss_cons (ps_for PassesOwn.never rfl (pi_range1 (by rfl) T.range (pa_cons (pe_callB (call_max2 rfl) (by rfl) T.max PyProof.Rows.boot_max (pa_cons pe_int (pa_cons (pe_callB (call_min2 rfl) (by rfl) T.min PyProof.Rows.boot_min (pa_cons pe_int (pa_cons (pe_callB call_len_seq (by rfl) T.len PySem.boot_len (pa_cons (pv 0) pa_nil)) pa_nil))) pa_nil))) pa_nil)) (pg_name (i := 1) scL.nd rfl (.inl rfl))
        (pss_one (ps_if (pt_not (pt_val (pe_callG GR hgd hr (by rfl) mR kR bR (pa_cons (pe_call GD hr1 (by rfl) mD kD bD .nil pass0 (pa_cons (pv 0) (pa_cons (pv 1) pa_nil))) pa_nil)))) (pss_one (ps_ret pe_bl)) pss_nil)))
      (pss_cons (ps_par (i := 2) (j := 3) rfl scL.nd rfl rfl (by decide) rfl rfl (pa_cons (pe_ov T.o0 T.g8 hr1 (pa_cons pe_int pa_nil)) (pa_cons (pe_ov T.o0 T.g8 hr1 (pa_cons pe_int pa_nil)) pa_nil)) (by rfl))
      (pss_one (ps_ret (pe_cmpR (op_eqD hu) (pe_lst (pa_cons (pe_xv T.o0 (pv 2)) (pa_cons (pe_xv T.o0 (pv 3)) (pa_cons (pe_xv T.o1 (pe_ov T.o1 T.g9 hr1 (pa_cons pe_str pa_nil))) (pa_cons (pe_xv T.o2 (pe_ov T.o2 T.g10 hr1 (pa_cons pe_int pa_nil))) pa_nil)))))
          (pe_lst (pa_cons pe_int (pa_cons pe_int (pa_cons pe_str (pa_cons pe_int pa_nil))))) (nomark _))))), ?_⟩
    have hj : ∀ m : Nat, 0 ≤ (if (if ((m : Nat) : Int) < 6 then ((m : Nat) : Int) else 6) > 1 then (if ((m : Nat) : Int) < 6 then ((m : Nat) : Int) else 6) else 1) ∧ (if (if ((m : Nat) : Int) < 6 then ((m : Nat) : Int) else 6) > 1 then (if ((m : Nat) : Int) < 6 then ((m : Nat) : Int) else 6) else 1) ≤ 6 := fun m => by
      constructor <;> (repeat' split) <;> omega
    refine ⟨_, rfl, a, _, rfl, .inl hS, _, _, rfl, _, _, rfl, _, rfl, ?_, ?_, ?_⟩
    · have := (hj (ns.map V.int).length).1; exact Int.le_trans (by decide) this
    · have := (hj (ns.map V.int).length).2; exact Int.lt_of_le_of_lt this (by decide)
    have hn := (hj (ns.map V.int).length).2
    generalize (if (if (((ns.map V.int).length : Nat) : Int) < 6 then (((ns.map V.int).length : Nat) : Int) else 6) > 1 then (if (((ns.map V.int).length : Nat) : Int) < 6 then (((ns.map V.int).length : Nat) : Int) else 6) else 1) = jj at hn ⊢
    clear hj
    refine for_it walk_range (fun i σ H' => (∃ b, σ = [some (.ref a), b, none, none]) ∧ Same H H') ⟨⟨_, rfl⟩, Same.refl _⟩ (fun _ _ _ _ _ => trivial) ?_ ?_
    · rintro i x σ H0 H0' hi ⟨⟨b, rfl⟩, s0⟩ ⟨rfl, rfl⟩
      refine ⟨_, rfl, _, rfl, a, ns, i, by (show [V.ref a, V.int (0 + ((i : Nat) : Int))] = _; rw [Int.zero_add]), sql_same hS s0, by omega, fun p x y np hx => ?_⟩
      refine ⟨p, rfl, ⟨_, _, _, upd_same, hx⟩, fun H2 k2 => ?_⟩
      refine ⟨_, rfl, ?_⟩
      exact iteF ⟨⟨_, rfl⟩, fun c u e => k2 c u (fun z => by rw [z] at e; have := s0 _ _ e; rw [np] at this; cases this) (by rw [upd_ne (ne_of_none (s0 _ _ e) np)]; exact s0 _ _ e)⟩
    · rintro σ H1 ⟨⟨b, rfl⟩, s1⟩
      clear s1
      refine ⟨_, rfl, fun e1 d1 ne1 nd1 n1 => ⟨_, rfl, fun e2 d2 ne2 nd2 n2 => ⟨_, _, rfl, ?_⟩⟩⟩
      have t1 : Same (upd H1 d1 (.xd [("value", V.int 5)])) (upd (upd H1 d1 (.xd [("value", V.int 5)])) e1 (exo e1 (A 8) (some d1))) := same_new (by rw [upd_ne n1.symm]; exact ne1)
      have x1 : upd (upd H1 d1 (.xd [("value", V.int 5)])) e1 (exo e1 (A 8) (some d1)) e1 = some (exo e1 (A 8) (some d1)) := upd_same
      have y1 := t1 _ _ upd_same
      generalize upd (upd H1 d1 (.xd [("value", V.int 5)])) e1 (exo e1 (A 8) (some d1)) = H2 at ne2 nd2 x1 y1 ⊢
      have t2 : Same H2 (upd (upd H2 d2 (.xd [("value", V.int 6)])) e2 (exo e2 (A 8) (some d2))) := (same_new nd2).trans (same_new (by rw [upd_ne n2.symm]; exact ne2))
      have x2 : upd (upd H2 d2 (.xd [("value", V.int 6)])) e2 (exo e2 (A 8) (some d2)) e2 = some (exo e2 (A 8) (some d2)) := upd_same
      have y2 : upd (upd H2 d2 (.xd [("value", V.int 6)])) e2 (exo e2 (A 8) (some d2)) d2 = some (.xd [("value", V.int 6)]) := (upd_ne n2).trans upd_same
      replace x1 := t2 _ _ x1; replace y1 := t2 _ _ y1
      generalize upd (upd H2 d2 (.xd [("value", V.int 6)])) e2 (exo e2 (A 8) (some d2)) = H3 at x1 y1 x2 y2 ⊢
      refine ⟨_, rfl, e1, d1, _, rfl, x1, y1, _, rfl, e2, d2, _, rfl, x2, y2, ?_⟩
      refine ⟨_, rfl, fun e3 d3 ne3 nd3 n3 => ⟨e3, d3, _, rfl, upd_same, (upd_ne n3).trans upd_same, ?_⟩⟩
      refine ⟨_, rfl, fun e4 d4 ne4 nd4 n4 => ⟨e4, d4, _, rfl, upd_same, (upd_ne n4).trans upd_same, ?_⟩⟩
      refine ⟨(by show 4 ≤ sizeLine; decide), fun l1 nl1 => ⟨(by show 4 ≤ sizeLine; decide), fun l2 nl2 => ?_⟩⟩
      refine ⟨.list [.int 5, .int 6, .str "a", .int 40], .list [.int 5, .int 6, .str "a", .int 40], .lst (SqL.of ((upd_ne (ne_of_none upd_same nl2)).trans upd_same)) (.cons (.int _) (.cons (.int _) (.cons (.str _) (.cons (.int _) .nil)))), .lst (SqL.of upd_same) (.cons (.int _) (.cons (.int _) (.cons (.str _) (.cons (.int _) .nil)))), (by decide +kernel), (by decide +kernel), ?_⟩
      rw [SeqAt.eqv_refl _ (by decide +kernel)]
      exact k _
end
end Kk
namespace Kk
open PySem PySem.Spec PyProof.Rows L2 Ox Dc
/-- addresses by their numbers -/
def Af (l : List Addr) : Nat → Addr := fun n => l.getD n 0
def ansB (K : PySem.W.Frag) (D : Addr) : List Value → List Bool → Bool
  | [], [] => true
  | c :: cs, b :: bs => (PySem.W.kitOne K (.ref D) c == some b) && ansB K D cs bs
  | _, _ => false
theorem ans_of {K : PySem.W.Frag} {D : Addr} : ∀ {cs : List Value} {bs : List Bool}, ansB K D cs bs = true → Ans K D cs bs
  | [], [], _ => .nil
  | c :: cs, b :: bs, h => by
    have h' := Bool.and_eq_true_iff.mp (show ((PySem.W.kitOne K (.ref D) c == some b) && ansB K D cs bs) = true from h)
    exact .cons (beq_iff_eq.mp h'.1) (ans_of h'.2)
  | [], _ :: _, h => nomatch h
  | _ :: _, [], h => nomatch h
theorem all_at {n : Nat} {p : Nat → Bool} (h : (List.range n).all p = true) : ∀ i, i < n → p i = true := fun i hi => List.all_eq_true.mp h i (List.mem_range.mpr hi)
/-- what is asked of a class of errors -/
def exB (K : PySem.W.Frag) (D : Addr) : Bool :=
  (PySem.W.findIn K (.ref D) "__getattribute__" == some (some (.builtin "BaseException.__getattribute__"))) && ((PySem.W.findIn K (.ref D) "__getattr__" == some none) && ((PySem.W.subIn K (.ref D) (.type "BaseException") == some true) && (PySem.W.hasDictIn K D &&
  ((PySem.W.findIn K (.ref D) "__class__" == some (some (.builtin "object.__class__"))) && ((PySem.W.mroIn K D (.type "object") == some true) && (PySem.W.keepIn K (.ref D) && (PySem.W.typeIn K (.ref D) == some (.type "type"))))))))
structure ExF (K : PySem.W.Frag) (D : Addr) : Prop where
  a : PySem.W.findIn K (.ref D) "__getattribute__" = some (some (.builtin "BaseException.__getattribute__"))
  b : PySem.W.findIn K (.ref D) "__getattr__" = some none
  c : PySem.W.subIn K (.ref D) (.type "BaseException") = some true
  d : PySem.W.hasDictIn K D = true
  e : PySem.W.findIn K (.ref D) "__class__" = some (some (.builtin "object.__class__"))
  f : PySem.W.mroIn K D (.type "object") = some true
  g : PySem.W.keepIn K (.ref D) = true
  h : PySem.W.typeIn K (.ref D) = some (.type "type")
theorem exF_of {K : PySem.W.Frag} {D : Addr} (h : exB K D = true) : ExF K D := by
  unfold exB at h
  simp only [Bool.and_eq_true, beq_iff_eq] at h
  obtain ⟨a, b, c, d, e, f, g, h⟩ := h
  exact ⟨a, b, c, d, e, f, g, h⟩
theorem all_mk {P : Program} {w : World} {K : PySem.W.Frag} {h : Heap} {mg : Str → Option Value} {fa : Addr} {a0 a1 a2 a3 a4 a5 a6 a7 a8 a9 a10 a11 a12 a13 : Addr} {j0 j1 j2 j3 j4 j5 : Addr} {f0 f1 f2 f3 f4 f5 f6 f7 f8 f9 f10 f11 f12 f13 f14 : Addr} (X : K.In h) (G : h.Ns mainGlobals mg) (hfa : mg "law" = some (.ref fa))
    {od0 an0 : Option Addr} {sl0 : Array (Option Value)} {oc0 kV0 dc0 pm0 cd0 ct0 : Value}
    {od1 an1 : Option Addr} {sl1 : Array (Option Value)} {oc1 kV1 dc1 pm1 cd1 ct1 : Value}
    {od2 an2 : Option Addr} {sl2 : Array (Option Value)} {oc2 kV2 dc2 pm2 cd2 ct2 : Value}
    {od3 an3 : Option Addr} {sl3 : Array (Option Value)} {oc3 kV3 dc3 pm3 cd3 ct3 : Value}
    {od4 an4 : Option Addr} {sl4 : Array (Option Value)} {oc4 kV4 dc4 pm4 cd4 ct4 : Value}
    {od5 an5 : Option Addr} {sl5 : Array (Option Value)} {oc5 kV5 dc5 pm5 cd5 ct5 : Value}
    {od6 an6 : Option Addr} {sl6 : Array (Option Value)} {oc6 kV6 dc6 pm6 cd6 ct6 : Value}
    {od7 an7 : Option Addr} {sl7 : Array (Option Value)} {oc7 kV7 dc7 pm7 cd7 ct7 : Value}
    {od8 an8 : Option Addr} {sl8 : Array (Option Value)} {oc8 kV8 dc8 pm8 cd8 ct8 : Value}
    {od9 an9 : Option Addr} {sl9 : Array (Option Value)} {oc9 kV9 dc9 pm9 cd9 ct9 : Value}
    {od10 an10 : Option Addr} {sl10 : Array (Option Value)} {oc10 kV10 dc10 pm10 cd10 ct10 : Value}
    {od11 an11 : Option Addr} {sl11 : Array (Option Value)} {oc11 kV11 dc11 pm11 cd11 ct11 : Value}
    {od12 an12 : Option Addr} {sl12 : Array (Option Value)} {oc12 kV12 dc12 pm12 cd12 ct12 : Value}
    {od13 an13 : Option Addr} {sl13 : Array (Option Value)} {oc13 kV13 dc13 pm13 cd13 ct13 : Value}
    {od14 an14 : Option Addr} {sl14 : Array (Option Value)} {oc14 kV14 dc14 pm14 cd14 ct14 : Value}
    {nm0 qn0 : Str} {N0 : Addr} {bs0 : List Value} {sn0 : List Str} {sub0 : List Value} {ab0 : Bool} {col0 : Option Bool} {dd0 : Option Addr} {m00 m01 m02 m03 m05 : Option Value} {iod0 ian0 : Option Addr} {isl0 : Array (Option Value)} {ioc0 idc0 ipm0 icd0 ict0 : Value} {p01 p02 q01 q02 q03 q04 : Pos}
    {nm1 qn1 : Str} {N1 : Addr} {bs1 : List Value} {sn1 : List Str} {sub1 : List Value} {ab1 : Bool} {col1 : Option Bool} {dd1 : Option Addr} {m10 m11 m12 m13 m15 : Option Value} {iod1 ian1 : Option Addr} {isl1 : Array (Option Value)} {ioc1 idc1 ipm1 icd1 ict1 : Value} {p11 p12 q11 q12 q13 q14 : Pos}
    {nm2 qn2 : Str} {N2 : Addr} {bs2 : List Value} {sn2 : List Str} {sub2 : List Value} {ab2 : Bool} {col2 : Option Bool} {dd2 : Option Addr} {m20 m21 m22 m23 m25 : Option Value} {iod2 ian2 : Option Addr} {isl2 : Array (Option Value)} {ioc2 idc2 ipm2 icd2 ict2 : Value} {p21 p22 q21 q22 q23 q24 : Pos}
    {nm3 qn3 : Str} {N3 : Addr} {bs3 : List Value} {sn3 : List Str} {sub3 : List Value} {ab3 : Bool} {col3 : Option Bool} {dd3 : Option Addr} {m30 m31 m32 m33 m35 : Option Value} {iod3 ian3 : Option Addr} {isl3 : Array (Option Value)} {ioc3 idc3 ipm3 icd3 ict3 : Value} {p31 p32 q31 q32 q33 q34 : Pos}
    {nm4 qn4 : Str} {N4 : Addr} {bs4 : List Value} {sn4 : List Str} {sub4 : List Value} {ab4 : Bool} {col4 : Option Bool} {dd4 : Option Addr} {m40 m41 m42 m43 m45 : Option Value} {iod4 ian4 : Option Addr} {isl4 : Array (Option Value)} {ioc4 idc4 ipm4 icd4 ict4 : Value} {p41 p42 q41 q42 q43 q44 : Pos}
    {nm5 qn5 : Str} {N5 : Addr} {bs5 : List Value} {sn5 : List Str} {sub5 : List Value} {ab5 : Bool} {col5 : Option Bool} {dd5 : Option Addr} {m50 m51 m52 m53 m55 : Option Value} {iod5 ian5 : Option Addr} {isl5 : Array (Option Value)} {ioc5 idc5 ipm5 icd5 ict5 : Value} {p51 p52 q51 q52 q53 q54 : Pos}
    (g0 : PySem.W.nsIn K mainGlobals "MoveError" = some (some (.ref a0)))
    (g1 : PySem.W.nsIn K mainGlobals "InvalidMover" = some (some (.ref a1)))
    (g2 : PySem.W.nsIn K mainGlobals "InvalidReader" = some (some (.ref a2)))
    (g3 : PySem.W.nsIn K mainGlobals "InvalidStore" = some (some (.ref a3)))
    (g4 : PySem.W.nsIn K mainGlobals "InvalidOperation" = some (some (.ref a4)))
    (g5 : PySem.W.nsIn K mainGlobals "ParseError" = some (some (.ref a5)))
    (g6 : PySem.W.nsIn K mainGlobals "InvalidCommand" = some (some (.ref a6)))
    (g7 : PySem.W.nsIn K mainGlobals "TornJournal" = some (some (.ref a7)))
    (g8 : PySem.W.nsIn K mainGlobals "InvalidNumber" = some (some (.ref a8)))
    (g9 : PySem.W.nsIn K mainGlobals "UnknownName" = some (some (.ref a9)))
    (g10 : PySem.W.nsIn K mainGlobals "TooMany" = some (some (.ref a10)))
    (g11 : PySem.W.nsIn K mainGlobals "Waits" = some (some (.ref a11)))
    (g12 : PySem.W.nsIn K mainGlobals "Unreadable" = some (some (.ref a12)))
    (g13 : PySem.W.nsIn K mainGlobals "NothingToUndo" = some (some (.ref a13)))
    (d0 : PySem.W.nsIn K mainGlobals "_law_dice" = some (some (.ref f0)))
    (l0 : K.lookup f0 = some ⟨oc0, od0, .func (PySem.W.fnOf "_law_dice" "_law_dice" (defArgs sDice) (defBody sDice) (defScope sDice) .none kV0 dc0 pm0 an0 cd0 ct0), sl0⟩)
    (c0 : PySem.W.codeIn K cd0 "_law_dice" = true)
    (k0 : PySem.W.keepIn K (.ref f0) = true)
    (d1 : PySem.W.nsIn K mainGlobals "_law_roll" = some (some (.ref f1)))
    (l1 : K.lookup f1 = some ⟨oc1, od1, .func (PySem.W.fnOf "_law_roll" "_law_roll" (defArgs sRoll) (defBody sRoll) (defScope sRoll) .none kV1 dc1 pm1 an1 cd1 ct1), sl1⟩)
    (c1 : PySem.W.codeIn K cd1 "_law_roll" = true)
    (k1 : PySem.W.keepIn K (.ref f1) = true)
    (d2 : PySem.W.nsIn K mainGlobals "_law_one_of" = some (some (.ref f2)))
    (l2 : K.lookup f2 = some ⟨oc2, od2, .func (PySem.W.fnOf "_law_one_of" "_law_one_of" (defArgs sOne) (defBody sOne) (defScope sOne) .none kV2 dc2 pm2 an2 cd2 ct2), sl2⟩)
    (c2 : PySem.W.codeIn K cd2 "_law_one_of" = true)
    (k2 : PySem.W.keepIn K (.ref f2) = true)
    (d3 : PySem.W.nsIn K mainGlobals "_law_text" = some (some (.ref f3)))
    (l3 : K.lookup f3 = some ⟨oc3, od3, .func (PySem.W.fnOf "_law_text" "_law_text" (defArgs sText) (defBody sText) (defScope sText) .none kV3 dc3 pm3 an3 cd3 ct3), sl3⟩)
    (c3 : PySem.W.codeIn K cd3 "_law_text" = true)
    (k3 : PySem.W.keepIn K (.ref f3) = true)
    (d4 : PySem.W.nsIn K mainGlobals "_law_number" = some (some (.ref f4)))
    (l4 : K.lookup f4 = some ⟨oc4, od4, .func (PySem.W.fnOf "_law_number" "_law_number" (defArgs sNum) (defBody sNum) (defScope sNum) .none kV4 dc4 pm4 an4 cd4 ct4), sl4⟩)
    (c4 : PySem.W.codeIn K cd4 "_law_number" = true)
    (k4 : PySem.W.keepIn K (.ref f4) = true)
    (d5 : PySem.W.nsIn K mainGlobals "_law_kinds" = some (some (.ref f5)))
    (l5 : K.lookup f5 = some ⟨oc5, od5, .func (PySem.W.fnOf "_law_kinds" "_law_kinds" (defArgs sKinds) (defBody sKinds) (defScope sKinds) .none kV5 dc5 pm5 an5 cd5 ct5), sl5⟩)
    (c5 : PySem.W.codeIn K cd5 "_law_kinds" = true)
    (k5 : PySem.W.keepIn K (.ref f5) = true)
    (d6 : PySem.W.nsIn K mainGlobals "_law_others" = some (some (.ref f6)))
    (l6 : K.lookup f6 = some ⟨oc6, od6, .func (PySem.W.fnOf "_law_others" "_law_others" (defArgs sOthers) (defBody sOthers) (defScope sOthers) .none kV6 dc6 pm6 an6 cd6 ct6), sl6⟩)
    (c6 : PySem.W.codeIn K cd6 "_law_others" = true)
    (k6 : PySem.W.keepIn K (.ref f6) = true)
    (d7 : PySem.W.nsIn K mainGlobals "_law_bases" = some (some (.ref f7)))
    (l7 : K.lookup f7 = some ⟨oc7, od7, .func (PySem.W.fnOf "_law_bases" "_law_bases" (defArgs sBases) (defBody sBases) (defScope sBases) .none kV7 dc7 pm7 an7 cd7 ct7), sl7⟩)
    (c7 : PySem.W.codeIn K cd7 "_law_bases" = true)
    (k7 : PySem.W.keepIn K (.ref f7) = true)
    (d8 : PySem.W.nsIn K mainGlobals "_law_thrown" = some (some (.ref f8)))
    (l8 : K.lookup f8 = some ⟨oc8, od8, .func (PySem.W.fnOf "_law_thrown" "_law_thrown" (defArgs sThrown) (defBody sThrown) (defScope sThrown) .none kV8 dc8 pm8 an8 cd8 ct8), sl8⟩)
    (c8 : PySem.W.codeIn K cd8 "_law_thrown" = true)
    (k8 : PySem.W.keepIn K (.ref f8) = true)
    (d9 : PySem.W.nsIn K mainGlobals "_law_caught" = some (some (.ref f9)))
    (l9 : K.lookup f9 = some ⟨oc9, od9, .func (PySem.W.fnOf "_law_caught" "_law_caught" (defArgs sCaught) (defBody sCaught) (defScope sCaught) .none kV9 dc9 pm9 an9 cd9 ct9), sl9⟩)
    (c9 : PySem.W.codeIn K cd9 "_law_caught" = true)
    (k9 : PySem.W.keepIn K (.ref f9) = true)
    (d10 : PySem.W.nsIn K mainGlobals "_law_hurled" = some (some (.ref f10)))
    (l10 : K.lookup f10 = some ⟨oc10, od10, .func (PySem.W.fnOf "_law_hurled" "_law_hurled" (defArgs sHurled) (defBody sHurled) (defScope sHurled) .none kV10 dc10 pm10 an10 cd10 ct10), sl10⟩)
    (c10 : PySem.W.codeIn K cd10 "_law_hurled" = true)
    (k10 : PySem.W.keepIn K (.ref f10) = true)
    (d11 : PySem.W.nsIn K mainGlobals "_law_kept" = some (some (.ref f11)))
    (l11 : K.lookup f11 = some ⟨oc11, od11, .func (PySem.W.fnOf "_law_kept" "_law_kept" (defArgs sKept) (defBody sKept) (defScope sKept) .none kV11 dc11 pm11 an11 cd11 ct11), sl11⟩)
    (c11 : PySem.W.codeIn K cd11 "_law_kept" = true)
    (k11 : PySem.W.keepIn K (.ref f11) = true)
    (d12 : PySem.W.nsIn K mainGlobals "_law_due_bases" = some (some (.ref f12)))
    (l12 : K.lookup f12 = some ⟨oc12, od12, .func (PySem.W.fnOf "_law_due_bases" "_law_due_bases" (defArgs sDue) (defBody sDue) (defScope sDue) .none kV12 dc12 pm12 an12 cd12 ct12), sl12⟩)
    (c12 : PySem.W.codeIn K cd12 "_law_due_bases" = true)
    (k12 : PySem.W.keepIn K (.ref f12) = true)
    (d13 : PySem.W.nsIn K mainGlobals "_law_right" = some (some (.ref f13)))
    (l13 : K.lookup f13 = some ⟨oc13, od13, .func (PySem.W.fnOf "_law_right" "_law_right" (defArgs sRight) (defBody sRight) (defScope sRight) .none kV13 dc13 pm13 an13 cd13 ct13), sl13⟩)
    (c13 : PySem.W.codeIn K cd13 "_law_right" = true)
    (k13 : PySem.W.keepIn K (.ref f13) = true)
    (d14 : PySem.W.nsIn K mainGlobals "law" = some (some (.ref f14)))
    (l14 : K.lookup f14 = some ⟨oc14, od14, .func (PySem.W.fnOf "law" "law" (defArgs sLaw) (defBody sLaw) (defScope sLaw) .none kV14 dc14 pm14 an14 cd14 ct14), sl14⟩)
    (c14 : PySem.W.codeIn K cd14 "law" = true)
    (k14 : PySem.W.keepIn K (.ref f14) = true)
    (z0 : PySem.W.nsIn K mainGlobals "isinstance" = some none)
    (z1 : PySem.W.nsIn K mainGlobals "IndexError" = some none)
    (z2 : PySem.W.nsIn K mainGlobals "KeyError" = some none)
    (z3 : PySem.W.nsIn K mainGlobals "OverflowError" = some none)
    (z4 : PySem.W.nsIn K mainGlobals "RuntimeError" = some none)
    (z5 : PySem.W.nsIn K mainGlobals "ArithmeticError" = some none)
    (z6 : PySem.W.nsIn K mainGlobals "LookupError" = some none)
    (z7 : PySem.W.nsIn K mainGlobals "ValueError" = some none)
    (z8 : PySem.W.nsIn K mainGlobals "range" = some none)
    (z9 : PySem.W.nsIn K mainGlobals "abs" = some none)
    (z10 : PySem.W.nsIn K mainGlobals "tuple" = some none)
    (z11 : PySem.W.nsIn K mainGlobals "enumerate" = some none)
    (z12 : PySem.W.nsIn K mainGlobals "repr" = some none)
    (z13 : PySem.W.nsIn K mainGlobals "max" = some none)
    (z14 : PySem.W.nsIn K mainGlobals "min" = some none)
    (z15 : PySem.W.nsIn K mainGlobals "len" = some none)
    (z16 : PySem.W.nsIn K mainGlobals "int" = some none)
    (z17 : PySem.W.nsIn K mainGlobals "list" = some none)
    (x0 : K.lookup a8 = some (excClassObj nm0 qn0 a8 N0 bs0 PySem.Mk0.bIx true sn0 sub0 ab0 col0 dd0 m00 m01 m02 m03 m05 "IndexError.__new__"))
    (s0 : PySem.W.findIn K (.ref a8) "__setattr__" = some (some (.builtin "object.__setattr__")))
    (n0 : PySem.W.findIn K (.ref a8) "value" = some none)
    (i0 : PySem.W.findIn K (.ref a8) "__init__" = some (some (.ref j0)))
    (t0 : PySem.W.typeIn K (.ref j0) = some (.type "function"))
    (y0 : K.lookup j0 = some ⟨ioc0, iod0, .func (PySem.W.fnOf "__init__" "InvalidNumber.__init__" (PySem.Mk0.oA "value" p01 p02) (PySem.Mk0.oB "value" q01 q02 q03 q04) (PySem.Mk0.oS "value") .none .none idc0 ipm0 ian0 icd0 ict0), isl0⟩)
    (v0 : PySem.W.codeIn K icd0 "InvalidNumber.__init__" = true)
    (x1 : K.lookup a9 = some (excClassObj nm1 qn1 a9 N1 bs1 PySem.Mk0.bKey true sn1 sub1 ab1 col1 dd1 m10 m11 m12 m13 m15 "LookupError.__new__"))
    (s1 : PySem.W.findIn K (.ref a9) "__setattr__" = some (some (.builtin "object.__setattr__")))
    (n1 : PySem.W.findIn K (.ref a9) "name" = some none)
    (i1 : PySem.W.findIn K (.ref a9) "__init__" = some (some (.ref j1)))
    (t1 : PySem.W.typeIn K (.ref j1) = some (.type "function"))
    (y1 : K.lookup j1 = some ⟨ioc1, iod1, .func (PySem.W.fnOf "__init__" "UnknownName.__init__" (PySem.Mk0.oA "name" p11 p12) (PySem.Mk0.oB "name" q11 q12 q13 q14) (PySem.Mk0.oS "name") .none .none idc1 ipm1 ian1 icd1 ict1), isl1⟩)
    (v1 : PySem.W.codeIn K icd1 "UnknownName.__init__" = true)
    (x2 : K.lookup a10 = some (excClassObj nm2 qn2 a10 N2 bs2 PySem.Mk0.bOv true sn2 sub2 ab2 col2 dd2 m20 m21 m22 m23 m25 "OverflowError.__new__"))
    (s2 : PySem.W.findIn K (.ref a10) "__setattr__" = some (some (.builtin "object.__setattr__")))
    (n2 : PySem.W.findIn K (.ref a10) "limit" = some none)
    (i2 : PySem.W.findIn K (.ref a10) "__init__" = some (some (.ref j2)))
    (t2 : PySem.W.typeIn K (.ref j2) = some (.type "function"))
    (y2 : K.lookup j2 = some ⟨ioc2, iod2, .func (PySem.W.fnOf "__init__" "TooMany.__init__" (PySem.Mk0.oA "limit" p21 p22) (PySem.Mk0.oB "limit" q21 q22 q23 q24) (PySem.Mk0.oS "limit") .none .none idc2 ipm2 ian2 icd2 ict2), isl2⟩)
    (v2 : PySem.W.codeIn K icd2 "TooMany.__init__" = true)
    (x3 : K.lookup a11 = some (excClassObj nm3 qn3 a11 N3 bs3 PySem.Mk0.bRt true sn3 sub3 ab3 col3 dd3 m30 m31 m32 m33 m35 "RuntimeError.__new__"))
    (s3 : PySem.W.findIn K (.ref a11) "__setattr__" = some (some (.builtin "object.__setattr__")))
    (n3 : PySem.W.findIn K (.ref a11) "readers" = some none)
    (i3 : PySem.W.findIn K (.ref a11) "__init__" = some (some (.ref j3)))
    (t3 : PySem.W.typeIn K (.ref j3) = some (.type "function"))
    (y3 : K.lookup j3 = some ⟨ioc3, iod3, .func (PySem.W.fnOf "__init__" "Waits.__init__" (PySem.Mk0.oA "readers" p31 p32) (PySem.Mk0.oB "readers" q31 q32 q33 q34) (PySem.Mk0.oS "readers") .none .none idc3 ipm3 ian3 icd3 ict3), isl3⟩)
    (v3 : PySem.W.codeIn K icd3 "Waits.__init__" = true)
    (x4 : K.lookup a12 = some (excClassObj nm4 qn4 a12 N4 bs4 PySem.Mk0.bAr true sn4 sub4 ab4 col4 dd4 m40 m41 m42 m43 m45 "ArithmeticError.__new__"))
    (s4 : PySem.W.findIn K (.ref a12) "__setattr__" = some (some (.builtin "object.__setattr__")))
    (n4 : PySem.W.findIn K (.ref a12) "paper" = some none)
    (i4 : PySem.W.findIn K (.ref a12) "__init__" = some (some (.ref j4)))
    (t4 : PySem.W.typeIn K (.ref j4) = some (.type "function"))
    (y4 : K.lookup j4 = some ⟨ioc4, iod4, .func (PySem.W.fnOf "__init__" "Unreadable.__init__" (PySem.Mk0.oA "paper" p41 p42) (PySem.Mk0.oB "paper" q41 q42 q43 q44) (PySem.Mk0.oS "paper") .none .none idc4 ipm4 ian4 icd4 ict4), isl4⟩)
    (v4 : PySem.W.codeIn K icd4 "Unreadable.__init__" = true)
    (x5 : K.lookup a13 = some (excClassObj nm5 qn5 a13 N5 bs5 PySem.Mk0.bLk true sn5 sub5 ab5 col5 dd5 m50 m51 m52 m53 m55 "LookupError.__new__"))
    (s5 : PySem.W.findIn K (.ref a13) "__setattr__" = some (some (.builtin "object.__setattr__")))
    (n5 : PySem.W.findIn K (.ref a13) "many" = some none)
    (i5 : PySem.W.findIn K (.ref a13) "__init__" = some (some (.ref j5)))
    (t5 : PySem.W.typeIn K (.ref j5) = some (.type "function"))
    (y5 : K.lookup j5 = some ⟨ioc5, iod5, .func (PySem.W.fnOf "__init__" "NothingToUndo.__init__" (PySem.Mk0.oA "many" p51 p52) (PySem.Mk0.oB "many" q51 q52 q53 q54) (PySem.Mk0.oS "many") .none .none idc5 ipm5 ian5 icd5 ict5), isl5⟩)
    (v5 : PySem.W.codeIn K icd5 "NothingToUndo.__init__" = true)
    (hn : PySem.W.specialIn K (.builtin "object.__class__") "__get__" = some (some (.builtin "getset_descriptor.__get__")))
    (ht : PySem.W.takesIn K (.builtin "object.__class__") = some true)
    (bEx : (List.range 14).all (fun i => exB K ((Af [a0, a1, a2, a3, a4, a5, a6, a7, a8, a9, a10, a11, a12, a13]) i)) = true)
    (bXp : (List.range 8).all (fun i => PySem.W.excIn K ((Af [a0, a1, a2, a3, a4, a5, a6, a7, a8, a9, a10, a11, a12, a13]) i) bVe "ValueError.__new__") = true)
    (bEm : (List.range 8).all (fun i => PySem.W.exmOne K (.ref ((Af [a0, a1, a2, a3, a4, a5, a6, a7, a8, a9, a10, a11, a12, a13]) i)) (.ref ((Af [a0, a1, a2, a3, a4, a5, a6, a7, a8, a9, a10, a11, a12, a13]) 0)) == some true) = true)
    (bKd : (List.range 14).all (fun i => ansB K ((Af [a0, a1, a2, a3, a4, a5, a6, a7, a8, a9, a10, a11, a12, a13]) i) (csK (Af [a0, a1, a2, a3, a4, a5, a6, a7, a8, a9, a10, a11, a12, a13])) ((List.range 7).map fun j => decide (i = j + 1))) = true)
    (bOt : (List.range 14).all (fun i => ansB K ((Af [a0, a1, a2, a3, a4, a5, a6, a7, a8, a9, a10, a11, a12, a13]) i) (csO (Af [a0, a1, a2, a3, a4, a5, a6, a7, a8, a9, a10, a11, a12, a13])) ((List.range 6).map fun j => decide (i = j + 8))) = true)
    (bBs : (List.range 8).all (fun i => ansB K ((Af [a0, a1, a2, a3, a4, a5, a6, a7, a8, a9, a10, a11, a12, a13]) i) csB [false, false, false, false, false, false]) = true)
    (bVE : (List.range 8).all (fun i => PySem.W.kitOne K (.ref ((Af [a0, a1, a2, a3, a4, a5, a6, a7, a8, a9, a10, a11, a12, a13]) i)) (.type "ValueError") == some true) = true)
    (bE2 : (List.range 6).all (fun n => (List.range 6).all fun i => PySem.W.exmOne K (.ref ((Af [a0, a1, a2, a3, a4, a5, a6, a7, a8, a9, a10, a11, a12, a13]) (n + 8))) (.ref ((Af [a0, a1, a2, a3, a4, a5, a6, a7, a8, a9, a10, a11, a12, a13]) (i + 8))) == some (decide (n = i))) = true)
    (bB2 : (List.range 6).all (fun n => ansB K ((Af [a0, a1, a2, a3, a4, a5, a6, a7, a8, a9, a10, a11, a12, a13]) (n + 8)) csB (basesOf n)) = true)
    (bMv : (List.range 6).all (fun n => PySem.W.kitOne K (.ref ((Af [a0, a1, a2, a3, a4, a5, a6, a7, a8, a9, a10, a11, a12, a13]) (n + 8))) (.ref ((Af [a0, a1, a2, a3, a4, a5, a6, a7, a8, a9, a10, a11, a12, a13]) 0)) == some false) = true)
    : ∃ fd : FuncData, (∀ (s : Shared) (u : Value), BindsTo s fd ⟨[u], []⟩ [("_law_script", u)]) ∧ ∀ base : Heap, K.In base → base.Ns mainGlobals mg → (∃ o, base.get? sysModules = some o) → FnG P w K mg base 6 fa fd ["_law_script"] (spLaw K) := by
  have e := hfa.symm.trans (PySem.W.mg_of X G d14)
  cases e
  have ex := all_at bEx
  have EF : ∀ i, i < 14 → ExF K ((Af [a0, a1, a2, a3, a4, a5, a6, a7, a8, a9, a10, a11, a12, a13]) i) := fun i hi => exF_of (ex i hi)
  have EC : ∀ i, i < 14 → ExcC K ((Af [a0, a1, a2, a3, a4, a5, a6, a7, a8, a9, a10, a11, a12, a13]) i) := fun i hi => ⟨(EF i hi).a, (EF i hi).b, (EF i hi).c, (EF i hi).d, (EF i hi).e, hn, ht, (EF i hi).f⟩
  have TC : TxC K mg (Af [a0, a1, a2, a3, a4, a5, a6, a7, a8, a9, a10, a11, a12, a13]) := { g0 := PySem.W.mg_of X G g0, g1 := PySem.W.mg_of X G g1, g2 := PySem.W.mg_of X G g2, g3 := PySem.W.mg_of X G g3, g4 := PySem.W.mg_of X G g4, g5 := PySem.W.mg_of X G g5, g6 := PySem.W.mg_of X G g6, g7 := PySem.W.mg_of X G g7, g8 := PySem.W.mg_of X G g8, g9 := PySem.W.mg_of X G g9, g10 := PySem.W.mg_of X G g10, g11 := PySem.W.mg_of X G g11, g12 := PySem.W.mg_of X G g12, g13 := PySem.W.mg_of X G g13, ec := EC, isi := PySem.W.mg_none_of X G z0, nIx := PySem.W.mg_none_of X G z1, nKey := PySem.W.mg_none_of X G z2, nOv := PySem.W.mg_none_of X G z3, nRt := PySem.W.mg_none_of X G z4, nAr := PySem.W.mg_none_of X G z5, nLk := PySem.W.mg_none_of X G z6, nVe := PySem.W.mg_none_of X G z7 }
  have TV : TxV K mg (Af [a0, a1, a2, a3, a4, a5, a6, a7, a8, a9, a10, a11, a12, a13]) := { TC with xP := fun i hi => all_at bXp i hi, kP := fun i hi => (EF i hi).g, bP := fun i hi => (EF i hi).c, tP := fun i hi => (EF i hi).h, range := PySem.W.mg_none_of X G z8, em := fun i hi => beq_iff_eq.mp (all_at bEm i hi), kd := fun i hi => ans_of (all_at bKd i hi), ot := fun i hi => ans_of (all_at bOt i hi), bs := fun i hi => ans_of (all_at bBs i hi), ve := fun i hi => beq_iff_eq.mp (all_at bVE i hi) }
  have o0 : PySem.Mk0.OTxt K a8 j0 "value" "InvalidNumber.__init__" "IndexError" "IndexError.__new__" PySem.Mk0.bIx :=
    { fn := by decide, F := ⟨_, _, PySem.F.excBase_IndexError⟩, Z := PySem.Mk0.z_ix, cls := ⟨_, _, _, _, _, _, _, _, _, _, _, _, _, _, x0⟩, sa := s0, ga := (EF 8 (by decide)).a, gg := (EF 8 (by decide)).b, noN := n0, iC := i0, tC := t0, kC := (EF 8 (by decide)).g, exC := (EF 8 (by decide)).c, tyC := (EF 8 (by decide)).h, hdC := (EF 8 (by decide)).d, def_ := ⟨_, _, _, _, _, _, _, _, _, _, _, _, _, _, y0, v0⟩ }
  have o1 : PySem.Mk0.OTxt K a9 j1 "name" "UnknownName.__init__" "LookupError" "LookupError.__new__" PySem.Mk0.bKey :=
    { fn := by decide, F := ⟨_, _, PySem.F.excBase_LookupError⟩, Z := PySem.Mk0.z_key, cls := ⟨_, _, _, _, _, _, _, _, _, _, _, _, _, _, x1⟩, sa := s1, ga := (EF 9 (by decide)).a, gg := (EF 9 (by decide)).b, noN := n1, iC := i1, tC := t1, kC := (EF 9 (by decide)).g, exC := (EF 9 (by decide)).c, tyC := (EF 9 (by decide)).h, hdC := (EF 9 (by decide)).d, def_ := ⟨_, _, _, _, _, _, _, _, _, _, _, _, _, _, y1, v1⟩ }
  have o2 : PySem.Mk0.OTxt K a10 j2 "limit" "TooMany.__init__" "OverflowError" "OverflowError.__new__" PySem.Mk0.bOv :=
    { fn := by decide, F := ⟨_, _, PySem.F.excBase_OverflowError⟩, Z := PySem.Mk0.z_ov, cls := ⟨_, _, _, _, _, _, _, _, _, _, _, _, _, _, x2⟩, sa := s2, ga := (EF 10 (by decide)).a, gg := (EF 10 (by decide)).b, noN := n2, iC := i2, tC := t2, kC := (EF 10 (by decide)).g, exC := (EF 10 (by decide)).c, tyC := (EF 10 (by decide)).h, hdC := (EF 10 (by decide)).d, def_ := ⟨_, _, _, _, _, _, _, _, _, _, _, _, _, _, y2, v2⟩ }
  have o3 : PySem.Mk0.OTxt K a11 j3 "readers" "Waits.__init__" "RuntimeError" "RuntimeError.__new__" PySem.Mk0.bRt :=
    { fn := by decide, F := ⟨_, _, PySem.F.excBase_RuntimeError⟩, Z := PySem.Mk0.z_rt, cls := ⟨_, _, _, _, _, _, _, _, _, _, _, _, _, _, x3⟩, sa := s3, ga := (EF 11 (by decide)).a, gg := (EF 11 (by decide)).b, noN := n3, iC := i3, tC := t3, kC := (EF 11 (by decide)).g, exC := (EF 11 (by decide)).c, tyC := (EF 11 (by decide)).h, hdC := (EF 11 (by decide)).d, def_ := ⟨_, _, _, _, _, _, _, _, _, _, _, _, _, _, y3, v3⟩ }
  have o4 : PySem.Mk0.OTxt K a12 j4 "paper" "Unreadable.__init__" "ArithmeticError" "ArithmeticError.__new__" PySem.Mk0.bAr :=
    { fn := by decide, F := ⟨_, _, PySem.F.excBase_ArithmeticError⟩, Z := PySem.Mk0.z_ar, cls := ⟨_, _, _, _, _, _, _, _, _, _, _, _, _, _, x4⟩, sa := s4, ga := (EF 12 (by decide)).a, gg := (EF 12 (by decide)).b, noN := n4, iC := i4, tC := t4, kC := (EF 12 (by decide)).g, exC := (EF 12 (by decide)).c, tyC := (EF 12 (by decide)).h, hdC := (EF 12 (by decide)).d, def_ := ⟨_, _, _, _, _, _, _, _, _, _, _, _, _, _, y4, v4⟩ }
  have o5 : PySem.Mk0.OTxt K a13 j5 "many" "NothingToUndo.__init__" "LookupError" "LookupError.__new__" PySem.Mk0.bLk :=
    { fn := by decide, F := ⟨_, _, PySem.F.excBase_LookupError⟩, Z := PySem.Mk0.z_lk, cls := ⟨_, _, _, _, _, _, _, _, _, _, _, _, _, _, x5⟩, sa := s5, ga := (EF 13 (by decide)).a, gg := (EF 13 (by decide)).b, noN := n5, iC := i5, tC := t5, kC := (EF 13 (by decide)).g, exC := (EF 13 (by decide)).c, tyC := (EF 13 (by decide)).h, hdC := (EF 13 (by decide)).d, def_ := ⟨_, _, _, _, _, _, _, _, _, _, _, _, _, _, y5, v5⟩ }
  have TO : TxO K mg (Af [a0, a1, a2, a3, a4, a5, a6, a7, a8, a9, a10, a11, a12, a13]) (Af [j0, j1, j2, j3, j4, j5]) := { TV with o0 := o0, o1 := o1, o2 := o2, o3 := o3, o4 := o4, o5 := o5, em2 := fun n hn i hi => beq_iff_eq.mp (all_at (all_at bE2 n hn) i hi), bs2 := fun n hn => ans_of (all_at bB2 n hn), mv := fun n hn => beq_iff_eq.mp (all_at bMv n hn) }
  have F0 := fun_mk (st := sDice) l0 c0 k0
  have b0 := F0.binds (ps := ["_law_script", "_law_at"]) fun _ _ _ _ _ _ us hl => match us, hl with | [_, _], _ => rfl
  have M0 := PySem.W.mg_of X G d0
  have F1 := fun_mk (st := sRoll) l1 c1 k1
  have b1 := F1.binds (ps := ["_law_dice_here", "_law_total"]) fun _ _ _ _ _ _ us hl => match us, hl with | [_, _], _ => rfl
  have M1 := PySem.W.mg_of X G d1
  have F2 := fun_mk (st := sOne) l2 c2 k2
  have b2 := F2.binds (ps := ["_law_dice_here", "_law_items"]) fun _ _ _ _ _ _ us hl => match us, hl with | [_, _], _ => rfl
  have M2 := PySem.W.mg_of X G d2
  have F3 := fun_mk (st := sText) l3 c3 k3
  have b3 := F3.binds (ps := ["_law_dice_here"]) fun _ _ _ _ _ _ us hl => match us, hl with | [_], _ => rfl
  have M3 := PySem.W.mg_of X G d3
  have F4 := fun_mk (st := sNum) l4 c4 k4
  have b4 := F4.binds (ps := ["_law_dice_here"]) fun _ _ _ _ _ _ us hl => match us, hl with | [_], _ => rfl
  have M4 := PySem.W.mg_of X G d4
  have F5 := fun_mk (st := sKinds) l5 c5 k5
  have b5 := F5.binds (ps := ["_law_error"]) fun _ _ _ _ _ _ us hl => match us, hl with | [_], _ => rfl
  have M5 := PySem.W.mg_of X G d5
  have F6 := fun_mk (st := sOthers) l6 c6 k6
  have b6 := F6.binds (ps := ["_law_error"]) fun _ _ _ _ _ _ us hl => match us, hl with | [_], _ => rfl
  have M6 := PySem.W.mg_of X G d6
  have F7 := fun_mk (st := sBases) l7 c7 k7
  have b7 := F7.binds (ps := ["_law_error"]) fun _ _ _ _ _ _ us hl => match us, hl with | [_], _ => rfl
  have M7 := PySem.W.mg_of X G d7
  have F8 := fun_mk (st := sThrown) l8 c8 k8
  have b8 := F8.binds (ps := ["_law_number_here", "_law_word"]) fun _ _ _ _ _ _ us hl => match us, hl with | [_, _], _ => rfl
  have M8 := PySem.W.mg_of X G d8
  have F9 := fun_mk (st := sCaught) l9 c9 k9
  have b9 := F9.binds (ps := ["_law_number_here", "_law_word"]) fun _ _ _ _ _ _ us hl => match us, hl with | [_, _], _ => rfl
  have M9 := PySem.W.mg_of X G d9
  have F10 := fun_mk (st := sHurled) l10 c10 k10
  have b10 := F10.binds (ps := ["_law_number_here", "_law_told"]) fun _ _ _ _ _ _ us hl => match us, hl with | [_, _], _ => rfl
  have M10 := PySem.W.mg_of X G d10
  have F11 := fun_mk (st := sKept) l11 c11 k11
  have b11 := F11.binds (ps := ["_law_number_here", "_law_told"]) fun _ _ _ _ _ _ us hl => match us, hl with | [_, _], _ => rfl
  have M11 := PySem.W.mg_of X G d11
  have F12 := fun_mk (st := sDue) l12 c12 k12
  have b12 := F12.binds (ps := ["_law_number_here"]) fun _ _ _ _ _ _ us hl => match us, hl with | [_], _ => rfl
  have M12 := PySem.W.mg_of X G d12
  have F13 := fun_mk (st := sRight) l13 c13 k13
  have b13 := F13.binds (ps := ["_law_dice_here"]) fun _ _ _ _ _ _ us hl => match us, hl with | [_], _ => rfl
  have M13 := PySem.W.mg_of X G d13
  have F14 := fun_mk (st := sLaw) l14 c14 k14
  refine ⟨PySem.W.fnOf "law" "law" (defArgs sLaw) (defBody sLaw) (defScope sLaw) .none kV14 dc14 pm14 an14 cd14 ct14, fun s u => .of_eq rfl, fun base hKb _ hsys => ?_⟩
  have TB : TxB K mg := ⟨PySem.W.mg_none_of X G z15, PySem.W.mg_none_of X G z16, PySem.W.mg_none_of X G z9, PySem.W.mg_none_of X G z13, PySem.W.mg_none_of X G z17, PySem.W.mg_none_of X G z8⟩
  have R0 := ok_dice (P := P) (w := w) (base := base) F0 TB
  have R1 := ok_roll (P := P) (w := w) (base := base) F1 TB
  have TD : TxD K mg P w base := { TB with roll := ⟨_, _, M1, k1, b1, R1⟩ }
  have R2 := ok_one F2 TD
  have TE : TxE K mg P w base := { TD with one := ⟨_, _, M2, k2, b2, R2⟩ }
  have R3 := ok_text F3 TE
  have R4 := ok_num F4 TE
  have R5 := ok_kinds (P := P) (w := w) (base := base) F5 TC
  have R6 := ok_others (P := P) (w := w) (base := base) F6 TC
  have R7 := ok_bases (P := P) (w := w) (base := base) F7 TC
  have R8 := ok_thrown (P := P) (w := w) (base := base) F8 TV
  have TH : TxH K mg (Af [a0, a1, a2, a3, a4, a5, a6, a7, a8, a9, a10, a11, a12, a13]) P w base := { TV with kinds := ⟨_, _, M5, k5, b5, R5⟩, others := ⟨_, _, M6, k6, b6, R6⟩, bases := ⟨_, _, M7, k7, b7, R7⟩, thrown := ⟨_, _, M8, k8, b8, R8⟩ }
  have R9 := ok_caught F9 TH
  have R10 := ok_hurled (P := P) (w := w) (base := base) F10 TO
  have TK : TxK K mg (Af [a0, a1, a2, a3, a4, a5, a6, a7, a8, a9, a10, a11, a12, a13]) (Af [j0, j1, j2, j3, j4, j5]) P w base := { TO with kinds := ⟨_, _, M5, k5, b5, R5⟩, others := ⟨_, _, M6, k6, b6, R6⟩, bases := ⟨_, _, M7, k7, b7, R7⟩, hurled := ⟨_, _, M10, k10, b10, R10⟩ }
  have R11 := ok_kept F11 TK
  have R12 := ok_due (P := P) (w := w) (base := base) F12 (PySem.W.mg_none_of X G z8)
  have TR : TxR K mg P w base := { roll := ⟨_, _, M1, k1, b1, R1⟩, one := ⟨_, _, M2, k2, b2, R2⟩, text := ⟨_, _, M3, k3, b3, R3⟩, num := ⟨_, _, M4, k4, b4, R4⟩, caught := ⟨_, _, M9, k9, b9, R9⟩, kept := ⟨_, _, M11, k11, b11, R11⟩, due := ⟨_, _, M12, k12, b12, R12⟩, range := PySem.W.mg_none_of X G z8, abs := PySem.W.mg_none_of X G z9, tuple := PySem.W.mg_none_of X G z10, enum := PySem.W.mg_none_of X G z11, repr := PySem.W.mg_none_of X G z12, sys := hsys }
  have R13 := ok_right F13 TR
  have TL : TxL K mg (Af [a0, a1, a2, a3, a4, a5, a6, a7, a8, a9, a10, a11, a12, a13]) (Af [j0, j1, j2, j3, j4, j5]) P w base := { TO with right := ⟨_, _, M13, k13, b13, R13⟩, dice := ⟨_, _, M0, k0, b0, R0⟩, max := PySem.W.mg_none_of X G z13, min := PySem.W.mg_none_of X G z14, len := PySem.W.mg_none_of X G z15 }
  exact ok_law F14 TL
end Kk
open PySem PySem.W PyProof.Rows
set_option maxRecDepth 100000 in
set_option maxHeartbeats 0 in
theorem PySem.Challenge.cw_asunmoved_k00_errors_holds : PySem.Challenge.rw_asunmoved_k00_errors.Holds := by
  w_on; o_law; k_head; (case hw => w_witness2)
  k_fill
  refine Ox.walkG (l := PySem.Challenge.rw_asunmoved_k00_errors) (n := 63) (k := 6) (x := "_law_script") (sp := Kk.spLaw) rfl (by decide) rfl ⟨rfl, by decide, by decide⟩ (by decide +kernel) (fun w h Y => PySem.W.kIn_of Y) ?F (fun K H a ns hl hS => ⟨a, ns, rfl, hS, fun _ => rfl⟩)
  case F =>
    intro w mg fa h KX G hmg
    refine' Kk.all_mk KX G hmg ?kz_g0 ?kz_g1 ?kz_g2 ?kz_g3 ?kz_g4 ?kz_g5 ?kz_g6 ?kz_g7 ?kz_g8 ?kz_g9 ?kz_g10 ?kz_g11 ?kz_g12 ?kz_g13 ?kz_d0 ?kz_l0 ?kz_c0 ?kz_k0 ?kz_d1 ?kz_l1 ?kz_c1 ?kz_k1 ?kz_d2 ?kz_l2 ?kz_c2 ?kz_k2 ?kz_d3 ?kz_l3 ?kz_c3 ?kz_k3 ?kz_d4 ?kz_l4 ?kz_c4 ?kz_k4 ?kz_d5 ?kz_l5 ?kz_c5 ?kz_k5 ?kz_d6 ?kz_l6 ?kz_c6 ?kz_k6 ?kz_d7 ?kz_l7 ?kz_c7 ?kz_k7 ?kz_d8 ?kz_l8 ?kz_c8 ?kz_k8 ?kz_d9 ?kz_l9 ?kz_c9 ?kz_k9 ?kz_d10 ?kz_l10 ?kz_c10 ?kz_k10 ?kz_d11 ?kz_l11 ?kz_c11 ?kz_k11 ?kz_d12 ?kz_l12 ?kz_c12 ?kz_k12 ?kz_d13 ?kz_l13 ?kz_c13 ?kz_k13 ?kz_d14 ?kz_l14 ?kz_c14 ?kz_k14 ?kz_z0 ?kz_z1 ?kz_z2 ?kz_z3 ?kz_z4 ?kz_z5 ?kz_z6 ?kz_z7 ?kz_z8 ?kz_z9 ?kz_z10 ?kz_z11 ?kz_z12 ?kz_z13 ?kz_z14 ?kz_z15 ?kz_z16 ?kz_z17 ?kz_x0 ?kz_s0 ?kz_n0 ?kz_i0 ?kz_t0 ?kz_y0 ?kz_v0 ?kz_x1 ?kz_s1 ?kz_n1 ?kz_i1 ?kz_t1 ?kz_y1 ?kz_v1 ?kz_x2 ?kz_s2 ?kz_n2 ?kz_i2 ?kz_t2 ?kz_y2 ?kz_v2 ?kz_x3 ?kz_s3 ?kz_n3 ?kz_i3 ?kz_t3 ?kz_y3 ?kz_v3 ?kz_x4 ?kz_s4 ?kz_n4 ?kz_i4 ?kz_t4 ?kz_y4 ?kz_v4 ?kz_x5 ?kz_s5 ?kz_n5 ?kz_i5 ?kz_t5 ?kz_y5 ?kz_v5 ?kz_hn ?kz_ht ?kz_bEx ?kz_bXp ?kz_bEm ?kz_bKd ?kz_bOt ?kz_bBs ?kz_bVE ?kz_bE2 ?kz_bB2 ?kz_bMv
    (case kz_g0 => k_is); (case kz_g1 => k_is); (case kz_g2 => k_is); (case kz_g3 => k_is); (case kz_g4 => k_is); (case kz_g5 => k_is)
    (case kz_g6 => k_is); (case kz_g7 => k_is); (case kz_g8 => k_is); (case kz_g9 => k_is); (case kz_g10 => k_is); (case kz_g11 => k_is)
    (case kz_g12 => k_is); (case kz_g13 => k_is); (case kz_d0 => k_is); (case kz_l0 => k_is); (case kz_c0 => k_is); (case kz_k0 => k_is)
    (case kz_d1 => k_is); (case kz_l1 => k_is); (case kz_c1 => k_is); (case kz_k1 => k_is); (case kz_d2 => k_is); (case kz_l2 => k_is)
    (case kz_c2 => k_is); (case kz_k2 => k_is); (case kz_d3 => k_is); (case kz_l3 => k_is); (case kz_c3 => k_is); (case kz_k3 => k_is)
    (case kz_d4 => k_is); (case kz_l4 => k_is); (case kz_c4 => k_is); (case kz_k4 => k_is); (case kz_d5 => k_is); (case kz_l5 => k_is)
    (case kz_c5 => k_is); (case kz_k5 => k_is); (case kz_d6 => k_is); (case kz_l6 => k_is); (case kz_c6 => k_is); (case kz_k6 => k_is)
    (case kz_d7 => k_is); (case kz_l7 => k_is); (case kz_c7 => k_is); (case kz_k7 => k_is); (case kz_d8 => k_is); (case kz_l8 => k_is)
    (case kz_c8 => k_is); (case kz_k8 => k_is); (case kz_d9 => k_is); (case kz_l9 => k_is); (case kz_c9 => k_is); (case kz_k9 => k_is)
    (case kz_d10 => k_is); (case kz_l10 => k_is); (case kz_c10 => k_is); (case kz_k10 => k_is); (case kz_d11 => k_is); (case kz_l11 => k_is)
    (case kz_c11 => k_is); (case kz_k11 => k_is); (case kz_d12 => k_is); (case kz_l12 => k_is); (case kz_c12 => k_is); (case kz_k12 => k_is)
    (case kz_d13 => k_is); (case kz_l13 => k_is); (case kz_c13 => k_is); (case kz_k13 => k_is); (case kz_d14 => k_is); (case kz_l14 => k_is)
    (case kz_c14 => k_is); (case kz_k14 => k_is); (case kz_z0 => k_is); (case kz_z1 => k_is); (case kz_z2 => k_is); (case kz_z3 => k_is)
    (case kz_z4 => k_is); (case kz_z5 => k_is); (case kz_z6 => k_is); (case kz_z7 => k_is); (case kz_z8 => k_is); (case kz_z9 => k_is)
    (case kz_z10 => k_is); (case kz_z11 => k_is); (case kz_z12 => k_is); (case kz_z13 => k_is); (case kz_z14 => k_is); (case kz_z15 => k_is)
    (case kz_z16 => k_is); (case kz_z17 => k_is); (case kz_x0 => k_is); (case kz_s0 => k_is); (case kz_n0 => k_is); (case kz_i0 => k_is)
    (case kz_t0 => k_is); (case kz_y0 => k_is); (case kz_v0 => k_is); (case kz_x1 => k_is); (case kz_s1 => k_is); (case kz_n1 => k_is)
    (case kz_i1 => k_is); (case kz_t1 => k_is); (case kz_y1 => k_is); (case kz_v1 => k_is); (case kz_x2 => k_is); (case kz_s2 => k_is)
    (case kz_n2 => k_is); (case kz_i2 => k_is); (case kz_t2 => k_is); (case kz_y2 => k_is); (case kz_v2 => k_is); (case kz_x3 => k_is)
    (case kz_s3 => k_is); (case kz_n3 => k_is); (case kz_i3 => k_is); (case kz_t3 => k_is); (case kz_y3 => k_is); (case kz_v3 => k_is)
    (case kz_x4 => k_is); (case kz_s4 => k_is); (case kz_n4 => k_is); (case kz_i4 => k_is); (case kz_t4 => k_is); (case kz_y4 => k_is)
    (case kz_v4 => k_is); (case kz_x5 => k_is); (case kz_s5 => k_is); (case kz_n5 => k_is); (case kz_i5 => k_is); (case kz_t5 => k_is)
    (case kz_y5 => k_is); (case kz_v5 => k_is); (case kz_hn => k_is); (case kz_ht => k_is)
    (case kz_bEx => kernel_rfl)
    (case kz_bXp => kernel_rfl)
    (case kz_bEm => kernel_rfl)
    (case kz_bKd => kernel_rfl)
    (case kz_bOt => kernel_rfl)
    (case kz_bBs => kernel_rfl)
    (case kz_bVE => kernel_rfl)
    (case kz_bE2 => kernel_rfl)
    (case kz_bB2 => kernel_rfl)
    (case kz_bMv => kernel_rfl)
#print axioms PySem.Challenge.cw_asunmoved_k00_errors_holds
