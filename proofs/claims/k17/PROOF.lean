import PyProof.Rows.All
import Wide.All
import OpenK.AllK
import Wide.FinOn
import HandS.ForMost
import HandS.ForExc
import HandS.ExcCtx
import HandS.HotCalls
import HandS.ExcInit
import HandS.ExcField
import HandS.ExcIs
import HandS.Comp
import HandS.Iter
import HandS.Text
import HandS.Dict
import HandS.Words
import HandS.WordsList
import HandS.WordsDict
import HandS.Ends
import HandS.TryOnly
import HandS.ExcOwn
import HandS.WordsExc
import HandS.IsInst
import HandS.More
import HandS.SlotsOwn
import HandS.Star
import HandS.Deep
import HandS.ClsMeth
import HandS.TupSets
import HandS.SortOrd
import HandS.Wide
import HandS.Conv
import PySem.Challenge.RW_asunmoved_k17_lines_put_in_and_taken_out
import HandS.Walk
import HandS.Property
import HandS.FStr
import KE.KExcIs
import PyProof.ReprRoads
import HandS.DictComp
import HandS.Flow
import HandS.Style
import HandS.DeepEq
import HandS.Finally
import HandS.Lambda
import HandS.TupMul
import HandS.EndTab
set_option Elab.async false
set_option linter.all false
set_option maxRecDepth 100000
set_option maxHeartbeats 8000000
/-! An exception of an own class with an __init__, over any built-in base: made, its field stored -/
namespace PySem
namespace Mk0
open PySem.W PySem.Calls PyProof.Rows PySem.HandSPX Builtin Builtin.ObjectAttr
/-- what is asked of the classes behind the own one -/
structure Bm (B : String) (bm : List Value) : Prop where
  b : bm.contains (.type B) = true
  a : bm.contains (.type "AttributeError") = false
  n : bm.contains (.type "NameError") = false
  o : bm.contains (.type "object") = true
  e : bm.isEmpty = false
  p : ∀ self, refuseLoop self "__setattr__" bm = pure ()
section
variable {M : Model} {A : Around} {E : Value → Shared → Prop} {h : Heap} {g : Array GenState} {d : Drawn} {t : Nat} {os : OsState}
variable {cn cq : Str} {C NS : Addr} {bs bm bmB : List Value} {hd : Bool} {sn : List Str} {su : List Value} {ab : Bool} {co : Option Bool} {dd : Option Addr} {m0 m1 m2 m3 m5 : Option Value} {B newId initId : String}
theorem chk_new (F : ExcBaseFacts B newId initId bmB) (Z : Bm B bm) {us : List Value} {Q : Unit → Shared → Prop} (hC : h.get? C = some (excClassObj cn cq C NS bs bm hd sn su ab co dd m0 m1 m2 m3 m5 newId)) (hq : Q () ⟨h, g, d, t, os⟩) :
    wpAny M A (checkBuiltinCall newId ⟨.ref C :: us, []⟩) Q E ⟨h, g, d, t, os⟩ := by
  have z1 : (Value.ref C :: bm).contains (.type B) = true := by (rw [List.contains_cons, Z.b, Bool.or_true])
  have z2 := F.noStar; (simp only [checkBuiltinCall, F.newKind, F.newSplit, F.newRow])
  repeat (first | refine wpAny_loadPart_at hC ?_ | (refine wpAny_isSubtype_exc hC ?_; rw [z1]) | refine wpAny_staticBase_exc hC ?_ | refine wpAny_madeBy_exc hC ?_ | (simp only [bne_self_eq_false, Bool.false_eq_true, if_false]) | wp_step)
  exact hq
end
section
variable {prog : Program} {w : World} {A : Around} {E : Value → Shared → Prop} {R : Result → Shared → Prop} {h : Heap} {g : Array GenState} {d : Drawn} {t : Nat} {os : OsState}
variable {cn cq : Str} {C NS : Addr} {bs bm bmB : List Value} {hd : Bool} {sn : List Str} {su : List Value} {ab : Bool} {co : Option Bool} {dd : Option Addr} {m0 m1 m2 m3 m5 : Option Value} {B newId initId : String}
theorem new_any (F : ExcBaseFacts B newId initId bmB) (Z : Bm B bm) {us : List Value} (hC : h.get? C = some (excClassObj cn cq C NS bs bm hd sn su ab co dd m0 m1 m2 m3 m5 newId))
    (hq : R (.ok (.ret (.ref (h.objs.size + 1)))) ⟨(h.push (W.kdv_tup us)).push (excO C h.objs.size), g, d, t, os⟩) (hz : us.length ≤ sizeLine) : codeAny (model prog w) A (.builtin newId ⟨.ref C :: us, []⟩) R ⟨h, g, d, t, os⟩ := by
  have z0 := F.ends; have z1 : (Value.ref C :: bm).contains (.type B) = true := by (rw [List.contains_cons, Z.b, Bool.or_true])
  have z2 : (Value.ref C :: bm).contains (.type "AttributeError") = false := by (rw [List.contains_cons, Z.a]; rfl)
  have z3 : (Value.ref C :: bm).contains (.type "NameError") = false := by (rw [List.contains_cons, Z.n]; rfl)
  refine codeAny_builtinAt F.entry ?_; unfold Builtin.«BaseException.__new__»; refine wpAt_bind ?_
  show wpAt _ _ _ (stack >>= _) _ _ _; refine wpAt_bind (wpAt_stack fun p below => wpAt_of_wpAny ?_)
  wp_walk; refine wpAt_of_wpAny ?_; rw [F.owner]
  repeat (first | with_reducible refine wpAny_madeHere_exc F.canon hC ?_ | with_reducible refine wpAny_loadPart_at hC ?_ | (with_reducible refine wpAny_isSubtype_exc hC ?_; first | rw [z1] | rw [z2] | rw [z3]) | wp_step)
  show R _ _; rw [Heap.size_push]; exact hq
theorem type_call_any (F : ExcBaseFacts B newId initId bmB) (Z : Bm B bm) {us : List Value} {fI : Addr} {Q : Fin → Shared → Prop} (hC : h.get? C = some (excClassObj cn cq C NS bs bm hd sn su ab co dd m0 m1 m2 m3 m5 newId))
    (hi : W.Looks (model prog w) h (typeLookup (.ref C) "__init__") (some (.ref fI))) (hb : ∀ self, W.Looks (model prog w) h (bindSpecial (.ref fI) self) (.ref fI, [self])) (hz : us.length ≤ sizeLine)
    (hq : codeAny (model prog w) A (.call (.ref fI) ⟨.ref (h.objs.size + 1) :: us, []⟩) (fun r s' => match r with | .ok (.ret v) => v = .none ∧ Q (.done (.ret (.ref (h.objs.size + 1)))) s' | .ok _ => False | .error e => E e s') ⟨(h.push (W.kdv_tup us)).push (excO C h.objs.size), g, d, t, os⟩) :
    wpAny (model prog w) A (Builtin.«type.__call__» ⟨.ref C :: us, []⟩) Q E ⟨h, g, d, t, os⟩ := by
  repeat (first | with_reducible refine wpAny_loadPart_at hC ?_ | with_reducible refine wpAny_madeBy_exc hC ?_ | wp_step)
  refine codeAny_call_builtin_code (Code.quiet_builtin _ F.quiet) (chk_new F Z hC ?_); refine new_any F Z hC ?_ hz; show wpAny _ _ _ _ _ _
  have k : ∀ b o, h.get? b = some o → ((h.push (W.kdv_tup us)).push (excO C h.objs.size)).get? b = some o := fun b o e => Heap.get?_push_of_some _ (Heap.get?_push_of_some _ e)
  have hC2 := k _ _ hC; have hg2 : ((h.push (W.kdv_tup us)).push (excO C h.objs.size)).get? (h.objs.size + 1) = some (excO C h.objs.size) := by heap_get
  have z4 : (Value.ref C :: bm).contains (.ref C) = true := by simp
  have i1 := hi.keeps k; have b1 := (hb (.ref (h.objs.size + 1))).keeps k; unfold isInstance
  repeat (first | with_reducible refine wpAny_loadPart_at hg2 ?_ | (with_reducible refine wpAny_isSubtype_exc hC2 ?_; rw [z4]) | wp_step)
  show wpAny _ _ (typeLookup (.ref C) _) _ _ _; refine i1.at ?_; refine wpAny_holding (wpAny_bind (b1.at ?_))
  refine wpAny_bind (wpAny_call (codeAny_mono hq fun r s' z => ?_)); rcases r with e | (v | _ | _ | _) <;> first | exact z | exact z.elim | skip
  obtain ⟨rfl, z⟩ := z; first | exact wpAny_pure (wpAny_pure z) | (wp_walk; exact z)
theorem call_any (F : ExcBaseFacts B newId initId bmB) (Z : Bm B bm) {us : List Value} {fI : Addr} (hC : h.get? C = some (excClassObj cn cq C NS bs bm hd sn su ab co dd m0 m1 m2 m3 m5 newId))
    (hi : W.Looks (model prog w) h (typeLookup (.ref C) "__init__") (some (.ref fI))) (hb : ∀ self, W.Looks (model prog w) h (bindSpecial (.ref fI) self) (.ref fI, [self])) (hz : us.length ≤ sizeLine)
    (hq : codeAny (model prog w) (A.under (.builtin "type.__call__" ⟨.ref C :: us, []⟩)) (.call (.ref fI) ⟨.ref (h.objs.size + 1) :: us, []⟩) (W.InitBack (h.objs.size + 1) R) ⟨(h.push (W.kdv_tup us)).push (excO C h.objs.size), g, d, t, os⟩) :
    codeAny (model prog w) A (.call (.ref C) ⟨us, []⟩) R ⟨h, g, d, t, os⟩ := by
  have f1 := tc_lookup; have f2 := tc_bind (.ref C); have f3 : (⟨h, g, d, t, os⟩ : Shared).TypeIs (.ref C) "type" := ⟨_, hC, rfl⟩
  refine codeAny_of_tree ?_; show wpAny _ _ (callAny (.ref C) _) _ _ _
  repeat (any_goals (first | assumption | with_reducible refine wpAny_loadPart_at hC ?_ | wp_step))
  refine ⟨rfl, ?_⟩; refine codeAny_call_builtin_at (Code.quiet_builtin _ (by decide +kernel)) entry_typeCall (wpAny_check_type_call_sub hC (type_call_any F Z hC hi hb hz ?_))
  refine codeAny_mono hq fun r s' z => ?_; rcases r with e | (v | _ | _ | _) <;> exact z
/-- self.name = v, the exception has no dict yet -/
theorem osa_any {K : W.Frag} {name : Str} {tk : Tok} {v : Value} {x : Addr} {fv : Array Value} {cd : ClassData} (X : K.In h) (hx : h.get? x = some { cls := .ref C, data := .fields fv }) (hcd : W.clsIn K C = some cd) (hm : cd.mro = .ref C :: bm) (Z : Bm B bm)
    (hh : cd.hasDict = true) (ha : W.findIn K (.ref C) name = some none)
    (hq : ∀ h' tk' dx, (∀ b o, b ≠ x → h.get? b = some o → h'.get? b = some o) → h.objs.size ≤ dx → dx ≠ x → h'.get? x = some { cls := .ref C, dict := some dx, data := .fields fv } → h'.Ns1 dx (fun y => if y = name then some v else none) → R (.ok (.ret .none)) ⟨h', g, d, tk', os⟩) :
    codeAny (model prog w) A (.call (.builtin "object.__setattr__") ⟨[.ref x, .str name tk, v], []⟩) R ⟨h, g, d, t, os⟩ := by
  have I : W.InstAt h x { cls := .ref C, data := .fields fv } C none := ⟨hx, rfl, rfl, trivial⟩
  have SF := F.store_object; have ne : cd.mro.isEmpty = false := by (rw [hm]; rfl)
  have ho : cd.mro.contains (.type "object") = true := by (rw [hm, List.contains_cons, Z.o, Bool.or_true])
  have hxs : x ≠ h.objs.size := Nat.ne_of_lt (Heap.lt_size hx)
  have sub : W.Looks (model prog w) h (isInstance (.ref x) (.type "object")) true := I.type.andThen (W.looks_mroIn X (by (unfold W.mroIn; rw [hcd, Option.bind_some, if_neg (by rw [ne]; decide), ho])))
  refine codeAny_call_builtin SF.slot.plain SF.entry (@W.check_slot (model prog w) _ _ ⟨h, g, d, t, os⟩ "object.__setattr__" "object" "__setattr__" (.ref x) [.str name tk, v] [] _ SF.kind SF.split sub (SF.args (.ref x) (.str name tk) v) ?_)
  have l1 : W.Looks (model prog w) h (mroOf (.ref C)) cd.mro := (W.looks_clsIn X hcd).andThen .now; have l3 : W.Looks (model prog w) h (storeTaker? none) none := .now
  have l4 : W.Looks (model prog w) h (classData C) cd := W.looks_clsIn X hcd
  have pass : refuseLoop (.ref x) "__setattr__" cd.mro = pure () := by (rw [hm, refuseLoop_ref]; exact Z.p _)
  rw [W.osa_eq, refuse_eq]; refine wpAny_bind (wpAny_bind (I.type.at (wpAny_bind (l1.at ?_)))); rw [pass]
  refine wpAny_pure (wpAny_bind (I.type.at (wpAny_bind ((W.looks_findIn X ha).at (wpAny_bind (l3.at ?_)))))); show wpAny _ _ (storeInOwnDict (.ref x) (.ref C) (.str name tk) name v false) _ _ _
  obtain ⟨nm, bs', mro, ns, qn, hd', sn', sb, ab', col, del⟩ := cd; dsimp only at hh; subst hh; unfold storeInOwnDict ownDictForStores
  repeat (first | with_reducible refine store_in_new ?_ ?_ | with_reducible refine wpAny_loadPart_at hx ?_ | with_reducible refine l4.at ?_ | wp_step)
  · exact ⟨_, #[], _, (Heap.get?_update_ne _ _ _ _ hxs.symm).trans (Heap.get?_push_at rfl rfl), rfl, fun e he => absurd he (by simp), fun _ => rfl⟩
  · intro h' tk' hn' hs; have hx₁ : (h.push { cls := .type "dict", data := .dict #[] }).get? x = some { cls := .ref C, data := .fields fv } := Heap.get?_push_of_some _ hx
    refine hq h' tk' h.objs.size (fun b o hb ho => ?_) (Nat.le_refl _) hxs.symm ?_ hn'
    · exact (hs.2 b (Nat.ne_of_lt (Heap.lt_size ho))).trans ((Heap.get?_update_ne _ _ _ _ hb).trans (Heap.get?_push_of_some _ ho))
    · exact (hs.2 x hxs).trans (Heap.get?_update_self _ hx₁ rfl)
end
/-- the six bases -/
abbrev bIx : List Value := [.type "IndexError", .type "LookupError", .type "Exception", .type "BaseException", .type "object"]
abbrev bKey : List Value := [.type "KeyError", .type "LookupError", .type "Exception", .type "BaseException", .type "object"]
abbrev bOv : List Value := [.type "OverflowError", .type "ArithmeticError", .type "Exception", .type "BaseException", .type "object"]
abbrev bRt : List Value := [.type "RuntimeError", .type "Exception", .type "BaseException", .type "object"]
abbrev bAr : List Value := [.type "ArithmeticError", .type "Exception", .type "BaseException", .type "object"]
abbrev bLk : List Value := [.type "LookupError", .type "Exception", .type "BaseException", .type "object"]
theorem z_ix : Bm "IndexError" bIx := ⟨by (decide +kernel), by (decide +kernel), by (decide +kernel), by (decide +kernel), rfl, fun self => by kernel_rfl⟩
theorem z_key : Bm "LookupError" bKey := ⟨by (decide +kernel), by (decide +kernel), by (decide +kernel), by (decide +kernel), rfl, fun self => by kernel_rfl⟩
theorem z_ov : Bm "OverflowError" bOv := ⟨by (decide +kernel), by (decide +kernel), by (decide +kernel), by (decide +kernel), rfl, fun self => by kernel_rfl⟩
theorem z_rt : Bm "RuntimeError" bRt := ⟨by (decide +kernel), by (decide +kernel), by (decide +kernel), by (decide +kernel), rfl, fun self => by kernel_rfl⟩
theorem z_ar : Bm "ArithmeticError" bAr := ⟨by (decide +kernel), by (decide +kernel), by (decide +kernel), by (decide +kernel), rfl, fun self => by kernel_rfl⟩
theorem z_lk : Bm "LookupError" bLk := ⟨by (decide +kernel), by (decide +kernel), by (decide +kernel), by (decide +kernel), rfl, fun self => by kernel_rfl⟩
#check @F.excBase_LookupError
#check @F.excBase_OverflowError
#check @F.excBase_RuntimeError
#check @F.excBase_ArithmeticError
end Mk0
end PySem

namespace PySem
namespace Mk0
open PySem.W PySem.Calls PyProof.Rows PySem.HandSPX
/-! the text of __init__(self, f): self.f = f -/
def oA (f : Str) (p1 p2 : Pos) : Arguments := { posonlyargs := [], args := [{ arg := "self", annotation := none, pos := p1 }, { arg := f, annotation := none, pos := p2 }], vararg := none, kwonlyargs := [], kw_defaults := [], kwarg := none, defaults := [] }
def oB (f : Str) (q1 q2 q3 q4 : Pos) : List Stmt := [.Assign [.Attribute (.Name "self" q1) f q2] (.Name f q3) q4]
def oS (f : Str) : Scope := { kind := .function, names := [(PySem.Str.ofString "self", .local), (f, .local)], isGenerator := false, isCoroutine := false, more := [] }
/-- the field names of this program -/
abbrev fNames : List Str := ["value", "name", "limit", "readers", "paper", "many"]
/-- what the written part says of the class at C, of its __init__ at fI -/
structure OTxt (K : Frag) (C fI : Addr) (f qual : Str) (B newId : String) (bm : List Value) : Prop where
  fn : f ∈ fNames
  F : ∃ initId bmB, ExcBaseFacts B newId initId bmB
  Z : Bm B bm
  cls : ∃ nm q N bs sn sub ab col dd k0 k1 k2 k3 k5, K.lookup C = some (excClassObj nm q C N bs bm true sn sub ab col dd k0 k1 k2 k3 k5 newId)
  sa : findIn K (.ref C) "__setattr__" = some (some (.builtin "object.__setattr__"))
  ga : findIn K (.ref C) "__getattribute__" = some (some (.builtin "BaseException.__getattribute__"))
  gg : findIn K (.ref C) "__getattr__" = some none
  noN : findIn K (.ref C) f = some none
  iC : findIn K (.ref C) "__init__" = some (some (.ref fI))
  tC : typeIn K (.ref fI) = some (.type "function")
  kC : keepIn K (.ref C) = true
  exC : subIn K (.ref C) (.type "BaseException") = some true
  tyC : typeIn K (.ref C) = some (.type "type")
  hdC : hasDictIn K C = true
  def_ : ∃ (oc : Value) (od : Option Addr) (doc pm : Value) (an : Option Addr) (cdv ct : Value) (osl : Array (Option Value)) (p1 p2 q1 q2 q3 q4 : Pos),
    K.lookup fI = some ⟨oc, od, .func (fnOf "__init__" qual (oA f p1 p2) (oB f q1 q2 q3 q4) (oS f) .none .none doc pm an cdv ct), osl⟩ ∧ codeIn K cdv qual = true
theorem ld_own {M : Model} {s : Shared} {name : Str} {scope : Scope} {L a : Addr} {cd : Value} {m : Str → Option Value} {x : Str} {pos : Pos} {v : Value} {Q : Value → Shared → Prop} {A : Around} {E : Value → Shared → Prop} (hn : s.heap.Ns L m) (hv : m x = some v) (h : Q v s)
    (hk : scope.kind = .function := by rfl) (hl : (envOfC name scope L a cd).kindOf x = some .local := by rfl) (hd : (x == ("__debug__" : Str)) = false := by decide) : wpAny M A (eval (.Name x pos) (envOfC name scope L a cd)) Q E s := wpAny_Name (wpAny_loadName_local hk hl hn hv h) hd
/-- what __init__ leaves of a fresh exception at x -/
structure OEnd (f : Str) (h h' : Heap) (x C dx t1 : Addr) (v : Value) : Prop where
  keep : ∀ b o, b ≠ x → h.get? b = some o → h'.get? b = some o
  obj : h'.get? x = some { cls := .ref C, dict := some dx, data := .fields #[.ref t1, .none, .none, .none, .bool false, .none] }
  big : h.objs.size ≤ dx
  ne : dx ≠ x
  ns : h'.Ns1 dx (fun y => if y = f then some v else none)
/-- one that is made -/
structure OMade (f : Str) (h h' : Heap) (e C d : Addr) (v : Value) : Prop where
  keep : ∀ b o, h.get? b = some o → h'.get? b = some o
  new : h.objs.size ≤ e
  obj : ∃ t1 : Addr, h'.get? e = some { cls := .ref C, dict := some d, data := .fields #[.ref t1, .none, .none, .none, .bool false, .none] }
  big : h.objs.size ≤ d
  ne : d ≠ e
  ns : h'.Ns1 d (fun y => if y = f then some v else none)
section
variable {prog : Program} {w : World} {A : Around} {E : Value → Shared → Prop} {R : Result → Shared → Prop} {s : Shared} {K : Frag} {C fI : Addr} {f qual : Str} {B newId : String} {bm : List Value}
theorem o_init (T : OTxt K C fI f qual B newId bm) {x t0 : Addr} {v : Value} (X : K.In s.heap) (hlim : s.heap.NoLimit) (hx : s.heap.get? x = some (excO C t0)) (hroom : A.depth < recursionLimit)
    (hq : ∀ h' tk dx, OEnd f s.heap h' x C dx t0 v → R (.ok (.ret .none)) { s with heap := h', toks := tk }) : codeAny (model prog w) A (.call (.ref fI) ⟨[.ref x, v], []⟩) R s := by
  obtain ⟨oc, od, doc, pm, an, cdv, ct, osl, p1, p2, q1, q2, q3, q4, ho, hcd⟩ := T.def_
  obtain ⟨nm, q, N, bs, sn, sub, ab, col, dd, k0, k1, k2, k3, k5, hC⟩ := T.cls
  have hcl : clsIn K C = some { name := nm, bases := bs, mro := .ref C :: bm, ns := N, qualname := q, hasDict := true, slotNames := sn, subclasses := sub, abstract := ab, collection := col, hasDel := false } := by (unfold clsIn; rw [hC] <;> rfl)
  have hf := T.fn; have hsa := T.sa; have hno := T.noN; have hZ := T.Z; clear T
  simp only [fNames, List.mem_cons, List.not_mem_nil, or_false] at hf
  rcases hf with rfl | rfl | rfl | rfl | rfl | rfl
  all_goals (refine Att.call_fn (binds := [("self", .ref x), (_, v)]) X hlim ho hcd hroom (BindsTo.of_eq (by first | rfl | with_unfolding_all rfl)) (by first | rfl | decide | with_unfolding_all rfl) (fun s₁ IC => ?_) rfl rfl rfl)
  all_goals (
    obtain ⟨h₁, tk₁, rfl⟩ := IC.toInCall.same; have k : ∀ b o, s.heap.get? b = some o → h₁.get? b = some o := IC.toInCall.keep; have hn := IC.toInCall.ns
    have hxL : s.heap.objs.size ≠ x := Nat.ne_of_gt (Heap.lt_size hx); have X₁ : K.In h₁ := X.keeps k; have hx₁ := k _ _ hx
    show wpAny _ _ (execs _ _) _ _ _; refine wpAny_execs_cons (plainObj_wpAny_Assign_Attribute ?_)
    refine ld_own (v := v) hn (by first | rfl | with_unfolding_all rfl | kernel_rfl) (ld_own (v := .ref x) hn (by first | rfl | with_unfolding_all rfl | kernel_rfl) ?_)
    refine set_plain X₁ (ox := excO C t0) (od := none) ⟨hx₁, rfl, rfl, trivial⟩ hsa ?_
    refine osa_any X₁ hx₁ hcl rfl hZ rfl hno (fun h₃ tk₃ dx k₃ dn dne hx₃ hn₃ => ?_); show wpAny _ _ (execs _ _) _ _ _
    have z : s.heap.objs.size < h₁.objs.size := hn.lt; exact wpAny_execs_nil (hq h₃ tk₃ dx ⟨fun b o hb e => k₃ b o hb (k b o e), hx₃, Nat.le_of_lt (Nat.lt_of_lt_of_le z dn), dne, hn₃⟩))
theorem one_fits (v : Value) : [v].length ≤ sizeLine := by (rw [sizeLine_eq]; exact (by decide : 1 ≤ 16777216))
theorem o_made (T : OTxt K C fI f qual B newId bm) {v : Value} (X : K.In s.heap) (hlim : s.heap.NoLimit) (hroom : A.depth + 1 < recursionLimit)
    (hq : ∀ h' tk e d, OMade f s.heap h' e C d v → R (.ok (.ret (.ref e))) { s with heap := h', toks := tk }) : codeAny (model prog w) A (.call (.ref C) ⟨[v], []⟩) R s := by
  obtain ⟨nm, q, N, bs, sn, sub, ab, col, dd, k0, k1, k2, k3, k5, hC⟩ := T.cls; obtain ⟨initId, bmB, F⟩ := T.F; obtain ⟨hp, g, dr, tk, os⟩ := s
  have k : ∀ b o, hp.get? b = some o → ((hp.push (kdv_tup [v])).push (excO C hp.objs.size)).get? b = some o := fun b o e => Heap.get?_push_of_some _ (Heap.get?_push_of_some _ e)
  have hget : ((hp.push (kdv_tup [v])).push (excO C hp.objs.size)).get? (hp.objs.size + 1) = some (excO C hp.objs.size) := by heap_get
  refine call_any F T.Z (X _ _ hC) (looks_findIn X T.iC) (fun self => bind_fn X self T.tC) (one_fits v) ?_
  refine o_init (s := ⟨(hp.push (kdv_tup [v])).push (excO C hp.objs.size), g, dr, tk, os⟩) T (X.keeps k) (hlim.keeps k) hget ?_ fun h' tk' dx ⟨k', hx, dn, dne, hns⟩ => ?_
  · show A.depth + 1 < recursionLimit; exact hroom
  · have old : ∀ b o, hp.get? b = some o → h'.get? b = some o := fun b o e => k' b o (Nat.ne_of_lt (Nat.lt_succ_of_lt (Heap.lt_size e))) (k b o e)
    have z : hp.objs.size + 1 + 1 ≤ dx := by first | (simpa only [Heap.size_push] using dn) | exact dn | (have q := dn; rw [Heap.size_push, Heap.size_push] at q; exact q)
    exact ⟨rfl, hq h' tk' (hp.objs.size + 1) dx ⟨old, Nat.le_succ _, ⟨_, hx⟩, Nat.le_trans (Nat.le_trans (Nat.le_succ _) (Nat.le_succ _)) z, dne, hns⟩⟩
end
end Mk0
end PySem

namespace Ox
open PySem PySem.Spec PyProof.Rows L2
theorem relO_one {f g : Str} {v : V} {v' : Value} (r : RelV v v') : RelO (List.lookup g [(f, v)]) (if g = f then some v' else none) := by
  by_cases hw : g = f
  · subst hw; rw [if_pos rfl, show List.lookup g [(g, v)] = some v by simp [List.lookup]]; exact r
  · rw [if_neg hw, show List.lookup g [(f, v)] = none by simp [List.lookup, show (g == f) = false by simpa using hw]]; trivial
section
variable {X : Cx} {C fI : Addr} {f qual : Str} {B newId : String} {bm : List Value}
/-- C(e), C an exception class of one's own with a field f, made to be raised -/
def tOi (C : Addr) (f : Str) (ta : TA) : L2.St → Hp → XK → Prop := fun σ H Q => ta σ H fun vs H1 => ∃ v, vs = [v] ∧ ∀ d, H1 d = none → Q (.ref C) (some d) (upd H1 d (.xd [(f, v)]))
theorem pmk_oi {a : Expr} {ta : TA} {p pos : Pos} {k : Nat} {x : Str} (T : PySem.Mk0.OTxt X.K C fI f qual B newId bm) (gC : X.mg x = some (.ref C)) (hr : Room k X.A) (ha : PA X [a] ta) (hg : Gl X x := by rfl) (hdb : (x == ("__debug__" : Str)) = false := by decide)
    (he : starEach (a :: []) X.env = (false, eval a X.env) :: starEach [] X.env := by rfl) (hpl : (backTo pos (starEach [] X.env)).any (·.1) = false := by rfl) : L2N.PMk X (.Call (.Name x p) [a] [] pos) (tOi C f ta) := by
  intro pins s σ H Q I h; refine wpAny_Call_Name_kw (ld_glob I hg gC ?_ hdb)
  refine PySem.W.callWith_K (h₀ := X.base) I.ok.mod.kin T.kC (thn (ha.run pos pins s σ H _ I h) fun us s1 ⟨vs, H1, I1, r1, v, ev, q1⟩ => ?_) he hpl
  subst ev; refine ⟨I1.kIn, ?_⟩; obtain ⟨v', e', rv⟩ := vals1 r1; subst e'
  · show wpAny _ _ (call (.ref C) [v']) _ _ _; have hlim := I1.nolimit; obtain ⟨hp, g, dr, tk, os⟩ := s1
    refine wpAny_call (PySem.Mk0.o_made T I1.kIn hlim (by have := hr.dp; omega) fun h' tk' e d M => ?_)
    show L2N.MkP X pins σ Q (.ref e) ⟨h', g, dr, tk', os⟩
    obtain ⟨t1, hoe⟩ := M.obj; have hns := M.ns; obtain ⟨G', g1, g2⟩ := restrict h' fun b => decide (b ≠ e)
    have gk : ∀ b, b ≠ e → G'.get? b = h'.get? b := fun b hb => g1 b (decide_eq_true hb); have ge : G'.get? e = none := g2 e (by simp)
    have old : ∀ b o, hp.get? b = some o → G'.get? b = some o := fun b o q => (gk b (Nat.ne_of_lt (Nat.lt_of_lt_of_le (Heap.lt_size q) M.new))).trans (M.keep b o q)
    have ob : ObjOk X.prog X.w (upd H1 d (.xd [(f, v)])) G' d (.xd [(f, v)]) := ⟨_, hns.at (fun o q => (gk d M.ne).trans q), fun g => relO_one rv⟩
    have J : Inv X pins σ (upd H1 d (.xd [(f, v)])) ⟨G', g, dr, tk', os⟩ := I1.laid (t' := tk') old M.big ob
    refine ⟨e, _, _, ⟨G', g, dr, tk', os⟩, _, .ref C, some d, rfl, J, fun b o q => ?_, ge, hoe, ⟨rfl, rfl, fun vs z => by cases z; rfl⟩, rfl, rfl, ?_, rfl, I1.bare, raises_own T.exC T.tyC, q1 d (I1.hok.fresh M.big)⟩
    · by_cases hb : b = e
      · have q' : G'.get? b = some o := q
        rw [hb, ge] at q'; cases q'
      · exact (gk b hb).symm.trans q
    · rw [upd_ne (Ne.symm M.ne)]; exact I1.hok.fresh M.new
/-- C(e) as a value -/
def tOv (C : Addr) (f : Str) (ta : TA) : TE := fun σ H Q => ta σ H fun vs H1 => ∃ v, vs = [v] ∧ ∀ e d, H1 e = none → H1 d = none → d ≠ e → Q (.ref e) (upd (upd H1 d (.xd [(f, v)])) e (exo e C (some d)))
theorem pe_ov {a : Expr} {ta : TA} {p pos : Pos} {k : Nat} {x : Str} (T : PySem.Mk0.OTxt X.K C fI f qual B newId bm) (gC : X.mg x = some (.ref C)) (hr : Room k X.A) (ha : PA X [a] ta) (hg : Gl X x := by rfl) (hdb : (x == ("__debug__" : Str)) = false := by decide)
    (he : starEach (a :: []) X.env = (false, eval a X.env) :: starEach [] X.env := by rfl) (hpl : (backTo pos (starEach [] X.env)).any (·.1) = false := by rfl) : PE X (.Call (.Name x p) [a] [] pos) (tOv C f ta) := by
  refine ⟨fun pins s σ H Q I h => ?_⟩; refine wpAny_Call_Name_kw (ld_glob I hg gC ?_ hdb)
  refine PySem.W.callWith_K (h₀ := X.base) I.ok.mod.kin T.kC (thn (ha.run pos pins s σ H _ I h) fun us s1 ⟨vs, H1, I1, r1, v, ev, q1⟩ => ?_) he hpl
  subst ev; refine ⟨I1.kIn, ?_⟩; obtain ⟨v', e', rv⟩ := vals1 r1; subst e'
  · show wpAny _ _ (call (.ref C) [v']) _ _ _; have hlim := I1.nolimit; obtain ⟨hp, g, dr, tk, os⟩ := s1
    refine wpAny_call (PySem.Mk0.o_made T I1.kIn hlim (by have := hr.dp; omega) fun h' tk' e d M => ?_)
    show EP X pins σ Q (.ref e) ⟨h', g, dr, tk', os⟩
    obtain ⟨t1, hoe⟩ := M.obj; have hns := M.ns; have he1 : H1 e = none := I1.hok.fresh M.new; have hd1 : H1 d = none := I1.hok.fresh M.big
    have ob : ObjOk X.prog X.w (upd H1 d (.xd [(f, v)])) h' d (.xd [(f, v)]) := ⟨_, hns, fun g => relO_one rv⟩
    have J0 : Inv X pins σ (upd H1 d (.xd [(f, v)])) ⟨h', g, dr, tk', os⟩ := I1.laid (t' := tk') M.keep M.big ob
    have he2 : upd H1 d (.xd [(f, v)]) e = none := by (rw [upd_ne (Ne.symm M.ne)]; exact he1)
    -- e itself: a new object beside d
    have nod : ∀ {b : Addr} {o : Obj}, hp.get? b = some o → b ≠ e ∧ b ≠ d := fun q => ⟨Nat.ne_of_lt (Nat.lt_of_lt_of_le (Heap.lt_size q) M.new), Nat.ne_of_lt (Nat.lt_of_lt_of_le (Heap.lt_size q) M.big)⟩
    have U : Un X.fs [] H1 (upd (upd H1 d (.xd [(f, v)])) e (exo e C (some d))) hp h' := ⟨fun b o q n _ _ => M.keep b o q, fun b o q n _ _ => ⟨o.slots, M.keep b o q⟩, fun b o q n _ => by (rw [upd_ne (nod q).1, upd_ne (nod q).2]; exact n), fun b o q _ => ⟨o, M.keep b o q⟩,
      fun b xs q => by (rw [upd_ne (ne_of_none q he1), upd_ne (ne_of_none q hd1)]; exact q), fun b o u q => by (rw [upd_ne (ne_of_none q he1), upd_ne (ne_of_none q hd1)]; exact q), fun b ps q => ⟨#[], by (rw [upd_ne (ne_of_none q he1), upd_ne (ne_of_none q hd1), q]; simp)⟩⟩
    have ok2 : HOk X.prog X.w (upd (upd H1 d (.xd [(f, v)])) e (exo e C (some d))) h' := fun b o q => by
      by_cases hb : b = e
      · subst hb; rw [upd_same] at q; cases q; exact exo_ok hoe
      · rw [upd_ne hb] at q
        exact (J0.hok b o q).stay (fun c u hc z => z) (fun c hc => by (rw [upd_ne (ne_of_none hc he2)]; exact hc)) fun c xs hc => by (rw [upd_ne (ne_of_none hc he2)]; exact hc)
    exact ⟨.ref e, _, I1.un (t' := tk') U ok2, rfl, q1 e d he1 hd1 M.ne⟩
/-- e.f of an exception that is held as a value -/
def tXv (C : Addr) (f : Str) (te : TE) : TE := fun σ H Q => te σ H fun x H1 => ∃ (a d : Addr) (v : V), x = .ref a ∧ H1 a = some (exo a C (some d)) ∧ H1 d = some (.xd [(f, v)]) ∧ Q v H1
theorem pe_xv {e : Expr} {te : TE} {pos : Pos} (T : PySem.Mk0.OTxt X.K C fI f qual B newId bm) (he : PE X e te) (hb : attributeBase e f X.env (eval e X.env) = eval e X.env := by rfl) : PE X (.Attribute e f pos) (tXv C f te) := by
  refine ⟨fun pins s σ H Q I h => ?_⟩; refine attr_of hb (thn (he.run pins s σ H _ I h) fun u s1 ⟨x, H1, I1, rx, a, d, v, ex, ea, ed, q⟩ => ?_)
  subst ex; obtain rfl : u = Value.ref a := rx; obtain ⟨t1, ha⟩ := exo_at I1.hok ea
  have hx : ObjOk X.prog X.w H1 s1.heap d (.xd [(f, v)]) := I1.hok d _ ed; obtain ⟨mA, hns, hr⟩ := hx; obtain ⟨od, ho, hl⟩ := lookIn_ns hns
  obtain ⟨u, hu, ru⟩ := RelO.some_of (v := v) (o := mA f) (by have z := hr f; rw [show List.lookup f [(f, v)] = some v by simp [List.lookup]] at z; exact z)
  have J : PySem.W.InstAt s1.heap a _ C (some od) := ⟨ha, rfl, rfl, ho⟩
  exact HandSPX.exc_get I1.kIn J T.ga T.gg T.exC (PySem.W.findObj_own T.hdC T.noN rfl (by (rw [hl, hu]))) (handed_of ru) ⟨v, H1, I1.tok _, ru, q⟩
end
end Ox

namespace Ox
open PySem PySem.Spec PyProof.Rows L2
/-- behind an except suite the slot of its name is empty -/
abbrev gone (i : Nat) (D : Ends) : Ends := { nx := fun σ' H' => D.nx (σ'.set i none) H', rt := D.rt, bk := fun σ' H' => D.bk (σ'.set i none) H', ct := fun σ' H' => D.ct (σ'.set i none) H' }
/-- what several clauses, all with a name in the slot i, wish of an exception -/
def wAll (K : PySem.W.Frag) (i : Nat) (Wout : WX) (D : Ends) : List (Value × (Addr → Value → Option Addr → TS)) → WX
  | [] => Wout
  | (c, ts) :: r => fun cls d σ H => ∃ b, PySem.W.exmOne K cls c = some b ∧ (b = true → ∀ a, H a = none → ts a cls d (gone i D) (σ.set i (some (.ref a))) H) ∧ (b = false → wAll K i Wout D r cls d σ H)
inductive Clauses (X : Cx) (n : Str) : List ExceptHandler → List (Value × (Addr → Value → Option Addr → TS)) → Prop
  | nil : Clauses X n [] []
  | cons {x : Str} {c : Value} {ts : Addr → Value → Option Addr → TS} {b₀ : Stmt} {su : List Stmt} {np pos' : Pos} {hds : List ExceptHandler} {l : List (Value × (Addr → Value → Option Addr → TS))} (hc : Names X x c)
      (hsu : ∀ (a : Addr) (oe : Obj) (cls : Value) (d : Option Addr) (pn : List (Addr × Obj)), L2N.Zn cls d oe → (∃ vs, oe.data = .fields vs) → PSs (X.suite a ((a, oe) :: pn)) (b₀ :: su) (ts a cls d)) (r : Clauses X n hds l) : Clauses X n (.ExceptHandler (some (.Name x np)) (some n) (b₀ :: su) pos' :: hds) ((c, ts) :: l)
section
variable {X : Cx} {n : Str} {i : Nat} {body : List Stmt} {h₀ : ExceptHandler} {hds : List ExceptHandler} {l : List (Value × (Addr → Value → Option Addr → TS))} {pos : Pos} {tb : WX → TS} {Wout : WX}
theorem ps_try_all (hs : X.stack = X.env :: X.outer) (hf : X.env.frame = some X.env.locals) (hN : X.N.Nodup) (hi : X.N[i]? = some n) (hln : X.env.kindOf n = some .local) (tk : L2N.Takes X Wout)
    (hb : ∀ (W : WX) (pn : List (Addr × Obj)) (xe : Value → Shared → Prop), L2N.Takes (X.tr pn xe) W → PassesOwn (model X.prog X.w) X.A X.env xe → PSs (X.tr pn xe) body (tb W))
    (hh : Clauses X n (h₀ :: hds) l) : PS X (.Try body (h₀ :: hds) [] [] pos) (fun D σ H => tb (wAll X.K i Wout D l) D σ H) := by
  refine ⟨fun pins s σ H D I h => ?_⟩; have ok := I.ok; have hfr : X.A.frames = some (X.env :: X.outer) := by (rw [ok.frames, hs])
  have hloc : Loc X.env.scope n := .inl hln; refine wpAny_Try_except ?_
  refine wpAny_mono ((hb (wAll X.K i Wout D l) (X.pn ++ pins) (fun e s₁ => wpAny (model X.prog X.w) X.A (noteFrame e X.env) (fun _ s₂ => wpAny (model X.prog X.w) X.A (setFlight e none) (fun _ s₃ => wpAny (model X.prog X.w) X.A (handleBy e X.env (h₀ :: hds)) (SP X pins D) X.xe s₃) X.xe s₂) X.xe s₁)
    (fun u s' xx => ?_) PassesOwn.looking).run [] s σ H D (I.toTry _) h) (fun fl s1 hsp => ?_) (fun e s1 he => he)
  · obtain ⟨a, B, sI, pins', σ', H', cls, d, rfl, J', nb, up, sky, na, os, ag, w⟩ := xx; have J : Inv X pins σ' H' sI := J'.ofTry ok
    have sky' : Sky B (X.env :: X.outer) a (L2N.Zn cls d) X.env.locals s'.heap := by (rw [← hs]; exact sky)
    show wpAny (model X.prog X.w) X.A (noteFrame (.ref a) X.env) _ _ _; refine L2N.Sky.land L2N.Zn.steady hfr hf sky' fun h3 fl3 up3 => ?_
    have J3 : Inv X pins σ' H' { s' with heap := h3 } := J.landed nb fl3.1 (up.trans up3) os ag; obtain ⟨oe3, vs3, he3, hz3, hd3⟩ := fl3.there
    have nfr : a ∉ frs (X.env :: X.outer) := fun hm => by
      obtain ⟨_, o', e', hnf⟩ := fl3.2.2.1.mem hm
      rw [he3] at e'; cases e'; exact hnf _ hd3
    have nL : a ≠ X.env.locals := fun z => nfr (List.mem_filterMap.mpr ⟨X.env, List.mem_cons_self, by (rw [hf, z])⟩)
    have nF : a ∉ X.fs := fun hm => by
      obtain ⟨e, he, q⟩ := List.mem_filterMap.mp hm
      exact nfr (List.mem_filterMap.mpr ⟨e, List.mem_cons_of_mem _ he, q⟩)
    have S3 := J3.suite he3 hd3 na nL nF
    have LT : PySem.W.Looks (model X.prog X.w) h3 (typeOf (.ref a)) cls := fun A Q E s k q => wpAny_typeOf_ref (k _ _ he3) (by (rw [hz3.1]; exact q))
    have go : ∀ {hds' : List ExceptHandler} {l' : List (Value × (Addr → Value → Option Addr → TS))}, Clauses X n hds' l' → wAll X.K i Wout D l' cls d σ' H' → wpAny (model X.prog X.w) X.A (handleBy (.ref a) X.env hds') (SP X pins D) X.xe { s' with heap := h3 } := by
      intro hds' l' hk
      induction hk with
      | nil =>
        intro w; refine wpAny_handleBy_nil ?_; obtain ⟨k1, k2, k3, oe, vs, T, oT, ts', he, hz, hd, h1, hr⟩ := id fl3; unfold PySem.passOn
        refine wpAny_bind (wpAny_field he hd h1 ?_); rw [if_neg (show ¬ ((Value.ref T == Value.none) = true) from by simp)]
        have fin : wpAny (model X.prog X.w) X.A (setFlight (.ref a) X.env.frame) (fun _ s4 => wpAny (model X.prog X.w) X.A (throw (.ref a) : Sem Flow) (SP X pins D) X.xe s4) X.xe { s' with heap := h3 } := by
          rw [hf]; refine PySem.HandSPX.setFlight_upZ fl3 fun h4 hh4 up4 => wpAny_throw (tk _ _ ?_)
          exact ⟨a, B, sI, pins, σ', H', cls, d, rfl, J, nb, (up.trans up3).trans up4, .inr (.inr (by (rw [hs]; exact hh4))), na, os, ag, w⟩
        first | exact wpAny_bind (wpAny_pure (wpAny_bind fin)) | exact wpAny_bind fin
      | @cons x c ts b₀ su np pos' hds2 l2 hc hsu r ih =>
        intro w; obtain ⟨b, hb1, hyes, hno⟩ := w; refine wpAny_handleBy_cons (codeAny_handlers_test ?_) (by intro q; cases q)
        have LM := PySem.W.exm_one (M := model X.prog X.w) (J3.kIn) LT hb1
        have test : ∀ {Q : Value → Shared → Prop} {E : Value → Shared → Prop}, Q c { s' with heap := h3 } → wpAny (model X.prog X.w) (X.A.mark (some (.ref a))) (eval (.Name x np) X.env) Q E { s' with heap := h3 } := fun {Q E} q => by
          obtain ⟨hg, hdbg, hm | ⟨hm, hv, hnn⟩⟩ := hc
          · exact ld_glob (X := X.suite a ((a, oe3) :: (X.pn ++ pins))) S3 hg hm q hdbg
          · exact ld_blt (X := X.suite a ((a, oe3) :: (X.pn ++ pins))) S3 hg hm hv q hnn hdbg
        refine test (LM.here ?_)
        cases b with
        | false => show wpAny _ X.A (handleBy (.ref a) X.env hds2) _ _ _; exact ih (hno rfl)
        | true =>
          refine codeAny_handlers_suite_as ?_; refine PySem.HandSPX.lands_againZ fl3 fun h4 fl4 up4 => ?_
          have J4 : Inv X pins σ' H' { s' with heap := h4 } := J.landed nb fl4.1 ((up.trans up3).trans up4) os ag; obtain ⟨oe4, vs4, he4, hz4, hd4⟩ := fl4.there
          have S4 := J4.suite he4 hd4 na nL nF; refine store_ok (X := X.suite a ((a, oe4) :: (X.pn ++ pins))) (v := .ref a) S4 hN hi hloc rfl (fun s5 S5 => ?_) (.inr hln)
          refine wpAny_mono ((hsu a oe4 cls d (X.pn ++ pins) hz4 ⟨_, hd4⟩).run [] s5 _ H' _ S5 (hyes rfl a na)) (fun fl s6 hsp => ?_) (fun _ _ z => False.elim z)
          have end_ : ∀ {σ6 : L2.St} {H6 : Hp} {Q : Shared → Prop}, Inv (X.suite a ((a, oe4) :: (X.pn ++ pins))) [] σ6 H6 s6 → (∀ s7, Inv X pins (σ6.set i none) H6 s7 → Q s7) →
              wpAny (model X.prog X.w) X.A (do bindName X.env n .none; unbindBehindTheSuite X.env n pos') (fun _ s7 => Q s7) X.xe s6 := fun {σ6 H6 Q} S6 hq => gone_ok (S6.unsuite ok) hN hi hln hq
          cases fl with
          | next => obtain ⟨σ6, H6, S6, q6⟩ := hsp; exact end_ S6 fun s7 J7 => ⟨_, _, J7, q6⟩
          | brk => obtain ⟨σ6, H6, S6, q6⟩ := hsp; exact end_ S6 fun s7 J7 => ⟨_, _, J7, q6⟩
          | cont => obtain ⟨σ6, H6, S6, q6⟩ := hsp; exact end_ S6 fun s7 J7 => ⟨_, _, J7, q6⟩
          | ret u => obtain ⟨v6, σ6, H6, S6, r6, q6⟩ := hsp; exact end_ S6 fun s7 J7 => ⟨_, _, _, J7, r6, q6⟩
    exact go hh w
  · cases fl with
    | next => obtain ⟨σ', H', J', q⟩ := hsp; exact wpAny_execs_nil ⟨σ', H', J'.ofTry ok, q⟩
    | brk => obtain ⟨σ', H', J', q⟩ := hsp; exact ⟨σ', H', J'.ofTry ok, q⟩
    | cont => obtain ⟨σ', H', J', q⟩ := hsp; exact ⟨σ', H', J'.ofTry ok, q⟩
    | ret u => obtain ⟨v, σ', H', J', r, q⟩ := hsp; exact ⟨v, σ', H', J'.ofTry ok, r, q⟩
end
end Ox

namespace Dn
open PySem PySem.Spec PyProof.Rows L2
/-- the class has a def of that name, at g -/
structure Dun (K : PySem.W.Frag) (C : Addr) (m : Str) (g : Addr) : Prop where
  at_ : PySem.W.findIn K (.ref C) m = some (some (.ref g))
  fn : PySem.W.isFn K (.ref g) = true
section
variable {prog : Program} {w : World} {A : Around} {E : Value → Shared → Prop} {s : Shared} {K : PySem.W.Frag} {x C f : Addr} {ox : Obj} {od : Option Obj} {b tb : Value}
/-- what object's own ne says, by the text's eq -/
theorem obj_ne {Q : Fin → Shared → Prop} (hu : A.units < cLine) (X : K.In s.heap) (I : PySem.W.InstAt s.heap x ox C od) (hs : PySem.W.findIn K (.ref C) "__eq__" = some (some (.ref f))) (hf : PySem.W.isFn K (.ref f) = true)
    (h : wpAny (model prog w) A (call (.ref f) [.ref x, b]) (fun v s' => ∃ k, v = .bool k ∧ Q (.done (.ret (.bool (!k)))) s') E s) : wpAny (model prog w) A (Builtin.«object.__ne__» ⟨[.ref x, b], []⟩) Q E s := by
  unfold Builtin.«object.__ne__»
  repeat (first
    | with_reducible refine wpAny_cRoomFor hu ?_
    | (refine wpAny_bind (m := callSpecialIfBound? (.ref x) (Str.ofString "__eq__") [b]) (PySem.W.ifBound_K X I hs hf (wpAny_mono h (fun r s' hr => by
          obtain ⟨k, rfl, q⟩ := hr
          repeat (first | exact q | exact wpAny_pure q | exact wpAny_truthy_bool q | (refine wpAny_bind (m := truthy (.bool _)) (wpAny_truthy_bool ?_)) | wp_step)) fun _ _ e => e)))
    | wp_step)
theorem ne_K {Q : Value → Shared → Prop} (hu : A.units + 1 < cLine) (X : K.In s.heap) (I : PySem.W.InstAt s.heap x ox C od) (hb : PySem.W.Looks (model prog w) s.heap (typeOf b) tb) (hn : PySem.W.notFirst K C tb = true)
    (h0 : PySem.W.findIn K (.ref C) "__ne__" = some (some (.builtin "object.__ne__"))) (ho : PySem.W.subIn K (.ref C) (.type "object") = some true) (hs : PySem.W.findIn K (.ref C) "__eq__" = some (some (.ref f))) (hf : PySem.W.isFn K (.ref f) = true)
    (h : wpAny (model prog w) A.in1 (call (.ref f) [.ref x, b]) (fun v s' => ∃ k, v = .bool k ∧ Q (.bool (!k)) s') E s) : wpAny (model prog w) A (richCompare .NotEq (.ref x) b) Q E s := by
  have chk : ∀ {Q' : Unit → Shared → Prop} {E' : Value → Shared → Prop}, Q' () s → wpAny (model prog w) A.in1 (checkBuiltinCall "object.__ne__" ⟨[.ref x, b], []⟩) Q' E' s := fun q => by
    simp only [checkBuiltinCall, PySem.F.cmpKind_ne, PySem.F.cmpSplit_ne]
    refine wpAny_bind ?_
    unfold isInstance
    refine wpAny_bind (I.type.here ((PySem.W.looks_subIn X ho).here ?_))
    have ha := PySem.F.cmpArgs_ne (.ref x) b
    cases hsig : Manifest.signature? "object.__ne__" with
    | none => exact wpAny_pure q
    | some sig =>
      simp only [argsOk, hsig] at ha
      show wpAny _ _ (Bind.checkArgs "object.__ne__" sig ⟨[.ref x, b], []⟩) _ _ _
      rw [show Bind.checkArgs "object.__ne__" sig ⟨[.ref x, b], []⟩ = pure () from ha]
      exact wpAny_pure q
  have one : wpAny (model prog w) A (tryCompare (.ref x) "__ne__" b) (fun r s' => ∃ v, r = some v ∧ Q v s') E s := by
    unfold tryCompare
    have hc : wpAny (model prog w) A (call (.builtin "object.__ne__") [.ref x, b]) (fun v s' => ∃ k, v = .bool k ∧ Q (.bool k) s') E s := by
      refine wpAny_call (codeAny_call_builtin PySem.F.cmp_object.ne.plain PySem.F.cmpEntry_ne (chk (obj_ne (A := A.in1) (by simpa using hu) X I hs hf (wpAny_mono h (fun v s' hv => ?_) fun _ _ e => e))))
      obtain ⟨k, rfl, q⟩ := hv
      exact ⟨k, rfl, _, rfl, q⟩
    have hbd : wpAny (model prog w) A (callSpecialIfBound? (.ref x) "__ne__" [b]) (fun r s' => ∃ k, r = some (.bool k) ∧ Q (.bool k) s') E s := by
      simp only [callSpecialIfBound?, bindSpecialIfBound?]
      refine wpAny_holding (wpAny_bind (wpAny_bind (wpAny_bind (I.type.here ((PySem.W.looks_findIn X h0).here ?_)))))
      simp only [PySem.F.cmp_object.ne.bind]
      refine wpAny_bind (wpAny_askSetting (wpAny_ite ?_))
      have fin : wpAny (model prog w) A (call (.builtin "object.__ne__") ([.ref x] ++ [b]) >>= fun v => pure (some v)) (fun r s' => ∃ k, r = some (.bool k) ∧ Q (.bool k) s') E s :=
        wpAny_bind (wpAny_mono hc (fun v s' hv => wpAny_pure (let ⟨k, e, q⟩ := hv; ⟨k, by rw [e], q⟩)) fun _ _ h' => h')
      split
      · exact wpAny_bind (wpAny_pure (wpAny_pure fin))
      · exact wpAny_tryCatch (wpAny_bind (wpAny_pure (wpAny_pure fin)))
    refine wpAny_bind (wpAny_mono hbd (fun r s' hr => ?_) fun _ _ e => e)
    obtain ⟨k, rfl, q⟩ := hr
    exact wpAny_pure ⟨_, rfl, q⟩
  unfold richCompare
  simp only [oneThing_ref]
  refine wpAny_holding (wpAny_bind (wpAny_cRoomFor (Nat.lt_of_succ_lt hu) ?_))
  rw [cmpInfo_NotEq]
  dsimp only
  refine wpAny_bind (I.type.here (wpAny_bind (hb.here ?_)))
  split
  · rename_i q
    have e : PySem.W.subIn K tb (.ref C) = some false := by
      rcases Bool.or_eq_true_iff.mp hn with e | e
      · rw [beq_iff_eq.mp e] at q; simp at q
      · exact beq_iff_eq.mp e
    refine wpAny_bind ((PySem.W.looks_subIn X e).here ?_)
    simp only [Bool.false_eq_true, if_false]
    refine wpAny_bind (wpAny_mono one (fun r s' z => ?_) fun _ _ e => e)
    obtain ⟨v, rfl, hq⟩ := z
    exact wpAny_pure hq
  · refine wpAny_bind (wpAny_pure ?_)
    simp only [Bool.false_eq_true, if_false]
    refine wpAny_bind (wpAny_mono one (fun r s' z => ?_) fun _ _ e => e)
    obtain ⟨v, rfl, hq⟩ := z
    exact wpAny_pure hq
end
section
variable {X : Cx} {CX : CXT} {pins : List (Addr × Obj)} {σ : L2.St} {H : Hp} {s : Shared} {a C dx g : Addr} {fs : List (Str × V)} {n : Nat} {sp : Sp} {E : XK}
theorem inst (I : Inv X pins σ H s) (e : H a = some (.ins C dx fs)) : ∃ ox od, PySem.W.InstAt s.heap a ox C (some od) := by
  obtain ⟨mA, O, _⟩ := ins_get I.hok e
  obtain ⟨od, J, _⟩ := O.look
  exact ⟨_, _, J⟩
theorem run_here {A : Around} {Q : VK} {us : List Value} {ws : List V} (F : FnR X.prog X.w X.K X.mg X.base CX n g sp) (hr : Room n A) (e0 : Env0 X.prog X.w X.K X.mg X.base A X.stack s H) (hx : PassesAt CX X σ E) (I : Inv X pins σ H s) (r : Vals ws us) (h : sp ws H Q E) :
    wpAny (model X.prog X.w) A (call (.ref g) us) (EP X pins σ Q) X.xe s := by
  refine wpAny_call (codeAny_mono (F A X.stack s H us ws Q E hr e0 r h) fun r s' hq => ?_)
  cases r with
  | error e => exact hx pins H s e s' I hq
  | ok fl =>
    cases fl with
    | ret u => exact I.after hq
    | next => exact False.elim hq
    | brk => exact False.elim hq
    | cont => exact False.elim hq
/-- len(x) -/
def rLenO (C : Addr) (sp : Sp) (E : XK) : List V → Hp → VK → Prop := fun xs H Q => ∃ a dx fs, xs = [V.ref a] ∧ H a = some (.ins C dx fs) ∧ sp [.ref a] H (fun z H' => ∃ n : Int, z = .int n ∧ 0 ≤ n ∧ n < 2 ^ 63 ∧ Q (.int n) H') E
theorem call_lenO (d : Dun X.K C "__len__" g) (F : FnR X.prog X.w X.K X.mg X.base CX n g sp) (hr : Room (n + 1) X.A) (hx : ∀ σ, PassesAt CX X σ E) : CallR X (.builtin "len") (rLenO C sp E) := by
  intro pins s σ H xs us Q I r h
  obtain ⟨a, dx, fs, rfl, ea, q⟩ := h
  obtain ⟨u, rfl, ru⟩ := r.one
  cases (show u = Value.ref a from ru)
  obtain ⟨ox, od, J⟩ := inst I ea
  obtain ⟨m, hF⟩ := I.fr
  refine PySem.W.len_K hF I.ok.mod.kin J d.at_ d.fn (wpAny_mono (run_here (us := [.ref a]) (ws := [.ref a]) F hr.in1 I.env0.in1 (hx σ) I (.cons rfl .nil) q) (fun w s' z => ?_) fun _ _ x => x)
  obtain ⟨z', H', I', rz, i, ei, h0, h1, qz⟩ := z
  subst ei
  obtain ⟨t, e⟩ := (show ∃ t, w = Value.int i t from rz)
  cases e
  exact ⟨⟨h0, h1⟩, .int i, H', I'.tok _, ⟨_, rfl⟩, qz⟩
/-- str(x) -/
def rStrO (C : Addr) (sp : Sp) (E : XK) : List V → Hp → VK → Prop := fun xs H Q => ∃ a dx fs, xs = [V.ref a] ∧ H a = some (.ins C dx fs) ∧ sp [.ref a] H (fun z H' => ∃ y, z = .str y ∧ Q (.str y) H') E
theorem call_strO (d : Dun X.K C "__str__" g) (F : FnR X.prog X.w X.K X.mg X.base CX n g sp) (hr : Room (n + 2) X.A) (hx : ∀ σ, PassesAt CX X σ E) : CallR X (.type "str") (rStrO C sp E) := by
  intro pins s σ H xs us Q I r h
  obtain ⟨a, dx, fs, rfl, ea, q⟩ := h
  obtain ⟨u, rfl, ru⟩ := r.one
  cases (show u = Value.ref a from ru)
  obtain ⟨ox, od, J⟩ := inst I ea
  have hr2 : Room n X.A.in1.in1 := (show Room (n + 1) X.A.in1 from Room.in1 hr).in1
  refine PySem.W.kso_call hr2.units0 I.kIn J d.at_ d.fn (wpAny_mono (run_here (us := [.ref a]) (ws := [.ref a]) F hr2 I.env0.in1.in1 (hx σ) I (.cons rfl .nil) q) (fun w s' z => ?_) fun _ _ x => x)
  obtain ⟨z', H', I', rz, y, ey, qz⟩ := z
  subst ey
  obtain ⟨t, e⟩ := (show ∃ t, w = Value.str y t from rz)
  cases e
  exact ⟨.str y, H', I', ⟨_, rfl⟩, qz⟩
/-- x in o, x not in o -/
def rInO (C : Addr) (sp : Sp) (E : XK) (neg : Bool) : R2 := fun x y H Q => ∃ a dx fs, y = .ref a ∧ H a = some (.ins C dx fs) ∧ sp [.ref a, x] H (fun z H' => ∃ k, z = .bl k ∧ Q (.bl (k != neg)) H') E
theorem op_inO (d : Dun X.K C "__contains__" g) (F : FnR X.prog X.w X.K X.mg X.base CX n g sp) (hr : Room n X.A) (hx : ∀ σ, PassesAt CX X σ E) : OpR X (compareOp .In) (rInO C sp E false) := by
  intro pins s σ H x y v u Q I rx ry h
  obtain ⟨a, dx, fs, rfl, ea, q⟩ := h
  cases (show u = Value.ref a from ry)
  obtain ⟨ox, od, J⟩ := inst I ea
  obtain ⟨m, hF⟩ := I.fr
  refine PySem.W.in_K hF I.ok.mod.kin J d.at_ d.fn (wpAny_mono (run_here (us := [.ref a, v]) (ws := [.ref a, x]) F hr I.env0 (hx σ) I (.cons rfl (.cons rx .nil)) q) (fun w s' z => ?_) fun _ _ x => x)
  obtain ⟨z', H', I', rz, k, ek, qz⟩ := z
  subst ek
  cases (show w = Value.bool k from rz)
  exact wpAny_truthy_bool ⟨.bl k, H', I', rfl, by cases k <;> exact qz⟩
theorem op_notInO (d : Dun X.K C "__contains__" g) (F : FnR X.prog X.w X.K X.mg X.base CX n g sp) (hr : Room n X.A) (hx : ∀ σ, PassesAt CX X σ E) : OpR X (compareOp .NotIn) (rInO C sp E true) := by
  intro pins s σ H x y v u Q I rx ry h
  obtain ⟨a, dx, fs, rfl, ea, q⟩ := h
  cases (show u = Value.ref a from ry)
  obtain ⟨ox, od, J⟩ := inst I ea
  obtain ⟨m, hF⟩ := I.fr
  refine PySem.W.notIn_K hF I.ok.mod.kin J d.at_ d.fn (wpAny_mono (run_here (us := [.ref a, v]) (ws := [.ref a, x]) F hr I.env0 (hx σ) I (.cons rfl (.cons rx .nil)) q) (fun w s' z => ?_) fun _ _ x => x)
  obtain ⟨z', H', I', rz, k, ek, qz⟩ := z
  subst ek
  cases (show w = Value.bool k from rz)
  exact wpAny_truthy_bool ⟨.bl (!k), H', I', rfl, by cases k <;> exact qz⟩
/-- x == y, x != y by the text's eq, y any value whose class is not one below C -/
def rEqO (K : PySem.W.Frag) (C : Addr) (sp : Sp) (E : XK) (neg : Bool) : R2 := fun x y H Q => ∃ a dx fs t, x = .ref a ∧ H a = some (.ins C dx fs) ∧ TyX K H y t ∧ PySem.W.notFirst K C t = true ∧ sp [x, y] H (fun z H' => ∃ k, z = .bl k ∧ Q (.bl (k != neg)) H') E
theorem op_eqO (d : Dun X.K C "__eq__" g) (F : FnR X.prog X.w X.K X.mg X.base CX n g sp) (hr : Room n X.A) (hx : ∀ σ, PassesAt CX X σ E) : OpR X (compareOp .Eq) (rEqO X.K C sp E false) := by
  intro pins s σ H x y v u Q I rx ry h
  obtain ⟨a, dx, fs, t, rfl, ea, ty, hn, q⟩ := h
  cases (show v = Value.ref a from rx)
  obtain ⟨ox, od, J⟩ := inst I ea
  obtain ⟨P, Z, p, _⟩ := kit_of I ry ty
  obtain ⟨m, hF⟩ := I.fr
  show wpAny _ _ (richCompare .Eq (.ref a) u) _ _ _
  refine PySem.W.cmp_K (op := .Eq) (tb := t) hr.units0 hF I.ok.mod.kin J (Z.ty _ _ I.kIn p) hn d.at_ d.fn (wpAny_mono (run_here (us := [.ref a, u]) (ws := [.ref a, y]) F hr I.env0 (hx σ) I (.cons rfl (.cons ry .nil)) q) (fun w s' z => ?_) fun _ _ x => x)
  obtain ⟨z', H', I', rz, k, ek, qz⟩ := z
  subst ek
  cases (show w = Value.bool k from rz)
  exact ⟨.bl k, H', I', rfl, by cases k <;> exact qz⟩
theorem op_neO (h0 : PySem.W.findIn X.K (.ref C) "__ne__" = some (some (.builtin "object.__ne__"))) (ho : PySem.W.subIn X.K (.ref C) (.type "object") = some true) (d : Dun X.K C "__eq__" g)
    (F : FnR X.prog X.w X.K X.mg X.base CX n g sp) (hr : Room (n + 1) X.A) (hx : ∀ σ, PassesAt CX X σ E) : OpR X (compareOp .NotEq) (rEqO X.K C sp E true) := by
  intro pins s σ H x y v u Q I rx ry h
  obtain ⟨a, dx, fs, t, rfl, ea, ty, hn, q⟩ := h
  cases (show v = Value.ref a from rx)
  obtain ⟨ox, od, J⟩ := inst I ea
  obtain ⟨P, Z, p, _⟩ := kit_of I ry ty
  show wpAny _ _ (richCompare .NotEq (.ref a) u) _ _ _
  refine ne_K (tb := t) (by have := hr.units; omega) I.kIn J (Z.ty _ _ I.kIn p) hn h0 ho d.at_ d.fn (wpAny_mono (run_here (us := [.ref a, u]) (ws := [.ref a, y]) F hr.in1 I.env0.in1 (hx σ) I (.cons rfl (.cons ry .nil)) q) (fun w s' z => ?_) fun _ _ x => x)
  obtain ⟨z', H', I', rz, k, ek, qz⟩ := z
  subst ek
  cases (show w = Value.bool k from rz)
  exact ⟨k, rfl, .bl (!k), H', I', rfl, by cases k <;> exact qz⟩
/-- x[i] -/
def tSubO (C : Addr) (sp : Sp) (E : L2.St → XK) (ta ti : TE) : TE := fun σ H Q => ta σ H fun x H1 => ti σ H1 fun y H2 => ∃ a dx fs, x = .ref a ∧ H2 a = some (.ins C dx fs) ∧ sp [x, y] H2 Q (E σ)
theorem pe_subO {E : L2.St → XK} {o i : Expr} {ta ti : TE} {pos : Pos} (d : Dun X.K C "__getitem__" g) (fi : PySem.W.fnIn X.K g = true) (F : FnR X.prog X.w X.K X.mg X.base CX n g sp) (hr : Room (n + 1) X.A) (hx : ∀ σ, PassesAt CX X σ (E σ))
    (he : PE X o ta) (hi : PE X i ti) (hsl : ∀ p v, subscripted i true p v = runValue (.builtin "lifetime.subscript" ⟨[p, v], []⟩)) : PE X (.Subscript o i pos) (tSubO C sp E ta ti) := by
  refine ⟨fun pins s σ H Q I h => ?_⟩
  refine Subscript_ (thn (he.run pins s σ H _ I h) fun v s1 ⟨x, H1, I1, rx, q1⟩ => thn (hi.run pins s1 σ H1 _ I1 q1) fun u s2 ⟨y, H2, I2, ry, q2⟩ => ?_)
  obtain ⟨a, dx, fs, rfl, ea, q⟩ := q2
  cases (show v = Value.ref a from rx)
  obtain ⟨ox, od, J⟩ := inst I2 ea
  obtain ⟨m, hF⟩ := I2.fr
  exact PySem.W.sub_K hF I2.ok.mod.kin J d.at_ fi d.fn (run_here (us := [.ref a, u]) (ws := [.ref a, y]) F hr.in1 I2.env0.in1 (hx σ) I2 (.cons rfl (.cons ry .nil)) q) (hsl _ _)
end
end Dn

namespace Dn
open PySem PySem.Spec PyProof.Rows L2
section
variable {X : Cx} {CX : CXT} {C f : Addr} {n i : Nat} {sp : Sp} {E : XK}
/-- x(*e), x a local that holds the class at C -/
def tMakeS (K : PySem.W.Frag) (i : Nat) (C : Addr) (sp : Sp) (E : XK) (te : TE) : TE := fun σ H Q => σ[i]? = some (some (.ref C)) ∧ te σ H fun y H1 => ∃ a xs, y = V.ref a ∧ (SqT K H1 a xs ∨ SqL K H1 a xs) ∧
  ∀ x dx, H1 x = Option.none → H1 dx = Option.none → dx ≠ x → sp (V.ref x :: xs) (upd (upd H1 dx (.own x)) x (.ins C dx [])) (fun v H2 => v = .non ∧ Q (.ref x) H2) E
theorem pe_makeS {x : Str} {e : Expr} {te : TE} {p p2 pos : Pos} (M : Mk X.K C f) (F : FnR X.prog X.w X.K X.mg X.base CX n f sp) (hr : Room (n + 1) X.A) (hx : Passes CX X E) (hN : X.N[i]? = some x) (hv : Vis X.env.scope x) (he : PE X e te)
    (hd : (x == ("__debug__" : Str)) = false := by decide) (hcd : (x == ("__classdict__" : Str)) = false := by decide) (hst : starEach [.Starred e p2] X.env = [(true, eval e X.env)] := by rfl) :
    PE X (.Call (.Name x p) [.Starred e p2] [] pos) (tMakeS X.K i C sp E te) := by
  refine ⟨fun pins s σ H Q I h => ?_⟩
  obtain ⟨hs, h⟩ := h
  refine wpAny_Call_Name_kw (thn ((pe_var (pos := p) (i := i) hN hv hd hcd).run pins s σ H (fun v H1 => v = .ref C ∧ H1 = H) I ⟨.ref C, hs, rfl, rfl⟩) fun u s1 ⟨v, H1, I1, r1, ev, eH⟩ => ?_)
  subst ev
  rw [eH] at I1
  cases r1
  refine PySem.W.callWith_S (h₀ := X.base) I.ok.mod.kin M.kp (thn (he.run pins s1 σ H _ I1 h) fun v s2 ⟨y, H2, I2, ry, a, xs, ey, hxs, q⟩ => ?_) hst
  subst ey
  obtain rfl : v = Value.ref a := ry
  exact StX.star_any I2 hxs fun us s3 I3 rv => ⟨I3.kIn, StX.run_makeR M F hr hx I3 rv q⟩
/-- C(), C a class of the module -/
theorem pe_makeR0 {x : Str} {p pos : Pos} (M : Mk X.K C f) (F : FnR X.prog X.w X.K X.mg X.base CX n f sp) (hr : Room (n + 1) X.A) (hg : Gl X x) (hm : X.mg x = some (.ref C)) (hx : Passes CX X E) (hdb : (x == ("__debug__" : Str)) = false := by decide) :
    PE X (.Call (.Name x p) [] [] pos) (StX.tMakeR C sp E tNil) := by
  refine ⟨fun pins s σ H Q I h => ?_⟩
  refine wpAny_Call_Name_kw (ld_glob I hg hm ?_ hdb)
  exact PySem.W.callWith_K0 I.kIn M.kp (StX.run_makeR (us := []) (vs := []) M F hr hx I .nil h)
/-- x in t, t a tuple of data -/
def rInDT (K : PySem.W.Frag) (neg : Bool) : R2 := fun x y H Q => ∃ d ds, Dp K H x d ∧ Dp K H y (.tuple ds) ∧ SeqAt.shaped d = true ∧ PyData.canLayAll0 ds = true ∧ Q (.bl ((ds.any fun e => PyData.eqv e d) != neg)) H
theorem op_inDT (hu : X.A.units + 65 < cLine) : OpR X (compareOp .In) (rInDT X.K false) := by
  intro pins s σ H x y v u Q I rx ry h
  obtain ⟨d, ds, hd, he, sd, se, q⟩ := h
  obtain ⟨as, r1⟩ := Dp.reads I d x v hd rx
  obtain ⟨bs, r2⟩ := Dp.reads I (.tuple ds) y u he ry
  refine SeqAt.in_tuple_reads r2 r1 se (SeqAt.canLay_of_shaped sd) (room_in_shaped sd hu) ⟨.bl _, H, I, rfl, ?_⟩
  cases e : ds.any fun z => PyData.eqv z d <;> rw [e] at q <;> exact q
theorem op_notInDT (hu : X.A.units + 65 < cLine) : OpR X (compareOp .NotIn) (rInDT X.K true) := by
  intro pins s σ H x y v u Q I rx ry h
  obtain ⟨d, ds, hd, he, sd, se, q⟩ := h
  obtain ⟨as, r1⟩ := Dp.reads I d x v hd rx
  obtain ⟨bs, r2⟩ := Dp.reads I (.tuple ds) y u he ry
  refine SeqAt.notIn_tuple_reads r2 r1 se (SeqAt.canLay_of_shaped sd) (room_in_shaped sd hu) ⟨.bl _, H, I, rfl, ?_⟩
  cases e : ds.any fun z => PyData.eqv z d <;> rw [e] at q <;> exact q
end
/-! ### data over a heap that grows -/
section
variable {K : PySem.W.Frag} {H H' : Hp}
theorem sqL_up {a : Addr} {xs : List V} (h : SqL K H a xs) (s : Same H H') : SqL K H' a xs := s.seq h
theorem sqT_up {a : Addr} {xs : List V} (h : SqT K H a xs) (s : Same H H') : SqT K H' a xs :=
  h.elim (fun h => .inl (h.elim (fun h => .inl (s _ _ h)) fun ⟨o, h⟩ => .inr ⟨o, s _ _ h⟩)) .inr
mutual
theorem dp_up (s : Same H H') : ∀ {v : V} {d : PyData}, Dp K H v d → Dp K H' v d
  | _, _, .non => .non
  | _, _, .bl b => .bl b
  | _, _, .int i => .int i
  | _, _, .str x => .str x
  | _, _, .lst h a => .lst (sqL_up h s) (dpAll_up s a)
  | _, _, .tup h a => .tup (sqT_up h s) (dpAll_up s a)
theorem dpAll_up (s : Same H H') : ∀ {vs : List V} {ds : List PyData}, DpAll K H vs ds → DpAll K H' vs ds
  | _, _, .nil => .nil
  | _, _, .cons h a => .cons (dp_up s h) (dpAll_up s a)
end
theorem dpAll_len : ∀ {vs : List V} {ds : List PyData}, DpAll K H vs ds → vs.length = ds.length
  | _, _, .nil => rfl
  | _, _, .cons _ a => by rw [List.length_cons, List.length_cons, dpAll_len a]
theorem dpAll_get : ∀ {vs : List V} {ds : List PyData}, DpAll K H vs ds → ∀ {i : Nat} {v : V}, vs[i]? = some v → ∃ d, ds[i]? = some d ∧ Dp K H v d
  | _, _, .cons h _, 0, v, e => by cases e; exact ⟨_, rfl, h⟩
  | _, _, .cons _ a, i + 1, v, e => dpAll_get a (i := i) e
  | _, _, .nil, i, v, e => by simp at e
theorem dpAll_drop : ∀ {vs : List V} {ds : List PyData} (n : Nat), DpAll K H vs ds → DpAll K H (vs.drop n) (ds.drop n)
  | _, _, 0, a => a
  | _, _, n + 1, .nil => .nil
  | _, _, n + 1, .cons _ a => dpAll_drop n a
theorem dpAll_take : ∀ {vs : List V} {ds : List PyData} (n : Nat), DpAll K H vs ds → DpAll K H (vs.take n) (ds.take n)
  | _, _, 0, a => .nil
  | _, _, n + 1, .nil => .nil
  | _, _, n + 1, .cons h a => .cons h (dpAll_take n a)
theorem lay_at : ∀ {ds : List PyData}, PyData.canLayAll0 ds = true → ∀ {i : Nat} {d : PyData}, ds[i]? = some d → d.canLay0 = true
  | d :: ds, h, i, e, q => by
    have h' : (d.canLay0 && PyData.canLayAll0 ds) = true := by simpa only [PyData.canLayAll0] using h
    obtain ⟨h1, h2⟩ := Bool.and_eq_true_iff.mp h'
    cases i with
    | zero => cases q; exact h1
    | succ i => exact lay_at h2 (i := i) q
  | [], _, i, e, q => by simp at q
theorem depth_at : ∀ {ds : List PyData} {i : Nat} {d : PyData}, ds[i]? = some d → d.depth ≤ PyData.depthAll ds
  | d :: ds, i, e, q => by
    simp only [PyData.depthAll]
    cases i with
    | zero => cases q; omega
    | succ i => have := depth_at (ds := ds) (i := i) q; omega
  | [], i, e, q => by simp at q
/-- the items of shaped data are shaped -/
theorem shaped_at {ds : List PyData} (h : SeqAt.shaped (.tuple ds) = true) {i : Nat} {d : PyData} (e : ds[i]? = some d) : SeqAt.shaped d = true := by
  have h1 := SeqAt.canLay_of_shaped h
  have h2 := SeqAt.depth_of_shaped h
  simp only [PyData.canLay0] at h1
  simp only [PyData.depth] at h2
  have h3 := depth_at e
  show (d.canLay0 && decide (d.depth ≤ 64)) = true
  rw [Bool.and_eq_true]
  exact ⟨lay_at h1 e, decide_eq_true (by omega)⟩
end
end Dn

/-! Sets of tuples whose items are of one kind (texts, say), and sorted lists of them. -/
namespace Tq
open PySem PySem.Spec PyProof.Rows L2
/-- what a table asks of an item of a member -/
structure Mild {P : Program} {w : World} {κ : Type} [DecidableEq κ] (kd : KeyKind P w κ) : Prop where
  cls : ∀ n k v, kd.is k v = true → ofAClassStatement n v = pure false
  val : ∀ n k v, kd.is k v = true → ∃ b, hashByValue n v = pure b
theorem mild_str (P : Program) (w : World) : Mild (strKind P w) where
  cls n k v h := by obtain ⟨t, rfl⟩ := Value.isStrOf_shape h; cases n <;> rfl
  val n k v h := by obtain ⟨t, rfl⟩ := Value.isStrOf_shape h; exact ⟨false, by cases n <;> rfl⟩
abbrev Row (κ : Type) := Addr × List κ
section
variable {P : Program} {w : World} {κ : Type} [DecidableEq κ] {kd : KeyKind P w κ} {A : Around} {E : Value → Shared → Prop} {s : Shared}
/-- the items of a tuple, one by one -/
theorem each_is {ks : List κ} {vs : List Value} (x : ItemsAre kd ks vs) : ∀ v ∈ vs, ∃ k, kd.is k v = true := by
  induction x with
  | nil => exact fun v z => nomatch z
  | cons y _ ih => exact fun v z => (List.mem_cons.mp z).elim (fun e => ⟨_, e ▸ y⟩) (ih v)
theorem same_at {h h' : Heap} {ks : List κ} {b : Addr} (x : IsTupleKey kd h ks b) (k : ∀ o, h.get? b = some o → h'.get? b = some o) : IsTupleKey kd h' ks b := by
  obtain ⟨o, xs, n, ho, r⟩ := x; exact ⟨o, xs, n, k o ho, r⟩
/-- a member is not the set -/
theorem apart {h : Heap} {ks : List κ} {a b : Addr} {o : Obj} {es ep t} (x : IsTupleKey kd h ks b) (ho : h.get? a = some o) (hd : o.data = .set es ep t) : b ≠ a := by
  rintro rfl
  obtain ⟨o', xs, n, ho', _, hd', _⟩ := x
  cases ho.symm.trans ho'
  exact nomatch hd.symm.trans hd'
theorem no_cls (M : Mild kd) {ks : List κ} {b : Addr} {Q : Bool → Shared → Prop} (x : IsTupleKey kd s.heap ks b) (q : Q false s) : wpAny (model P w) A (ofAClassStatement 8 (.ref b)) Q E s := by
  have ty := x.typeIs
  obtain ⟨o, xs, n, ho, _, hd, hi⟩ := x
  unfold ofAClassStatement
  refine wpAny_bind (wpAny_typeOf ty ?_)
  simp only [beq_self_eq_true, if_true, Bool.not_true, Bool.false_eq_true, if_false, pure_bind]
  refine wpAny_bind (wpAny_seqItems ho hd (wpAny_bind ?_))
  show wpAny _ _ (forIn xs _ _) _ _ s
  rw [← Array.forIn_toList]
  refine wpAny_forIn_list _ (fun l r s' => r.1 = none ∧ s' = s ∧ ∀ v ∈ l, ∃ k, kd.is k v = true) _ (fun v l r s' z => ?_) (fun r s' z => ?_) _ _ ⟨rfl, rfl, each_is hi⟩
  · obtain ⟨_, rfl, al⟩ := z
    obtain ⟨k, hk⟩ := al v List.mem_cons_self
    rw [M.cls _ k v hk]
    exact wpAny_bind (wpAny_pure (wpAny_pure ⟨rfl, rfl, fun u hu => al u (.tail _ hu)⟩))
  · obtain ⟨r1, r2⟩ := r
    obtain ⟨e, rfl, _⟩ := z
    cases (show r1 = none from e)
    exact wpAny_pure q
theorem some_val (M : Mild kd) {ks : List κ} {b : Addr} {Q : Bool → Shared → Prop} (x : IsTupleKey kd s.heap ks b) (q : ∀ c, Q c s) : wpAny (model P w) A (hashByValue 8 (.ref b)) Q E s := by
  have ty := x.typeIs
  obtain ⟨o, xs, n, ho, _, hd, hi⟩ := x
  unfold hashByValue
  refine wpAny_bind (wpAny_specialOf ty F.slot_tuple_hash.lookup ?_)
  show wpAny _ _ (seqItems? (.ref b) >>= _) _ _ s
  refine wpAny_bind (wpAny_seqItems ho hd (wpAny_bind ?_))
  show wpAny _ _ (forIn xs _ _) _ _ s
  rw [← Array.forIn_toList]
  refine wpAny_forIn_list _ (fun l r s' => r.1 = none ∧ s' = s ∧ ∀ v ∈ l, ∃ k, kd.is k v = true) _ (fun v l r s' z => ?_) (fun r s' z => ?_) _ _ ⟨rfl, rfl, each_is hi⟩
  · obtain ⟨_, rfl, al⟩ := z
    obtain ⟨k, hk⟩ := al v List.mem_cons_self
    obtain ⟨c, e⟩ := M.val 7 k v hk
    rw [e]
    refine wpAny_bind (wpAny_pure ?_)
    cases c
    · exact wpAny_pure (wpAny_pure (q _))
    · exact wpAny_pure ⟨rfl, rfl, fun u hu => al u (.tail _ hu)⟩
  · obtain ⟨r1, r2⟩ := r
    obtain ⟨e, rfl, _⟩ := z
    cases (show r1 = none from e)
    exact wpAny_pure (q _)
end
end Tq

/-! The table of a set of such tuples: looking for one, and putting one in. -/
namespace Tq
open PySem PySem.Spec PyProof.Rows L2
section
variable {P : Program} {w : World} {κ : Type} [DecidableEq κ] {kd : KeyKind P w κ} {A : Around} {E : Value → Shared → Prop} {s : Shared}
abbrev hk (kd : KeyKind P w κ) (r : Row κ) : Int := tupleKeyHash kd r.2
abbrev ent (kd : KeyKind P w κ) (r : Row κ) : Int × Value := (hk kd r, .ref r.1)
/-- the set at a has these rows, in the order of its table -/
structure Lies (kd : KeyKind P w κ) (h : Heap) (a : Addr) (L : List (Row κ)) (es : Array (Int × Value)) (ep : Nat) (t : SetTable) : Prop where
  obj : ∃ o, h.get? a = some o ∧ o.ExactSet ∧ o.data = .set es ep t
  ents : es.toList = L.map (ent kd)
  tab : TabOk t (L.map (hk kd))
  dif : (L.map Prod.snd).Nodup
  led : w.params.followText "set-order" = true ∨ t.led = true
  wide : L.length * 5 < t.mask * 3
  few : L.length < 64
abbrev Are (kd : KeyKind P w κ) (h : Heap) (L : List (Row κ)) : Prop := ∀ r ∈ L, IsTupleKey kd h r.2 r.1
variable {a : Addr} {L : List (Row κ)} {es : Array (Int × Value)} {ep : Nat} {t : SetTable}
theorem len_of (e : es.toList = L.map (ent kd)) : es.size = L.length := by
  rw [← Array.length_toList, e, List.length_map]
theorem get_of (e : es.toList = L.map (ent kd)) {i : Nat} {r : Row κ} (h : L[i]? = some r) : es[i]? = some (ent kd r) := by
  rw [← Array.getElem?_toList, e, List.getElem?_map, h]; rfl
theorem fits_of (hs : t.place.size = es.size) (hd : t.dummies = #[]) (hm : es.size ≤ t.mask) : t.fits es.size = true := by
  unfold SetTable.fits SetTable.fill
  rw [hd, Bool.and_eq_true, beq_iff_eq, decide_eq_true_eq]
  exact ⟨hs, by show t.place.size + 0 ≤ t.mask; omega⟩
theorem Lies.sz (T : Lies kd s.heap a L es ep t) : t.place.size = L.length := by rw [T.tab.sz, List.length_map]
theorem Lies.ok (T : Lies kd s.heap a L es ep t) : t.fits es.size = true :=
  fits_of (by rw [T.sz, len_of T.ents]) T.tab.dm (by rw [len_of T.ents]; have := T.wide; omega)
/-- a search tells nobody anything -/
theorem unseen (M : Mild kd) {k : List κ} {b : Addr} {ys : List Value} {Q : Bool → Shared → Prop} (x : IsTupleKey kd s.heap k b) (hy : ∀ y ∈ ys, ∃ r : Row κ, y = .ref r.1 ∧ IsTupleKey kd s.heap r.2 r.1) (q : Q false s) :
    wpAny (model P w) A (searchCouldBeSeen (.ref b) ys) Q E s := by
  unfold searchCouldBeSeen
  refine wpAny_bind (wpAny_forIn_list _ (fun l r s' => r.1 = none ∧ s' = s ∧ ∀ y ∈ l, ∃ r : Row κ, y = .ref r.1 ∧ IsTupleKey kd s.heap r.2 r.1) _ (fun v l r s' z => ?_) (fun r s' z => ?_) _ _ ⟨rfl, rfl, hy⟩)
  · obtain ⟨_, rfl, al⟩ := z
    obtain ⟨r', rfl, y⟩ := al v List.mem_cons_self
    have on : ∀ u ∈ l, _ := fun u hu => al u (.tail _ hu)
    dsimp only
    split
    · exact wpAny_pure ⟨rfl, rfl, on⟩
    · refine wpAny_bind (wpAny_eqIsQuiet_tuple x ?_)
      simp only [Bool.not_true, Bool.false_eq_true, if_false]
      refine wpAny_bind (wpAny_eqIsQuiet_tuple y ?_)
      simp only [Bool.not_true, Bool.false_eq_true, if_false]
      refine wpAny_bind (no_cls M x ?_)
      simp only [Bool.false_eq_true, if_false]
      refine wpAny_bind (no_cls M y ?_)
      simp only [Bool.false_eq_true, if_false]
      exact wpAny_pure ⟨rfl, rfl, on⟩
  · obtain ⟨r1, r2⟩ := r
    obtain ⟨e, rfl, _⟩ := z
    cases (show r1 = none from e)
    exact wpAny_pure q
/-- the way of a hash from one of its steps on -/
abbrev from_ (m : Nat) (h : Int) (c : Nat) : SetTable.Probe := nth m (runAt m (SetTable.bits h % (m + 1)) (SetTable.bits h)) c
theorem from_j (m : Nat) (h : Int) (c q : Nat) : (nth m (from_ m h c) q).j = way m h (c + q) := congrArg SetTable.Probe.j (nth_add m c _ q).symm
theorem from_dummy (m : Nat) (h : Int) (c : Nat) : (from_ m h c).dummy = none := by
  have : ∀ (n : Nat) (p : SetTable.Probe), p.dummy = none → (nth m p n).dummy = none := by
    intro n
    induction n with
    | zero => exact fun p h => h
    | succ n ih => exact fun p h => ih _ (by unfold adv; split <;> exact h)
  exact this c _ rfl
section
variable {x : Addr} {k : List κ}
/-- what is left of a search from step c on ends as it should -/
theorem seek_from (M : Mild kd) (T : Lies kd s.heap a L es ep t) (mem : Are kd s.heap L) (hx : IsTupleKey kd s.heap k x) (hu : A.units < cLine) {N : Nat} (hN : N < 10 * SetTable.turns t.mask)
    (free : way t.mask (tupleKeyHash kd k) N ∉ t.place.toList) (full : ∀ c, c < N → way t.mask (tupleKeyHash kd k) c ∈ t.place.toList) {Q : SetFound → Shared → Prop}
    (yes : k ∈ L.map Prod.snd → Q (.there none) s) (no : k ∉ L.map Prod.snd → Q (.free (way t.mask (tupleKeyHash kd k) N) false) s) (f : Nat) :
    ∀ (c : Nat) (st : Option SetTable.Probe), st.getD (t.probeStart (tupleKeyHash kd k)) = from_ t.mask (tupleKeyHash kd k) c → c ≤ N → N - c < f →
      (∀ (i : Nat) r, L[i]? = some r → r.2 = k → ∃ c', c ≤ c' ∧ c' < N ∧ t.place.toList[i]? = some (way t.mask (tupleKeyHash kd k) c')) →
      wpAny (model P w) A (setSearchFrom a (.ref x) (tupleKeyHash kd k) true f st) Q E s := by
  obtain ⟨o, ho, hex, hd⟩ := T.obj
  generalize hH : tupleKeyHash kd k = H at *
  have hashAt : ∀ {i : Nat} {r : Row κ}, L[i]? = some r → (fun i => (es[i]?.map (·.1)).getD 0) i = hk kd r := fun {i r} e => by
    show (es[i]?.map (·.1)).getD 0 = _
    rw [get_of T.ents e]; rfl
  have same : ∀ r : Row κ, r.2 = k → hk kd r = H := fun r e => by rw [← hH, ← e]
  induction f with
  | zero => exact fun c st _ _ z _ => absurd z (Nat.not_lt_zero _)
  | succ f ih =>
    intro c st hst hc hf later
    rw [setSearchFrom_succ]
    refine wpAny_bind (wpAny_setState_of ho hd T.ok ?_)
    dsimp only
    refine wp_if_neg (by unfold SetTable.gaveWay; rw [mask_odd T.tab.mok]; decide) ?_
    try refine wpAny_bind (wpAny_pure ?_)
    have met := go_spec t T.tab.ris T.tab.dm (fun i => (es[i]?.map (·.1)).getD 0) H (10 * SetTable.turns t.mask) (N - c) (from_ t.mask H c) (from_dummy _ _ _) (by omega)
      (fun q hq => by rw [from_j]; exact full _ (by omega)) (by rw [from_j, show c + (N - c) = N by omega]; exact free)
    rw [← hst] at met
    rcases met with ⟨q, i, hq, hi, hh, pass, hp⟩ | ⟨pass, hp⟩
    · rw [show t.probe (fun i => (es[i]?.map (·.1)).getD 0) H (st.getD (t.probeStart H)) = _ from hp]
      rw [hst] at hi pass ⊢
      rw [from_j] at hi ⊢
      dsimp only
      have hil : i < L.length := by
        have := (List.getElem?_eq_some_iff.mp hi).1
        rw [Array.length_toList, T.sz] at this; exact this
      obtain ⟨r, hr⟩ : ∃ r, L[i]? = some r := ⟨_, List.getElem?_eq_getElem hil⟩
      have hm := List.mem_of_getElem? hr
      have sl : t.slot (way t.mask H (c + q)) = .live i := slot_live T.tab.ris hi
      have tail : wpAny (model P w) A (searchRest a (.ref x) H true f es t (way t.mask H (c + q)) i (nth t.mask (from_ t.mask H c) (q + 1))) Q E s := by
        unfold searchRest
        rw [get_of T.ents hr]
        refine wpAny_bind (wpAny_holding (wpAny_eqBool_tuple hu (mem r hm) hx ?_))
        refine wpAny_bind (wpAny_setState_of ho hd T.ok ?_)
        dsimp only
        by_cases e : r.2 = k
        · exact wp_if_pos (by simp [e]) (wpAny_pure (yes (List.mem_map.mpr ⟨r, hm, e⟩)))
        · refine wp_if_neg (by simp [e]) ?_
          try refine wpAny_bind (wpAny_pure ?_)
          rw [sameMem]
          simp only [if_true, sl, get_of T.ents hr]
          refine wpAny_bind (wpAny_isSame_ref_self (wpAny_bind (wpAny_pure ?_)))
          simp only [if_true]
          refine wp_if_neg (by simp [e]) ?_
          refine ih (c + (q + 1)) _ (nth_add t.mask c _ (q + 1)).symm (by omega) (by omega) fun i0 r0 h0 e0 => ?_
          obtain ⟨c', l1, l2, l3⟩ := later i0 r0 h0 e0
          refine ⟨c', ?_, l2, l3⟩
          rcases Nat.lt_trichotomy c' (c + q) with z | z | z
          · refine absurd ((hashAt h0).trans (same r0 e0)) (pass (c' - c) i0 (by omega) ?_)
            rw [from_j, show c + (c' - c) = c' by omega]; exact l3
          · have := slot_live T.tab.ris (z ▸ l3)
            rw [sl] at this
            injection this with this
            rw [← this, hr] at h0
            exact absurd ((congrArg Prod.snd (Option.some.inj h0)).trans e0) e
          · omega
      by_cases hl : t.led = true
      · refine wp_if_neg (by simp [hl]) ?_
        try refine wpAny_bind (wpAny_pure ?_)
        exact tail
      · refine wp_if_pos (by simp [hl]) (wpAny_bind (unseen M hx (fun y hy => ?_) (wp_if_neg (by decide) ?_)))
        · obtain ⟨e, he, rfl⟩ := List.mem_map.mp hy
          have he : e ∈ es.toList := by
            have : e ∈ es ∧ e.1 = H := by simpa using he
            simpa using this.1
          rw [T.ents] at he
          obtain ⟨r', hr', rfl⟩ := List.mem_map.mp he
          exact ⟨r', rfl, mem r' hr'⟩
        · try refine wpAny_bind (wpAny_pure ?_)
          exact tail
    · rw [show t.probe (fun i => (es[i]?.map (·.1)).getD 0) H (st.getD (t.probeStart H)) = _ from hp]
      rw [hst] at pass ⊢
      rw [from_j, show c + (N - c) = N by omega]
      refine wpAny_pure (no fun z => ?_)
      obtain ⟨r, hr, e⟩ := List.mem_map.mp z
      obtain ⟨i, hi, ei⟩ := List.getElem_of_mem hr
      have h0 : L[i]? = some r := by rw [List.getElem?_eq_getElem hi, ei]
      obtain ⟨c', l1, l2, l3⟩ := later i r h0 e
      refine pass (c' - c) i (by omega) ?_ ((hashAt h0).trans (same r e))
      rw [from_j, show c + (c' - c) = c' by omega]; exact l3
/-- a search as putting in asks for it -/
theorem seek (M : Mild kd) (T : Lies kd s.heap a L es ep t) (mem : Are kd s.heap L) (hx : IsTupleKey kd s.heap k x) (hu : A.units < cLine) {Q : SetFound → Shared → Prop} (yes : k ∈ L.map Prod.snd → Q (.there none) s)
    (no : ∀ N, k ∉ L.map Prod.snd → way t.mask (tupleKeyHash kd k) N ∉ t.place.toList → (∀ c, c < N → way t.mask (tupleKeyHash kd k) c ∈ t.place.toList) → Q (.free (way t.mask (tupleKeyHash kd k) N) false) s) :
    wpAny (model P w) A (setSearch a (.ref x) (tupleKeyHash kd k) true) Q E s := by
  have room := T.wide
  obtain ⟨N, b, free, full⟩ := T.tab.first (by rw [List.length_map]; omega) (tupleKeyHash kd k)
  have most : 10 * SetTable.turns t.mask ≤ 1420 := by
    unfold SetTable.turns
    rcases T.tab.mok with e | e | e <;> omega
  unfold setSearch
  refine seek_from M T mem hx hu b free full yes (fun z => no N z free full) 100000 0 none rfl (Nat.zero_le _) (by omega) fun i r hr e => ?_
  have hi : i < t.place.toList.length := by
    rw [Array.length_toList, T.sz]; exact (List.getElem?_eq_some_iff.mp hr).1
  obtain ⟨c, hc, ec⟩ := T.tab.before free (i := i) (h := tupleKeyHash kd k) (by rw [List.getElem?_map, hr, ← e]; rfl) (List.getElem?_eq_getElem hi)
  exact ⟨c, Nat.zero_le _, hc, by rw [List.getElem?_eq_getElem hi, ec]⟩
end
end
end Tq

/-! Putting a tuple in; a set of the items of a list. -/
namespace Tq
open PySem PySem.Spec PyProof.Rows L2
section
variable {P : Program} {w : World} {κ : Type} [DecidableEq κ] {kd : KeyKind P w κ} {A : Around} {E : Value → Shared → Prop} {s : Shared}
variable {a : Addr} {L : List (Row κ)} {es : Array (Int × Value)} {ep : Nat} {t : SetTable}
theorem map_range {α : Type} (l : List α) (d : α) : (List.range l.length).map (fun i => l.getD i d) = l := by
  apply List.ext_getElem
  · simp
  · intro i h1 h2; simp [List.getD_eq_getElem?_getD, h2]
/-- the entries in another order are those of the rows in that order -/
theorem in_order {order : Array Nat} (e : es.toList = L.map (ent kd)) (pm : order.toList.Perm (List.range L.length)) :
    ∃ L2 : List (Row κ), (order.filterMap (es[·]?)).toList = L2.map (ent kd) ∧ L2.Perm L ∧ L2.map (hk kd) = order.toList.map fun i => (es.map (·.1)).getD i 0 := by
  have d : Row κ := (0, [])
  have bd : ∀ i ∈ order.toList, i < L.length := fun i hi => List.mem_range.mp (pm.mem_iff.mp hi)
  refine ⟨order.toList.map fun i => L.getD i d, ?_, ?_, ?_⟩
  · rw [Array.toList_filterMap, List.map_map]
    generalize order.toList = l at bd
    clear pm
    induction l with
    | nil => rfl
    | cons i l ih =>
      have hi := bd i List.mem_cons_self
      have g := get_of e (List.getElem?_eq_getElem hi)
      rw [List.filterMap_cons_some g, ih fun j hj => bd j (.tail _ hj), List.map_cons]
      simp [hi]
  · have := pm.map fun i => L.getD i d
    rwa [map_range] at this
  · rw [List.map_map]
    refine List.map_congr_left fun i hi => ?_
    have g := get_of e (List.getElem?_eq_getElem (bd i hi))
    have hi' := bd i hi
    have g2 : (es.map (·.1))[i]? = some (hk kd L[i]) := by rw [Array.getElem?_map, g]; rfl
    simp [bd i hi, Array.getD_eq_getD_getElem?, g2]
/-- the table is laid anew -/
theorem anew {o : Obj} (ho : s.heap.get? a = some o) (hex : o.ExactSet) (hd : o.data = .set es ep t) (e : es.toList = L.map (ent kd)) (T : TabOk t (L.map (hk kd))) (hm : L.length ≤ t.mask) (dif : (L.map Prod.snd).Nodup)
    (led : w.params.followText "set-order" = true ∨ t.led = true) (few : L.length < 64) {n m : Nat} (hn : SetTable.sizeAbove n - 1 = m) (ok : MaskOk m) (le : SetTable.sizeAbove n ≤ 128) (wide : L.length * 5 < m * 3) {Q : Unit → Shared → Prop}
    (q : ∀ h' L' es' ep' t', Heap.SameBut a s.heap h' → Lies kd h' a L' es' ep' t' → L'.Perm L → Q () { s with heap := h' }) : wpAny (model P w) A (setRelay a n) Q E s := by
  have hz := len_of e
  obtain ⟨t', order, er, pm, T', em, el, _, _⟩ := relaid_ok t (hs := es.map (·.1)) hn ok (by rw [Array.size_map, hz]; omega)
  rw [Array.size_map, hz] at pm
  obtain ⟨L2, e1, e2, e3⟩ := in_order e pm
  have hz2 : (order.filterMap (es[·]?)).size = es.size := by rw [len_of e1, hz, e2.length_eq]
  have f : t.fits es.size = true := fits_of (by rw [T.sz, List.length_map, hz]) T.dm (by omega)
  rw [setRelay_eq]
  refine wpAny_bind (wpAny_setState_of ho hd f (wp_if_neg (by rw [sizeLine_eq]; omega) ?_))
  try refine wpAny_bind (wpAny_pure ?_)
  rw [er]
  refine wpAny_bind (wp_if_neg (by rw [hz2]; simp) ?_)
  try refine wpAny_bind (wpAny_pure ?_)
  refine wpAny_pure (wpAny_storeSet_of ho hd ?_ (by rw [hz2, hz, sizeLine_eq]; omega))
  refine q _ L2 _ (ep + 1) t' (Heap.SameBut.update ..) ⟨⟨_, store_at ho hd, hex, rfl⟩, e1, e3 ▸ T', (e2.map _).nodup_iff.mpr dif, el ▸ led, ?_, e2.length_eq ▸ few⟩ e2
  rw [e2.length_eq, em]; exact wide
theorem tab_like {t t' : SetTable} {hs : List Int} (T : TabOk t hs) (e1 : t'.place = t.place) (e2 : t'.dummies = t.dummies) (e3 : t'.mask = t.mask) : TabOk t' hs := by
  refine ⟨e1 ▸ T.ris, e2 ▸ T.dm, e1 ▸ T.sz, e3 ▸ T.mok, ?_, ?_⟩
  · rw [e1, e3]; exact T.bd
  · rw [e1, e3]; exact T.reach
/-- a tuple is put in -/
theorem put_in (M : Mild kd) (T : Lies kd s.heap a L es ep t) (mem : Are kd s.heap L) {x : Addr} {k : List κ} (hx : IsTupleKey kd s.heap k x) (hu : A.units < cLine) (few : L.length + 1 < 64) {Q : Bool → Shared → Prop}
    (q : ∀ b h' L' es' ep' t', Heap.SameBut a s.heap h' → Lies kd h' a L' es' ep' t' → (k ∈ L.map Prod.snd ∧ L' = L) ∨ (k ∉ L.map Prod.snd ∧ L'.Perm ((x, k) :: L)) → Q b { s with heap := h' }) :
    wpAny (model P w) A (setAddHashed a (.ref x) (tupleKeyHash kd k)) Q E s := by
  obtain ⟨o, ho, hex, hd⟩ := T.obj
  have hz := len_of T.ents
  have wide := T.wide
  unfold setAddHashed
  refine wpAny_holding ?_
  rw [show (100000 : Nat) = 99999 + 1 from rfl, setAddHashedIn_succ]
  refine wpAny_bind (wpAny_setState_of ho hd T.ok (wp_if_neg (by simp [byScan, Value.scannable]) ?_))
  try refine wpAny_bind (wpAny_pure ?_)
  refine wpAny_bind (seek M T mem hx hu (fun z => wpAny_pure (q false s.heap L es ep t (Heap.SameBut.refl a s.heap) T (.inl ⟨z, rfl⟩))) fun N z free full => ?_)
  refine wpAny_bind (wpAny_setState_of ho hd T.ok ?_)
  obtain ⟨q1, q2, q3, q4, q5, _, _, _, q9⟩ := T.tab.put free full
  dsimp only
  generalize hj : way t.mask (tupleKeyHash kd k) N = j at q1 q2 q3 q4 q5 q9 ⊢
  generalize ht : t.put j = tp at q1 q3 q4 q5 q9 ⊢
  obtain ⟨t1, p⟩ := tp
  dsimp only at q1 q3 q4 q5 q9 ⊢
  subst q1
  generalize hp : SetTable.below t.place j = p at q2 q3 ⊢
  -- the rows behind it
  have pm : (L.take p ++ (x, k) :: L.drop p).Perm ((x, k) :: L) := put_perm L p (x, k)
  have ents : (SetTable.insertAt es p (tupleKeyHash kd k, Value.ref x)).toList = (L.take p ++ (x, k) :: L.drop p).map (ent kd) := by
    rw [SetTable.toList_insertAt, T.ents, List.map_append, List.map_cons, List.map_take, List.map_drop]
  rw [show (L.map (hk kd)).take p ++ tupleKeyHash kd k :: (L.map (hk kd)).drop p = (L.take p ++ (x, k) :: L.drop p).map (hk kd) by rw [List.map_append, List.map_cons, List.map_take, List.map_drop]] at q3
  generalize L.take p ++ (x, k) :: L.drop p = L1 at pm ents q3
  have len : L1.length = L.length + 1 := pm.length_eq
  have dif : (L1.map Prod.snd).Nodup := (pm.map _).nodup_iff.mpr (List.nodup_cons.mpr ⟨z, T.dif⟩)
  generalize hE : SetTable.insertAt es p (tupleKeyHash kd k, Value.ref x) = es1 at ents ⊢
  have hz1 := len_of ents
  have rest : ∀ t2 : SetTable, t2.place = t1.place → t2.dummies = t1.dummies → t2.mask = t1.mask → t2.led = t1.led → t2.fill = t1.fill →
      wpAny (model P w) A (storeSet a es1 t2) (fun _ s' => wpAny (model P w) A (if (!false && t2.tooFull) = true then (setRelay a (SetTable.grown (es.size + 1)) >>= fun _ => pure true) else pure true) Q E s') E s := by
    intro t2 g1 g2 g3 g4 g5
    have T2 := tab_like q3 g1 g2 g3
    have led : w.params.followText "set-order" = true ∨ t2.led = true := by rw [g4, q5]; exact T.led
    refine wpAny_storeSet_of ho hd ?_ (by rw [hz1, len, sizeLine_eq]; omega)
    have sb : Heap.SameBut a s.heap (s.heap.update a (Obj.putSet es1 t2)) := Heap.SameBut.update ..
    have ho1 := store_at (es' := es1) (t' := t2) ho hd
    generalize s.heap.update a (Obj.putSet es1 t2) = h1 at sb ho1 ⊢
    have fill : t2.fill = L.length + 1 := by rw [g5, q9, List.length_map]
    by_cases full2 : t2.tooFull = true
    · refine wp_if_pos (by simp [full2]) (wpAny_bind ?_)
      unfold SetTable.tooFull at full2
      rw [decide_eq_true_eq, fill, g3, q4] at full2
      have go : ∀ m, SetTable.sizeAbove (SetTable.grown (L.length + 1)) - 1 = m → MaskOk m → SetTable.sizeAbove (SetTable.grown (L.length + 1)) ≤ 128 → (L.length + 1) * 5 < m * 3 → L.length + 1 ≤ t.mask →
          wpAny (model P w) A (setRelay a (SetTable.grown (es.size + 1))) (fun _ s' => wpAny (model P w) A (pure true) Q E s') E { s with heap := h1 } := fun m m1 m2 m3 m4 m5 => by
        rw [hz]
        refine anew (s := { s with heap := h1 }) ho1 ⟨hex.1, hex.2.1, hex.2.2⟩ rfl ents T2 (by rw [len, g3, q4]; exact m5) dif led (by rw [len]; exact few) m1 m2 m3 (by rw [len]; exact m4) fun h2 L2 es2 ep2 t3 sb2 T3 pm2 => ?_
        exact wpAny_pure (q true h2 L2 es2 ep2 t3 (sb.trans sb2) T3 (.inr ⟨z, pm2.trans pm⟩))
      rcases T.tab.mok with e | e | e
      · have l4 : L.length = 4 := by omega
        refine go 31 (by rw [l4, size_20]) (.inr (.inl rfl)) (by rw [l4, size_20]; decide) (by omega) (by omega)
      · have l4 : L.length = 18 := by omega
        refine go 127 (by rw [l4, size_76]) (.inr (.inr rfl)) (by rw [l4, size_76]; decide) (by omega) (by omega)
      · omega
    · refine wp_if_neg (by simp [full2]) (wpAny_pure (q true h1 L1 es1 (ep + 1) t2 sb ⟨⟨_, ho1, ⟨hex.1, hex.2.1, hex.2.2⟩, rfl⟩, ents, T2, dif, led, ?_, by rw [len]; exact few⟩ (.inr ⟨z, pm⟩)))
      unfold SetTable.tooFull at full2
      rw [decide_eq_true_eq, fill] at full2
      rw [len]; omega
  by_cases pl : t1.plain = true
  · refine wp_if_pos pl (wpAny_bind (some_val M hx fun c => wpAny_bind ?_))
    cases c
    · exact rest _ rfl rfl rfl rfl rfl
    · exact rest t1 rfl rfl rfl rfl rfl
  · refine wp_if_neg pl ?_
    first
      | exact wpAny_bind (wpAny_pure (wpAny_bind (rest t1 rfl rfl rfl rfl rfl)))
      | exact wpAny_bind (rest t1 rfl rfl rfl rfl rfl)
end
end Tq

/-! The set of the items of a list, all of them such tuples. -/
namespace Tq
open PySem PySem.Spec PyProof.Rows L2
section
variable {P : Program} {w : World} {κ : Type} [DecidableEq κ] {kd : KeyKind P w κ} {A : Around} {E : Value → Shared → Prop} {s : Shared}
/-- what the set holds behind so many items -/
structure Held (ks : List (Row κ)) (i : Nat) (L : List (Row κ)) : Prop where
  of : ∀ r ∈ L, r ∈ ks
  to : ∀ r ∈ ks.take i, r.2 ∈ L.map Prod.snd
  le : L.length ≤ i
theorem Held.next {ks L L' : List (Row κ)} {i : Nat} {r : Row κ} (h : Held ks i L) (e : ks[i]? = some r) (c : (r.2 ∈ L.map Prod.snd ∧ L' = L) ∨ (r.2 ∉ L.map Prod.snd ∧ L'.Perm ((r.1, r.2) :: L))) : Held ks (i + 1) L' := by
  have tk : ks.take (i + 1) = ks.take i ++ [r] := by rw [List.take_add_one, e]; rfl
  have step : (∀ q ∈ L', q ∈ ks) ∧ (∀ k, k = r.2 ∨ k ∈ L.map Prod.snd → k ∈ L'.map Prod.snd) ∧ L'.length ≤ i + 1 := by
    rcases c with ⟨c, rfl⟩ | ⟨_, pm⟩
    · exact ⟨h.of, fun k z => z.elim (fun z => z ▸ c) id, Nat.le_succ_of_le h.le⟩
    · refine ⟨fun q hq => ?_, fun k z => ?_, ?_⟩
      · rcases List.mem_cons.mp (pm.mem_iff.mp hq) with z | z
        · exact z ▸ List.mem_of_getElem? e
        · exact h.of q z
      · rw [(pm.map Prod.snd).mem_iff]
        exact List.mem_cons.mpr z
      · rw [pm.length_eq]; exact Nat.succ_le_succ h.le
  refine ⟨step.1, fun q hq => ?_, step.2.2⟩
  rw [tk] at hq
  rcases List.mem_append.mp hq with z | z
  · exact step.2.1 _ (.inr (h.to q z))
  · exact step.2.1 _ (.inl (by rw [List.mem_singleton.mp z]))
abbrev newSet (w : World) : Obj := { cls := .type "set", dict := none, data := .set #[] 0 (.fresh 0 0 (!w.params.followText "set-order")) }
theorem lies_new {h : Heap} {a : Addr} (ho : h.get? a = some (newSet w)) : Lies kd h a [] #[] 0 (.fresh 0 0 (!w.params.followText "set-order")) where
  obj := ⟨_, ho, ⟨rfl, rfl, rfl⟩, rfl⟩
  ents := rfl
  tab := ⟨.nil, rfl, rfl, .inl rfl, fun _ z => (by cases z), fun i h j z => (by simp at z)⟩
  dif := .nil
  led := by
    show _ ∨ (!w.params.followText "set-order") = true
    cases w.params.followText "set-order" <;> simp
  wide := by show 0 * 5 < 7 * 3; decide
  few := by show 0 < 64; decide
theorem Lies.on {h h' : Heap} {a : Addr} {L : List (Row κ)} {es ep t} (T : Lies kd h a L es ep t) (k : ∀ o, h.get? a = some o → h'.get? a = some o) : Lies kd h' a L es ep t :=
  let ⟨o, ho, r⟩ := T.obj; ⟨⟨o, k o ho, r⟩, T.ents, T.tab, T.dif, T.led, T.wide, T.few⟩
/-- the turns that put all items in -/
theorem all_in (M : Mild kd) {I : Addr} {fp wr : List Addr} {G : Array GenState → Array GenState → Prop} {n : Nat} {Pv : Nat → Value → Prop} {St : Nat → Shared → Prop} {R : Result → Shared → Prop} (W : WalksS P w A.in1 I fp wr G n Pv St)
    (S : Addr) (out : S ∉ fp) (ks : List (Row κ)) (hn : n = ks.length) (few : ks.length < 64) (val : ∀ i v, Pv i v → ∃ r, ks[i]? = some r ∧ v = .ref r.1) (h0 : Heap) (mem : Are kd h0 ks) (S0 : h0.get? S = none) (w0 : ∀ b ∈ wr, h0.get? b = none)
    (hu : A.in1.units < cLine) (g0 : Array GenState) (d0) (o0)
    (fin : ∀ s' L es ep t, Lies kd s'.heap S L es ep t → Held ks n L → (∀ b o, h0.get? b = some o → s'.heap.get? b = some o) → G g0 s'.gens → s'.drawn = d0 → s'.os = o0 → R (.ok (.ret .none)) s') (k : Nat) :
    ∀ (i : Nat) (s : Shared), n - i = k → i ≤ n → St i s → (∀ b o, h0.get? b = some o → s.heap.get? b = some o) → (∃ L es ep t, Lies kd s.heap S L es ep t ∧ Held ks i L) → G g0 s.gens → s.drawn = d0 → s.os = o0 →
      codeAny (model P w) A (.builtin "set.update.loop" ⟨[.ref S, .ref I], []⟩) R s := by
  have Sw : S ∉ wr := fun z => out (W.sub _ z)
  induction k with
  | zero =>
    intro i s hk hi st keep ⟨L, es, ep, t, T, H⟩ eg ed eo
    obtain rfl : i = n := by omega
    refine codeAny_builtin F.entry_set_update_loop ?_
    rw [Around.under_plainId F.plain_set_update_loop _]
    show wpAny _ A.in1 (pyNext (.ref I) >>= _) _ _ s
    refine wpAny_bind (W.done s _ _ st fun s' mv => ?_)
    show wpAny _ A.in1 (ret Value.none) _ _ s'
    refine wpAny_pure (fin s' L es ep t (T.on fun o e => mv.heap S o Sw e) H (fun b o e => mv.heap b o (fun z => ?_) (keep b o e)) (W.gtrans _ _ _ eg mv.gens) (mv.drawn.trans ed) (mv.os.trans eo))
    exact nomatch (w0 b z).symm.trans e
  | succ k ih =>
    intro i s hk hi st keep ⟨L, es, ep, t, T, H⟩ eg ed eo
    refine codeAny_builtin F.entry_set_update_loop ?_
    rw [Around.under_plainId F.plain_set_update_loop _]
    show wpAny _ A.in1 (pyNext (.ref I) >>= _) _ _ s
    refine wpAny_bind (W.item i s _ _ (by omega) st fun v s' hv st' mv => ?_)
    obtain ⟨r, hr, rfl⟩ := val i v hv
    have keep' : ∀ b o, h0.get? b = some o → s'.heap.get? b = some o := fun b o e => mv.heap b o (fun z => nomatch (w0 b z).symm.trans e) (keep b o e)
    have now : ∀ q : Row κ, q ∈ ks → IsTupleKey kd s'.heap q.2 q.1 := fun q hq => same_at (mem q hq) (keep' q.1)
    show wpAny _ A.in1 (holding [Value.ref r.1] (setAdd S (.ref r.1)) >>= _) _ _ s'
    refine wpAny_bind (wpAny_holding ?_)
    unfold setAdd
    refine wpAny_holding (wpAny_bind (wpAny_pyHash_tuple hu (now r (List.mem_of_getElem? hr)) ?_))
    refine put_in (s := { s' with toks := s'.toks + (r.2.length + 1) }) M (T.on fun o e => mv.heap S o Sw e) (fun q hq => now q (H.of q hq)) (now r (List.mem_of_getElem? hr)) hu (by have := H.le; omega) fun b h' L' es' ep' t' sb T' c => ?_
    refine wpAny_pure ⟨plainId_quiet F.plain_set_update_loop _, ih (i + 1) _ (by omega) (by omega) (W.frame _ s' _ _ st' (Nat.le_add_right _ _) fun b hb o e => ?_) (fun b o e => ?_) ⟨L', es', ep', t', T', H.next hr c⟩ (W.gtrans _ _ _ eg mv.gens) (mv.drawn.trans ed) (mv.os.trans eo)⟩
    · exact (sb.2 b fun z => out (z ▸ hb)).trans e
    · exact (sb.2 b fun z => by rw [z, S0] at e; cases e).trans (keep' b o e)
/-- set(l), l a list of such tuples -/
theorem call_set (M : Mild kd) {l : Addr} {items : Array Value} (ks : List (Row κ)) {Q : Value → Shared → Prop} (hh : A.handled = none) (hl : s.heap.IsList l items) (hi : items.toList = ks.map fun r => Value.ref r.1) (mem : Are kd s.heap ks)
    (few : ks.length < 64) (hu : A.units + 3 < cLine)
    (q : ∀ (h' : Heap) (tk : Nat) L es ep t, Lies kd h' s.heap.objs.size L es ep t → Held ks ks.length L → (∀ b o, s.heap.get? b = some o → h'.get? b = some o) → Q (.ref s.heap.objs.size) { s with heap := h', toks := tk }) :
    wpAny (model P w) A (call (.type "set") [.ref l]) Q E s := by
  have hn : items.size = ks.length := by rw [← Array.length_toList, hi, List.length_map]
  generalize hS : s.heap.objs.size = S at q ⊢
  have free : ∀ b, S ≤ b → s.heap.get? b = none := fun b hb => Heap.get?_none_of_le (hS ▸ hb)
  have lS : l < S := by obtain ⟨o, ho, _⟩ := hl; exact hS ▸ Heap.lt_size ho
  obtain ⟨c, tl, mro⟩ := F.called_set.mro
  have f1 := F.called_set.made
  have f2 := F.called_set.sub
  have f3 := F.called_set.notType
  have f4 := F.called_set.canCreate
  have f5 := F.typeCall_set_1 (.ref l)
  refine wpAny_call (codeAny_of_tree ?_)
  show wpAny _ _ (callAny (.type "set") _) _ _ _
  refine wpAny_pure ⟨Code.quiet_builtin _ (by decide +kernel), codeAny_builtin F.entry_type_call ?_⟩
  rw [Around.under_plain (weight_type_call_type "set" [.ref l] []) rfl]
  repeat (any_goals (first | assumption | wp_step))
  refine codeAny_mono (code_set_led1 (.ref l) (E := E) (Q₁ := fun obj s₁ => obj = .ref S ∧ s₁ = { s with heap := s.heap.push (newSet w) }) ⟨by rw [hS], rfl⟩) fun r s₁ hr => ?_
  match r, hr with
  | .error e, hr => exact hr
  | .ok (.ret obj), hr =>
    obtain ⟨rfl, rfl⟩ := hr
    have at0 : (s.heap.push (newSet w)).get? S = some (newSet w) := hS ▸ Heap.get?_push_size _ rfl
    have ty : Shared.TypeIs { s with heap := s.heap.push (newSet w) } (.ref S) "set" := ⟨_, at0, rfl⟩
    have g1 := F.called_set.init.lookup
    have g2 := F.called_set.init.bind (.ref S)
    repeat (any_goals (first | assumption | wp_step))
    refine codeAny_mono (codeAny_call_builtin (R := wants (fun r s₂ => r = .none ∧ ∃ h' tk L es ep t, s₂ = { s with heap := h', toks := tk } ∧ Lies kd h' S L es ep t ∧ Held ks ks.length L ∧ (∀ b o, s.heap.get? b = some o → h'.get? b = some o)) E)
      F.called_set.init.plain F.entry_set_init (check_set_init_1 ty ?_)) fun r₂ s₂ hr₂ => ?_
    · obtain ⟨ol, hol, hcl, nl, hdl⟩ := hl
      obtain ⟨cl, di, da, sl⟩ := ol
      simp only at hcl hdl
      subst hcl hdl
      have ol1 : (s.heap.push (newSet w)).get? l = some { cls := .type "list", dict := di, data := .seq items nl, slots := sl } := Heap.get?_push_of_some _ hol
      have l1 : (s.heap.push (newSet w)).IsList l items := ⟨_, ol1, rfl, nl, rfl⟩
      have b1 := F.sub_list_set
      have b2 := F.sub_list_frozenset
      have b3 : (Value.type "list" == Value.type "dict") = false := by decide
      unfold Builtin.«set.__init__» noKeywords Builtin.Frozenset.updateFrom
      generalize hPI : pyIter = PI
      wp_walk
      subst hPI
      refine wpAny_pyIter_list l1 (wpAny_bind (wpAny_runValue ?_))
      have sz : (s.heap.push (newSet w)).objs.size = S + 1 := by rw [size_push', hS]
      have vals : ∀ (i : Nat) (v : Value), items[i]? = some v → ∃ r, ks[i]? = some r ∧ v = .ref r.1 := fun i v e => by
        have e2 : (ks.map fun r => Value.ref r.1)[i]? = some v := by rw [← hi, Array.getElem?_toList]; exact e
        rw [List.getElem?_map] at e2
        cases h : ks[i]? with
        | none => rw [h] at e2; cases e2
        | some r => rw [h] at e2; exact ⟨r, rfl, (Option.some.inj e2).symm⟩
      refine all_in M ((Walks.list (A := A.in1.in1.in1) (by simp [hh]) (s.heap.push (newSet w)).objs.size l (by rw [sz]; exact Nat.ne_of_lt (Nat.lt_succ_of_lt lS)) items).toS) S
        (by rw [sz]; simp; exact Nat.ne_of_gt lS) ks hn few vals s.heap mem (free S (Nat.le_refl _)) (fun b hb => free b (by rw [List.mem_singleton.mp hb, sz]; exact Nat.le_succ _)) hu s.gens s.drawn s.os ?fin
        (items.size - 0) 0 _ rfl (Nat.zero_le _) ⟨⟨_, Heap.get?_push_size _ rfl, rfl, rfl⟩, l1.push _⟩ (fun b o e => Heap.get?_push_of_some _ (Heap.get?_push_of_some _ e))
        ⟨[], #[], 0, _, lies_new (Heap.get?_push_of_some _ at0), ⟨fun r z => (by cases z), fun r z => (by simp at z), Nat.le_refl _⟩⟩ rfl rfl rfl
      case fin =>
        intro s' L es ep t T H keep eg ed eo
        obtain ⟨h', g, d, tk, os⟩ := s'
        simp only at eg ed eo
        subst eg ed eo
        refine wpAny_pure ?_
        show wpAny _ _ (ret Value.none) _ _ _
        exact wpAny_pure ⟨rfl, h', tk, L, es, ep, t, rfl, T, hn ▸ H, keep⟩
    · match r₂, hr₂ with
      | .error e, hr₂ => exact hr₂
      | .ok (.ret r), hr₂ =>
        obtain ⟨rfl, h', tk, L, es, ep, t, rfl, T, H, keep⟩ := hr₂
        repeat (any_goals (first | assumption | wp_step))
        exact q _ _ _ _ _ _ T H keep
end
end Tq

/-! Tuples of texts in their order; sorted(a set of them). -/
namespace Tq
open PySem PySem.Spec PyProof.Rows L2
/-- the signs of texts -/
abbrev sg1 (x : Str) : List Nat := x.cps.toList
def sg (ks : List Str) : List (List Nat) := ks.map sg1
theorem sg1_inj {x y : Str} (e : sg1 x = sg1 y) : x = y := by
  obtain ⟨a⟩ := x; obtain ⟨b⟩ := y
  exact congrArg Str.mk (Array.toList_inj.mp e)
theorem sg_inj : ∀ {a b : List Str}, sg a = sg b → a = b
  | [], [], _ => rfl
  | [], _ :: _, e => nomatch e
  | _ :: _, [], e => nomatch e
  | x :: a, y :: b, e => by
    injection e with e1 e2
    rw [sg1_inj e1, sg_inj e2]
/-- the order of tuples of texts -/
def tlt (a b : List Str) : Bool := decide (sg a < sg b)
theorem tlt_irr (a : List Str) : tlt a a = false := decide_eq_false (List.lt_irrefl _)
theorem tlt_tr {a b c : List Str} (h : tlt a b = true) (k : tlt b c = true) : tlt a c = true :=
  decide_eq_true (List.lt_trans (of_decide_eq_true h) (of_decide_eq_true k))
theorem tlt_eq {a b : List Str} (h : tlt a b = false) (k : tlt b a = false) : a = b :=
  sg_inj (List.le_antisymm (List.not_lt.mp (of_decide_eq_false k)) (List.not_lt.mp (of_decide_eq_false h)))
theorem tlt_asym {a b : List Str} (h : tlt a b = true) : tlt b a = false := by
  cases e : tlt b a
  · rfl
  · have := tlt_tr h e; rw [tlt_irr] at this; cases this
theorem swo_t (k : Value → List Str) : SrtO.Swo fun v u => tlt (k v) (k u) := by
  refine ⟨fun x y h => tlt_asym h, fun x y z h1 h2 => ?_⟩
  cases e : tlt (k z) (k x)
  · rfl
  · by_cases q : k x = k y
    · rw [q, h2] at e; cases e
    · cases e2 : tlt (k x) (k y)
      · exact absurd (tlt_eq e2 h1) q
      · have := tlt_tr e e2; rw [h2] at this; cases this
section
variable {P : Program} {w : World} {A : Around} {E : Value → Shared → Prop} {s : Shared}
abbrev sk (P : Program) (w : World) : PySem.KeyKind P w Str := PySem.strKind P w
abbrev IsX (P : Program) (w : World) (h : Heap) (ks : List Str) (a : Addr) : Prop := IsTupleKey (sk P w) h ks a
/-- one text is below another -/
theorem below (b : Bool) {x y : Str} {t u : Tok} {Q : Bool → Shared → Prop} (q : Q (decide (sg1 x < sg1 y)) s) : wpAny (model P w) A (oneLt' b (.str x t) (.str y u)) Q E s := by
  cases b with
  | true => exact oneLt_str q
  | false => exact PySem.W.kat_one _ _ (PyProof.Rows.lt_str (Q := PySem.W.BoolBack Q) q)
theorem lex {b : Bool} {xs ys : List Value} {ns ms : List Str} {Q : Bool → Shared → Prop} (i : Nat) (hx : ItemsAre (sk P w) ns xs) (hy : ItemsAre (sk P w) ms ys) (q : Q (tlt ns ms) s) :
    PySem.W.KatLex P w A b (decide (xs.length < ys.length)) Q (xs.zip ys) i s := by
  induction hx generalizing ys ms i with
  | nil =>
    cases hy with
    | nil => exact PySem.W.kat_nil q
    | cons _ _ => exact PySem.W.kat_nil q
  | @cons x v ns xs h1 _ ih =>
    cases hy with
    | nil => exact PySem.W.kat_nil q
    | @cons y u ms ys h2 hy =>
      obtain ⟨t, rfl⟩ := Value.isStrOf_shape h1
      obtain ⟨t', rfl⟩ := Value.isStrOf_shape h2
      refine PySem.W.kat_cons (wpAny_eqBool_str ?_)
      by_cases e : x = y
      · subst e
        rw [decide_eq_true rfl]
        refine PySem.W.kat_yes ?_
        have d : tlt (x :: ns) (x :: ms) = tlt ns ms := decide_eq_decide.mpr ⟨fun z => (List.cons_lt_cons_iff.mp z).elim (fun z => absurd z (List.lt_irrefl _)) (·.2), fun z => List.cons_lt_cons_iff.mpr (.inr ⟨rfl, z⟩)⟩
        rw [d] at q
        have d2 : decide ((Value.str x t :: xs).length < (Value.str x t' :: ys).length) = decide (xs.length < ys.length) := by simp
        rw [d2]
        exact ih (i + 1) hy q
      · rw [decide_eq_false e]
        refine PySem.W.kat_no (below _ ?_)
        have d : tlt (x :: ns) (y :: ms) = decide (sg1 x < sg1 y) := decide_eq_decide.mpr ⟨fun z => (List.cons_lt_cons_iff.mp z).elim id (fun z => absurd (sg1_inj z.1) e), fun z => List.cons_lt_cons_iff.mpr (.inl z)⟩
        rw [d] at q
        exact q
/-- what stands in a list that is to be sorted -/
def AllX (P : Program) (w : World) (h : Heap) (vs : List Value) (k : Value → List Str) : Prop := ∀ v ∈ vs, k v ≠ [] ∧ ∃ a, v = .ref a ∧ IsX P w h (k v) a
theorem heads {h : Heap} {k : Value → List Str} : ∀ vs : List Value, AllX P w h vs k → ∃ fs, PySem.W.KatTups h vs fs ∧ fs.length = vs.length ∧ ∀ f ∈ fs, ∃ x t, f = Value.str x t
  | [], _ => ⟨[], PySem.W.KatTups.nil, rfl, fun _ z => nomatch z⟩
  | v :: vs, al => by
    obtain ⟨fs, r, hl, hf⟩ := heads vs fun u hu => al u (.tail _ hu)
    obtain ⟨ne, a, rfl, o, xs, n, ho, hc, hd, hi⟩ := al v List.mem_cons_self
    generalize hz : k (.ref a) = ks at hi ne
    generalize e : xs.toList = l at hi
    cases hi with
    | nil => exact absurd rfl ne
    | @cons x f _ _ h1 _ =>
      obtain ⟨t, rfl⟩ := Value.isStrOf_shape h1
      refine ⟨_ :: fs, PySem.W.KatTups.cons ho hc hd (f := .str x t) ?_ r, by simp [hl], fun g hg => ?_⟩
      · rw [← Array.getElem?_toList, e]; rfl
      · exact (List.mem_cons.mp hg).elim (fun z => ⟨x, t, z⟩) (hf g)
theorem sortable {a : Addr} {vs : List Value} {k : Value → List Str} (h0 : 0 < vs.length) (al : AllX P w s.heap vs k) (ha : ∀ o, s.heap.get? a = some o → o.cls ≠ .type "tuple") : SrtO.SortableO P w A s a vs fun v u => tlt (k v) (k u) := by
  intro h' keep
  have al' : AllX P w h' vs k := fun v hv => by
    obtain ⟨ne, b, e, x⟩ := al v hv
    obtain ⟨o, xs, n, ho, hc, r⟩ := x
    exact ⟨ne, b, e, o, xs, n, keep b o (fun z => ha o (z ▸ ho) hc) ho, hc, r⟩
  obtain ⟨fs, f1, f2, f3⟩ := heads vs al'
  refine ⟨tuples' true, fun Q E q => PySem.W.kat_kind (T := .type "str") f1 (by omega) (fun f hf => ?_) rfl ?_, fun p q hp hq => ?_⟩
  · obtain ⟨x, t, rfl⟩ := f3 f hf
    exact PySem.W.Looks.now
  · rw [show (Value.type "str" != Value.type "tuple") = true by decide]; exact q
  · obtain ⟨_, a1, e1, o1, x1, n1, ho1, _, hd1, hi1⟩ := al' _ hp
    obtain ⟨_, a2, e2, o2, x2, n2, ho2, _, hd2, hi2⟩ := al' _ hq
    show wpAny (model P w) A (keyLt' (tuples' true) p.1 q.1) (fun r s' => s' = _ ∧ r = tlt (k p.1) (k q.1)) (fun _ _ => False) _
    generalize k p.1 = k1 at hi1 ⊢
    generalize k q.1 = k2 at hi2 ⊢
    rw [e1, e2]
    refine PySem.W.kat_lt ho1 hd1 ho2 hd2 ?_
    have := lex (P := P) (w := w) (A := A) (s := { s with heap := h' }) (b := true) (Q := fun r s' => s' = { s with heap := h' } ∧ r = tlt k1 k2) 0 hi1 hi2 ⟨rfl, rfl⟩
    simpa using this
end
end Tq

/-! sorted(a set of tuples of texts), and both rules over the abstract heap. -/
namespace Tq
open PySem PySem.Spec PyProof.Rows L2
/-- the key that stands at an address -/
def keyAt (L : List (Row Str)) : Value → List Str
  | .ref b => ((L.find? fun r => decide (r.1 = b)).map Prod.snd).getD []
  | _ => []
def adrOf : Value → Addr
  | .ref b => b
  | _ => 0
section
variable {P : Program} {w : World} {A : Around} {E : Value → Shared → Prop} {s : Shared}
theorem keyAt_of {h : Heap} {L : List (Row Str)} (mem : Are (sk P w) h L) {r : Row Str} (hr : r ∈ L) : keyAt L (.ref r.1) = r.2 := by
  show ((L.find? fun q => decide (q.1 = r.1)).map Prod.snd).getD [] = r.2
  cases e : L.find? fun q => decide (q.1 = r.1) with
  | none => exact absurd (List.find?_eq_none.mp e r hr) (by simp)
  | some q =>
    have h1 : q.1 = r.1 := of_decide_eq_true (List.find?_some (p := fun q : Row Str => decide (q.1 = r.1)) e)
    have h2 := mem q (List.mem_of_find?_eq_some e)
    rw [h1] at h2
    exact h2.inj (mem r hr)
theorem sorted_set {a : Addr} {L : List (Row Str)} {es : Array (Int × Value)} {ep : Nat} {t : SetTable} {Q : Value → Shared → Prop} (T : Lies (sk P w) s.heap a L es ep t) (mem : Are (sk P w) s.heap L) (ne : ∀ r ∈ L, r.2 ≠ []) (hh : A.handled = none)
    (q : ∀ s' p (out : Array Value) (c : Nat) (L' : List (Row Str)), (∀ b o, s.heap.get? b = some o → s'.heap.get? b = some o) → s'.gens = s.gens → s'.os = s.os → s.heap.objs.size ≤ p → s'.heap.get? p = some (seqObj "list" out c) →
      out.toList = L'.map (fun r => Value.ref r.1) → L'.Perm L → (L'.map Prod.snd).Pairwise (fun x y => tlt x y = true) → Q (.ref p) s') :
    wpAny (model P w) A (call (.builtin "sorted") [.ref a]) Q E s := by
  obtain ⟨o, ho, hex, hd⟩ := T.obj
  refine Calls.call_function_entry kind_sorted plain_sorted entry_sorted (args_sorted1 _) ?_
  unfold Builtin.«sorted»
  refine wpAny_bind (m := checkCount "sorted" 1 1 _) (wpAny_pure ?_)
  refine wpAny_bind (collect_set (A := A.in1) hh ⟨o, ho, hex.1, hd⟩ T.ok (by rw [len_of T.ents]; have := T.few; unfold scanBound; omega) T.tab.ris T.led fun s1 vs k1 hz g1 o1 pm => ?_)
  have pm : vs.Perm (L.map fun r => Value.ref r.1) := by rw [T.ents, List.map_map] at pm; exact pm
  have few : vs.length ≤ sizeLine := by rw [pm.length_eq, List.length_map, sizeLine_eq]; have := T.few; omega
  refine wpAny_bind (wpAny_newList ?_ few)
  have oL : (s1.heap.push (seqObj "list" vs.toArray 0)).get? s1.heap.objs.size = some (seqObj "list" vs.toArray 0) := Heap.get?_push_size _ rfl
  have al : AllX P w (s1.heap.push (seqObj "list" vs.toArray 0)) vs (keyAt L) := fun v hv => by
    obtain ⟨r, hr, rfl⟩ := List.mem_map.mp (pm.mem_iff.mp hv)
    rw [keyAt_of mem hr]
    exact ⟨ne r hr, _, rfl, same_at (mem r hr) fun u e => Heap.get?_push_of_some _ (k1 _ u e)⟩
  refine wpAny_bind (wpAny_holding (wpAny_call_entry slot_list_sort ⟨_, oL, rfl⟩ entry_list_sort (SrtO.list_sort_ord (s := { s1 with heap := s1.heap.push (seqObj "list" vs.toArray 0) }) (swo_t (keyAt L)) oL few
    (fun h2 => sortable (by omega) al fun u e => ?_) fun out hs hb => ⟨_, rfl, ?_⟩) (args_list_sort _)))
  · rw [oL] at e
    cases e
    exact fun c => absurd (Value.type.inj c) (by decide)
  · obtain ⟨c, hc⟩ := sortedHeap_at (vs := vs) (out := out.toArray) oL
    have po := hb.perm.trans pm
    have back : ∀ r ∈ L, (adrOf (Value.ref r.1), keyAt L (.ref r.1)) = r := fun r hr => by rw [keyAt_of mem hr]; rfl
    have pL : (out.map fun v => (adrOf v, keyAt L v)).Perm L := by
      have := po.map fun v => (adrOf v, keyAt L v)
      rw [List.map_map] at this
      rwa [show L.map ((fun v => (adrOf v, keyAt L v)) ∘ fun r => Value.ref r.1) = L by
        conv => rhs; rw [← List.map_id L]
        exact List.map_congr_left back] at this
    refine wpAny_pure ⟨_, rfl, q _ _ out.toArray c (out.map fun v => (adrOf v, keyAt L v)) (fun b u e => ?_) g1 o1 hz hc ?_ pL ?_⟩
    · have e1 := k1 b u e
      have lt := Heap.lt_size e1
      show (sortedHeap (s1.heap.push (seqObj "list" vs.toArray 0)) s1.heap.objs.size vs out.toArray).get? b = some u
      rw [sortedHeap_old (Nat.ne_of_lt lt) (by rw [size_push']; exact Nat.lt_succ_of_lt lt)]
      exact Heap.get?_push_of_some _ e1
    · rw [List.map_map]
      show out = _
      conv => lhs; rw [← List.map_id out]
      refine List.map_congr_left fun v hv => ?_
      obtain ⟨r, hr, rfl⟩ := List.mem_map.mp (po.mem_iff.mp hv)
      rfl
    · have nd : ((out.map fun v => (adrOf v, keyAt L v)).map Prod.snd).Nodup := (pL.map _).nodup_iff.mpr T.dif
      rw [List.map_map] at nd ⊢
      rw [List.nodup_iff_pairwise_ne, List.pairwise_map] at nd
      rw [List.pairwise_map]
      refine (List.pairwise_and_iff.mpr ⟨hs, nd⟩).imp fun {x y} z => ?_
      cases e : tlt (keyAt L x) (keyAt L y)
      · exact absurd (tlt_eq e z.1) z.2
      · exact e
end
/-! ### over the abstract heap -/
def SetX (P : Program) (w : World) (a : Addr) (L : List (Row Str)) : HO := .ext fun h => ∃ es ep t, Lies (sk P w) h a L es ep t
theorem setX_new {P : Program} {w : World} {H : Hp} {h : Heap} {a : Addr} {L : List (Row Str)} (R : ∃ es ep t, Lies (sk P w) h a L es ep t) : ObjOk P w H h a (SetX P w a L) := by
  have ⟨es, ep, t, T⟩ := R
  have ⟨o, ho, _⟩ := T.obj
  exact ⟨R, ⟨o, ho⟩, fun h1 h2 ⟨es, ep, t, T⟩ k => ⟨es, ep, t, T.on k⟩⟩
theorem items_strs {P : Program} {w : World} : ∀ {k : List Str} {us : List Value}, Vals (k.map V.str) us → ItemsAre (sk P w) k us
  | [], _, .nil => .nil
  | x :: k, _, .cons r t => by
    obtain ⟨u, rfl⟩ := r
    exact .cons (beq_self_eq_true x) (items_strs t)
theorem refs_of {κ : Type} : ∀ {ks : List (Row κ)} {us : List Value}, Vals (ks.map fun r => V.ref r.1) us → us = ks.map fun r => Value.ref r.1
  | [], _, .nil => rfl
  | r :: ks, _, .cons e t => by cases e; rw [refs_of t]; rfl
theorem of_refs {κ : Type} : ∀ ks : List (Row κ), Vals (ks.map fun r => V.ref r.1) (ks.map fun r => Value.ref r.1)
  | [] => .nil
  | _ :: ks => .cons rfl (of_refs ks)
section
variable {X : Cx}
theorem isX_of {pins : List (Addr × Obj)} {σ : L2.St} {H : Hp} {s : Shared} {b : Addr} {k : List Str} (I : Inv X pins σ H s) (h : SqT X.K H b (k.map V.str)) : IsX X.prog X.w s.heap k b := by
  obtain ⟨its, r, ⟨o, ho, hc, n, hd⟩, _⟩ := I.tuple h
  exact ⟨o, its.toArray, n, ho, hc, hd, by simpa using items_strs r⟩
/-- these are tuples of these texts -/
abbrev TupsX (K : PySem.W.Frag) (H : Hp) (ks : List (Row Str)) : Prop := ∀ r ∈ ks, SqT K H r.1 (r.2.map V.str)
/-- set(l) -/
def rSetX (K : PySem.W.Frag) (P : Program) (w : World) : List V → Hp → VK → Prop := fun xs H Q => ∃ (l : Addr) (ks : List (Row Str)), xs = [V.ref l] ∧ SqL K H l (ks.map fun r => V.ref r.1) ∧ TupsX K H ks ∧ ks.length < 64 ∧
  ∀ a L, H a = none → (∀ r ∈ L, r ∈ ks) → (∀ r ∈ ks, r.2 ∈ L.map Prod.snd) → Q (.ref a) (upd H a (SetX P w a L))
theorem cr_setX (hc : X.calm = true) (hu : X.A.units + 64 < cLine) : CallR X (.type "set") (rSetX X.K X.prog X.w) := by
  intro pins s σ H xs us Q I r h
  obtain ⟨l, ks, rfl, hl, hk, few, q⟩ := h
  rw [Vals.ref1 r]
  obtain ⟨its, rv, pl, _⟩ := I.list hl
  refine call_set (P := X.prog) (w := X.w) (mild_str _ _) ks (I.ok.hd hc) pl.isList (by simpa using refs_of rv) (fun r hr => isX_of I (hk r hr)) few (by omega) fun h' tk L es ep t T Hd keep => ?_
  refine ⟨.ref s.heap.objs.size, upd H s.heap.objs.size (SetX X.prog X.w s.heap.objs.size L), I.laid (t' := tk) keep (Nat.le_refl _) (setX_new ⟨es, ep, t, T⟩), rfl, q _ L (I.hok.fresh (Nat.le_refl _)) Hd.of fun r hr => Hd.to r ?_⟩
  rw [List.take_length]; exact hr
/-- sorted(a set) -/
def rSortX (K : PySem.W.Frag) (P : Program) (w : World) : List V → Hp → VK → Prop := fun vs H Q => ∃ (a : Addr) (L : List (Row Str)), vs = [V.ref a] ∧ H a = some (SetX P w a L) ∧ TupsX K H L ∧ (∀ r ∈ L, r.2 ≠ []) ∧
  ∀ (L' : List (Row Str)) (p : Addr), L'.Perm L → L'.length < 64 → (L'.map Prod.snd).Pairwise (fun x y => tlt x y = true) → H p = none → Q (.ref p) (upd H p (.lst (L'.map fun r => V.ref r.1)))
theorem cr_sortX (hc : X.calm = true) : CallR X (.builtin "sorted") (rSortX X.K X.prog X.w) := by
  intro pins s σ H vs us Q I r h
  obtain ⟨a, L, rfl, ha, hk, ne, q⟩ := h
  obtain ⟨es, ep, t, T⟩ : ∃ es ep t, Lies (sk X.prog X.w) s.heap a L es ep t := (I.hok a _ ha).1
  rw [Vals.ref1 r]
  refine sorted_set T (fun r hr => isX_of I (hk r hr)) ne (I.ok.hd hc) fun s' p out c L' keep g o hp hg eo pm pw => ?_
  have few : L'.length < 64 := by rw [pm.length_eq]; exact T.few
  have hn : H p = none := I.hok.fresh hp
  have J : Inv X pins σ (upd H p (.lst (L'.map fun r => V.ref r.1))) { s with heap := s'.heap, gens := s'.gens, drawn := s'.drawn, toks := s'.toks } :=
    I.call (ch := []) (Un.laid keep hp hn) (I.hok.laid keep hp ⟨by rw [List.length_map, sizeLine_eq]; omega, out.toList, c, by rw [eo]; exact of_refs L', hg⟩) (by rw [g]; exact I.bare) (fun _ z => nomatch z)
  obtain ⟨h1, g1, d1, t1, o1⟩ := s'
  simp only at o
  subst o
  exact ⟨.ref p, _, J, rfl, q L' p pm few pw hn⟩
end
end Tq

/-! Sets of texts: set(a list of texts), sorted of it. -/
namespace Tq
open PySem PySem.Spec PyProof.Rows L2
def keyS (e : Int × Value) : Str := match e.2 with | .str k _ => k | _ => Str.empty
def IsS (P : Program) (w : World) (e : Int × Value) : Prop := ∃ k u, e = ((sk P w).hash k, Value.str k u)
structure Txts (P : Program) (w : World) (h : Heap) (a : Addr) (L : List Str) (es : Array (Int × Value)) (ep : Nat) (t : SetTable) : Prop where
  obj : ∃ o, h.get? a = some o ∧ o.ExactSet ∧ o.data = .set es ep t
  each : ∀ e ∈ es.toList, IsS P w e
  keys : es.toList.map keyS = L
  dif : L.Nodup
  few : es.size < scanBound
  fit : t.fits es.size = true
  ris : Ris t.place.toList
  led : w.params.followText "set-order" = true ∨ t.led = true
section
variable {P : Program} {w : World} {A : Around} {E : Value → Shared → Prop} {s : Shared} {a : Addr} {L : List Str} {es : Array (Int × Value)} {ep : Nat} {t : SetTable}
theorem Txts.on {h h' : Heap} (T : Txts P w h a L es ep t) (k : ∀ o, h.get? a = some o → h'.get? a = some o) : Txts P w h' a L es ep t :=
  let ⟨o, ho, r⟩ := T.obj
  ⟨⟨o, k o ho, r⟩, T.each, T.keys, T.dif, T.few, T.fit, T.ris, T.led⟩
theorem Txts.len (T : Txts P w s.heap a L es ep t) : es.size = L.length := by rw [← T.keys, List.length_map, Array.length_toList]
theorem isS_is {e : Int × Value} (x : IsS P w e) (k : Str) : (sk P w).is k e.2 = true ↔ keyS e = k := by
  obtain ⟨j, u, rfl⟩ := x
  show (j == k) = true ↔ j = k
  exact beq_iff_eq
theorem each_elems {l : List (Int × Value)} (x : ∀ e ∈ l, IsS P w e) : ElemsOf (sk P w) l := fun e he => by
  obtain ⟨j, u, rfl⟩ := x e he
  exact ⟨⟨j, strKind_is _ _ _ _, rfl⟩, rfl⟩
/-- what is said of the set behind one more text -/
abbrev Onto (k : Str) (L L' : List Str) : Prop := (k ∈ L ∧ L' = L) ∨ (k ∉ L ∧ L'.Perm (k :: L))
theorem laid_tail {g : Bool → Sem Unit} (hg : ∀ (b : Bool) (s₁ : Shared) (Q' : Unit → Shared → Prop), Q' () s₁ → wpAny (model P w) A (g b) Q' E s₁) {o : Obj} (ho : s.heap.get? a = some o) (hex : o.ExactSet) (hd : o.data = .set es ep t)
    {es1 : Array (Int × Value)} {t2 : SetTable} (x : ∀ e ∈ es1.toList, IsS P w e) (nd : (es1.toList.map keyS).Nodup) (hb : es1.size < scanBound) (hf : t2.fits es1.size = true) (hr : Ris t2.place.toList) (hl : w.params.followText "set-order" = true ∨ t2.led = true)
    {was : Bool} {R : Option Bool → Shared → Prop} (q : ∀ h' L' es' ep' t', Heap.SameBut a s.heap h' → Txts P w h' a L' es' ep' t' → L'.Perm (es1.toList.map keyS) → R (some true) { s with heap := h' }) :
    wpAny (model P w) A (do
        storeSet a es1 t2
        if (!was && t2.tooFull) = true then do
            g (relayAll t2 es1 (SetTable.grown es1.size)).2.2
            storeSet a (relayAll t2 es1 (SetTable.grown es1.size)).1 (relayAll t2 es1 (SetTable.grown es1.size)).2.1
            pure (some true)
          else pure (some true)) R E s := by
  have at1 := store_at (es' := es1) (t' := t2) ho hd
  have b1 := Heap.SameBut.update s.heap a (Obj.putSet es1 t2)
  refine wpAny_bind (wpAny_storeSet_of ho hd ?_ (fits_of_scanBound hb))
  split
  · have pm := relayAll_perm t2 es1 (SetTable.grown es1.size)
    have c1 := relayAll_fits t2 es1 (SetTable.grown es1.size)
    have c2 := relayAll_ris t2 es1 (SetTable.grown es1.size)
    have c3 := relayAll_led t2 es1 (SetTable.grown es1.size)
    generalize relayAll t2 es1 (SetTable.grown es1.size) = Z at pm c1 c2 c3 ⊢
    obtain ⟨es2, t3, gv⟩ := Z
    dsimp only at pm c1 c2 c3 ⊢
    have sz : es2.size < scanBound := by rw [← Array.length_toList, pm.length_eq, Array.length_toList]; exact hb
    refine wpAny_bind (hg _ _ _ (wpAny_bind (wpAny_storeSet_of at1 rfl ?_ (fits_of_scanBound sz))))
    refine wpAny_pure (q _ (es2.toList.map keyS) es2 _ t3 (b1.trans (Heap.SameBut.update _ a _)) ⟨⟨_, store_at at1 rfl, hex, rfl⟩, fun e he => x e (pm.mem_iff.mp he), rfl, (pm.map keyS).nodup_iff.mpr nd, sz, c1, c2, hl.imp id fun z => by rw [c3]; exact z⟩ (pm.map keyS))
  · exact wpAny_pure (q _ _ es1 _ t2 b1 ⟨⟨_, at1, hex, rfl⟩, x, rfl, nd, hb, hf, hr, hl⟩ (List.Perm.refl _))
theorem txt_in {k : Str} {u : Tok} {Q : Bool → Shared → Prop} (T : Txts P w s.heap a L es ep t) (room : L.length + 1 < scanBound)
    (q : ∀ b h' L' es' ep' t', Heap.SameBut a s.heap h' → Txts P w h' a L' es' ep' t' → Onto k L L' → Q b { s with heap := h' }) : wpAny (model P w) A (setAddHashed a (.str k u) ((sk P w).hash k)) Q E s := by
  have ky : (sk P w).is k (.str k u) = true := strKind_is _ _ _ _
  have sc : (Value.str k u).scannable = true := rfl
  have el : ElemsOf (sk P w) es.toList := each_elems T.each
  obtain ⟨o, ho, hex, hd⟩ := T.obj
  unfold setAddHashed setAddHashedIn
  refine wpAny_holding (wpAny_bind (wpAny_setState_of ho hd T.fit ?_))
  dsimp only
  rw [byScan_of sc T.few el]
  simp only [↓reduceIte]
  unfold setAddByScan
  refine wpAny_bind (wpAny_bind (wpAny_rule (wpAny_bind (wpAny_setScan_of ky ho hd T.fit el ?_))))
  cases fi : List.findIdx? (fun e => (sk P w).is k e.2) es.toList with
  | some j =>
    dsimp only
    obtain ⟨hj, pj, _⟩ := List.findIdx?_eq_some_iff_getElem.mp fi
    have hk : k ∈ L := by
      rw [← T.keys, ← (isS_is (T.each _ (List.getElem_mem hj)) k).mp pj]
      exact List.mem_map_of_mem (List.getElem_mem hj)
    exact wpAny_pure (wpAny_pure (q _ s.heap L es ep t (Heap.SameBut.refl a s.heap) T (.inl ⟨hk, rfl⟩)))
  | none =>
    dsimp only
    have hk : k ∉ L := fun z => by
      rw [← T.keys] at z
      obtain ⟨e, he, ee⟩ := List.mem_map.mp z
      have c := List.findIdx?_eq_none_iff.mp fi e he
      rw [(isS_is (T.each e he) k).mpr ee] at c
      cases c
    have gw : ∀ (b : Bool) {s₁ : Shared} {Q' : Unit → Shared → Prop}, Q' () s₁ → wpAny (model P w) A (match b with | true => rule "set.scan.the-table-gave-way" | false => pure ()) Q' E s₁ :=
      fun b _ _ z => by cases b <;> first | exact wpAny_pure z | exact wpAny_rule z
    have pm := layNew_perm t es ((sk P w).hash k) (.str k u)
    have c1 := layNew_fits t es ((sk P w).hash k) (.str k u)
    have c2 := layNew_ris t es ((sk P w).hash k) (.str k u) T.ris
    have c3 := layNew_led t es ((sk P w).hash k) (.str k u)
    generalize layNew t es ((sk P w).hash k) (.str k u) = Z at pm c1 c2 c3 ⊢
    obtain ⟨es1, t1, was, gv⟩ := Z
    dsimp only at pm c1 c2 c3 ⊢
    rw [Array.toList_push] at pm
    have pc : es1.toList.Perm (((sk P w).hash k, Value.str k u) :: es.toList) := pm.trans (List.perm_append_singleton _ _)
    have pk : (es1.toList.map keyS).Perm (k :: L) := by have := pc.map keyS; rw [List.map_cons, T.keys] at this; exact this
    have x1 : ∀ e ∈ es1.toList, IsS P w e := fun e he => (List.mem_cons.mp (pc.mem_iff.mp he)).elim (fun z => ⟨k, u, z⟩) (T.each e)
    have nd : (es1.toList.map keyS).Nodup := pk.nodup_iff.mpr (List.nodup_cons.mpr ⟨hk, T.dif⟩)
    have hb : es1.size < scanBound := by
      have e := pk.length_eq
      rw [List.length_map, Array.length_toList, List.length_cons] at e
      rw [e]; exact room
    have ld : w.params.followText "set-order" = true ∨ t1.led = true := T.led.imp id fun z => by rw [c3]; exact z
    have fin : ∀ h' L' es' ep' t', Heap.SameBut a s.heap h' → Txts P w h' a L' es' ep' t' → L'.Perm (es1.toList.map keyS) → Q true { s with heap := h' } := fun h' L' es' ep' t' sb T' p => q _ h' L' es' ep' t' sb T' (.inr ⟨hk, p.trans pk⟩)
    refine wpAny_bind (gw _ ?_)
    split
    · refine wpAny_bind ?_
      rw [hashByValue_scannable 8 sc]
      refine wpAny_pure ?_
      refine laid_tail ?_ ho hex hd x1 nd hb ?_ ?_ ?_ ?_
      · intro b s₁ Q' z; cases b <;> first | exact wpAny_pure z | exact wpAny_rule z
      · first | (split <;> first | exact c1 | exact SetTable.fits_plain_off c1) | exact c1
      · first | (split <;> exact c2) | exact c2
      · first | (split <;> exact ld) | exact ld
      · intro h' L' es' ep' t' sb T' p; dsimp only; exact wpAny_pure (fin h' L' es' ep' t' sb T' p)
    · refine wpAny_bind (wpAny_pure ?_)
      simp only [↓reduceIte]
      refine laid_tail ?_ ho hex hd x1 nd hb c1 c2 ld ?_
      · intro b s₁ Q' z; cases b <;> first | exact wpAny_pure z | exact wpAny_rule z
      · intro h' L' es' ep' t' sb T' p; dsimp only; exact wpAny_pure (fin h' L' es' ep' t' sb T' p)
/-- what the set holds behind so many texts -/
structure HeldS (ks : List Str) (i : Nat) (L : List Str) : Prop where
  mem : ∀ k, k ∈ L ↔ k ∈ ks.take i
  le : L.length ≤ i
theorem HeldS.next {ks L L' : List Str} {i : Nat} {k : Str} (h : HeldS ks i L) (e : ks[i]? = some k) (c : Onto k L L') : HeldS ks (i + 1) L' := by
  have tk : ks.take (i + 1) = ks.take i ++ [k] := by rw [List.take_add_one, e]; rfl
  rcases c with ⟨c, rfl⟩ | ⟨_, pm⟩
  · refine ⟨fun j => ?_, Nat.le_succ_of_le h.le⟩
    rw [tk, List.mem_append, List.mem_singleton, ← h.mem]
    exact ⟨.inl, fun z => z.elim id fun z => z ▸ c⟩
  · refine ⟨fun j => ?_, by rw [pm.length_eq]; exact Nat.succ_le_succ h.le⟩
    rw [pm.mem_iff, List.mem_cons, tk, List.mem_append, List.mem_singleton, h.mem]
    exact Or.comm
theorem all_txt {I : Addr} {fp wr : List Addr} {G : Array GenState → Array GenState → Prop} {n : Nat} {Pv : Nat → Value → Prop} {St : Nat → Shared → Prop} {R : Result → Shared → Prop} (W : WalksS P w A.in1 I fp wr G n Pv St)
    (S : Addr) (out : S ∉ fp) (ks : List Str) (hn : n = ks.length) (few : ks.length + 1 < scanBound) (val : ∀ i v, Pv i v → ∃ k u, ks[i]? = some k ∧ v = .str k u) (h0 : Heap) (S0 : h0.get? S = none) (w0 : ∀ b ∈ wr, h0.get? b = none)
    (g0 : Array GenState) (d0) (o0)
    (fin : ∀ s' L es ep t, Txts P w s'.heap S L es ep t → HeldS ks n L → (∀ b o, h0.get? b = some o → s'.heap.get? b = some o) → G g0 s'.gens → s'.drawn = d0 → s'.os = o0 → R (.ok (.ret .none)) s') (k : Nat) :
    ∀ (i : Nat) (s : Shared), n - i = k → i ≤ n → St i s → (∀ b o, h0.get? b = some o → s.heap.get? b = some o) → (∃ L es ep t, Txts P w s.heap S L es ep t ∧ HeldS ks i L) → G g0 s.gens → s.drawn = d0 → s.os = o0 →
      codeAny (model P w) A (.builtin "set.update.loop" ⟨[.ref S, .ref I], []⟩) R s := by
  have Sw : S ∉ wr := fun z => out (W.sub _ z)
  induction k with
  | zero =>
    intro i s hk hi st keep ⟨L, es, ep, t, T, H⟩ eg ed eo
    obtain rfl : i = n := by omega
    refine codeAny_builtin F.entry_set_update_loop ?_
    rw [Around.under_plainId F.plain_set_update_loop _]
    show wpAny _ A.in1 (pyNext (.ref I) >>= _) _ _ s
    refine wpAny_bind (W.done s _ _ st fun s' mv => ?_)
    show wpAny _ A.in1 (ret Value.none) _ _ s'
    refine wpAny_pure (fin s' L es ep t (T.on fun o e => mv.heap S o Sw e) H (fun b o e => mv.heap b o (fun z => ?_) (keep b o e)) (W.gtrans _ _ _ eg mv.gens) (mv.drawn.trans ed) (mv.os.trans eo))
    exact nomatch (w0 b z).symm.trans e
  | succ k ih =>
    intro i s hk hi st keep ⟨L, es, ep, t, T, H⟩ eg ed eo
    refine codeAny_builtin F.entry_set_update_loop ?_
    rw [Around.under_plainId F.plain_set_update_loop _]
    show wpAny _ A.in1 (pyNext (.ref I) >>= _) _ _ s
    refine wpAny_bind (W.item i s _ _ (by omega) st fun v s' hv st' mv => ?_)
    obtain ⟨x, u, hx, rfl⟩ := val i v hv
    have keep' : ∀ b o, h0.get? b = some o → s'.heap.get? b = some o := fun b o e => mv.heap b o (fun z => nomatch (w0 b z).symm.trans e) (keep b o e)
    show wpAny _ A.in1 (holding [Value.str x u] (setAdd S (.str x u)) >>= _) _ _ s'
    refine wpAny_bind (wpAny_holding ?_)
    unfold setAdd
    refine wpAny_holding (wpAny_bind ((sk P w).pyHash (k := x) (strKind_is _ _ _ _) ?_))
    refine txt_in (s := { s' with toks := s'.toks + 1 }) (T.on fun o e => mv.heap S o Sw e) (by have := H.le; omega) fun b h' L' es' ep' t' sb T' c => ?_
    refine wpAny_pure ⟨plainId_quiet F.plain_set_update_loop _, ih (i + 1) _ (by omega) (by omega) (W.frame _ s' _ _ st' (Nat.le_add_right _ _) fun b hb o e => ?_) (fun b o e => ?_) ⟨L', es', ep', t', T', H.next hx c⟩ (W.gtrans _ _ _ eg mv.gens) (mv.drawn.trans ed) (mv.os.trans eo)⟩
    · exact (sb.2 b fun z => out (z ▸ hb)).trans e
    · exact (sb.2 b fun z => by rw [z, S0] at e; cases e).trans (keep' b o e)
theorem txts_new {h : Heap} {a : Addr} (ho : h.get? a = some (newSet w)) : Txts P w h a [] #[] 0 (.fresh 0 0 (!w.params.followText "set-order")) where
  obj := ⟨_, ho, ⟨rfl, rfl, rfl⟩, rfl⟩
  each := fun e he => by simp at he
  keys := rfl
  dif := .nil
  few := by decide
  fit := by rfl
  ris := .nil
  led := by
    show _ ∨ (!w.params.followText "set-order") = true
    cases w.params.followText "set-order" <;> simp
/-- set(l), l a list of texts -/
theorem call_setTxt {l : Addr} {items : Array Value} (ks : List Str) {Q : Value → Shared → Prop} (hh : A.handled = none) (hl : s.heap.IsList l items) (hi : ∀ (i : Nat) (v : Value), items[i]? = some v → ∃ k u, ks[i]? = some k ∧ v = .str k u) (hn : items.size = ks.length)
    (few : ks.length + 1 < scanBound)
    (q : ∀ (h' : Heap) (tk : Nat) L es ep t, Txts P w h' s.heap.objs.size L es ep t → HeldS ks ks.length L → (∀ b o, s.heap.get? b = some o → h'.get? b = some o) → Q (.ref s.heap.objs.size) { s with heap := h', toks := tk }) :
    wpAny (model P w) A (call (.type "set") [.ref l]) Q E s := by
  generalize hS : s.heap.objs.size = S at q ⊢
  have free : ∀ b, S ≤ b → s.heap.get? b = none := fun b hb => Heap.get?_none_of_le (hS ▸ hb)
  have lS : l < S := by obtain ⟨o, ho, _⟩ := hl; exact hS ▸ Heap.lt_size ho
  obtain ⟨c, tl, mro⟩ := F.called_set.mro
  have f1 := F.called_set.made
  have f2 := F.called_set.sub
  have f3 := F.called_set.notType
  have f4 := F.called_set.canCreate
  have f5 := F.typeCall_set_1 (.ref l)
  refine wpAny_call (codeAny_of_tree ?_)
  show wpAny _ _ (callAny (.type "set") _) _ _ _
  refine wpAny_pure ⟨Code.quiet_builtin _ (by decide +kernel), codeAny_builtin F.entry_type_call ?_⟩
  rw [Around.under_plain (weight_type_call_type "set" [.ref l] []) rfl]
  repeat (any_goals (first | assumption | wp_step))
  refine codeAny_mono (code_set_led1 (.ref l) (E := E) (Q₁ := fun obj s₁ => obj = .ref S ∧ s₁ = { s with heap := s.heap.push (newSet w) }) ⟨by rw [hS], rfl⟩) fun r s₁ hr => ?_
  match r, hr with
  | .error e, hr => exact hr
  | .ok (.ret obj), hr =>
    obtain ⟨rfl, rfl⟩ := hr
    have at0 : (s.heap.push (newSet w)).get? S = some (newSet w) := hS ▸ Heap.get?_push_size _ rfl
    have ty : Shared.TypeIs { s with heap := s.heap.push (newSet w) } (.ref S) "set" := ⟨_, at0, rfl⟩
    have g1 := F.called_set.init.lookup
    have g2 := F.called_set.init.bind (.ref S)
    repeat (any_goals (first | assumption | wp_step))
    refine codeAny_mono (codeAny_call_builtin (R := wants (fun r s₂ => r = .none ∧ ∃ h' tk L es ep t, s₂ = { s with heap := h', toks := tk } ∧ Txts P w h' S L es ep t ∧ HeldS ks ks.length L ∧ (∀ b o, s.heap.get? b = some o → h'.get? b = some o)) E)
      F.called_set.init.plain F.entry_set_init (check_set_init_1 ty ?_)) fun r₂ s₂ hr₂ => ?_
    · obtain ⟨ol, hol, hcl, nl, hdl⟩ := hl
      obtain ⟨cl, di, da, sl⟩ := ol
      simp only at hcl hdl
      subst hcl hdl
      have ol1 : (s.heap.push (newSet w)).get? l = some { cls := .type "list", dict := di, data := .seq items nl, slots := sl } := Heap.get?_push_of_some _ hol
      have l1 : (s.heap.push (newSet w)).IsList l items := ⟨_, ol1, rfl, nl, rfl⟩
      have b1 := F.sub_list_set
      have b2 := F.sub_list_frozenset
      have b3 : (Value.type "list" == Value.type "dict") = false := by decide
      unfold Builtin.«set.__init__» noKeywords Builtin.Frozenset.updateFrom
      generalize hPI : pyIter = PI
      wp_walk
      subst hPI
      refine wpAny_pyIter_list l1 (wpAny_bind (wpAny_runValue ?_))
      have sz : (s.heap.push (newSet w)).objs.size = S + 1 := by rw [size_push', hS]
      refine all_txt ((Walks.list (A := A.in1.in1.in1) (by simp [hh]) (s.heap.push (newSet w)).objs.size l (by rw [sz]; exact Nat.ne_of_lt (Nat.lt_succ_of_lt lS)) items).toS) S
        (by rw [sz]; simp; exact Nat.ne_of_gt lS) ks hn few hi s.heap (free S (Nat.le_refl _)) (fun b hb => free b (by rw [List.mem_singleton.mp hb, sz]; exact Nat.le_succ _)) s.gens s.drawn s.os ?fin
        (items.size - 0) 0 _ rfl (Nat.zero_le _) ⟨⟨_, Heap.get?_push_size _ rfl, rfl, rfl⟩, l1.push _⟩ (fun b o e => Heap.get?_push_of_some _ (Heap.get?_push_of_some _ e))
        ⟨[], #[], 0, _, txts_new (Heap.get?_push_of_some _ at0), ⟨fun k => by simp, Nat.le_refl _⟩⟩ rfl rfl rfl
      case fin =>
        intro s' L es ep t T H keep eg ed eo
        obtain ⟨h', g, d, tk, os⟩ := s'
        simp only at eg ed eo
        subst eg ed eo
        refine wpAny_pure ?_
        show wpAny _ _ (ret Value.none) _ _ _
        exact wpAny_pure ⟨rfl, h', tk, L, es, ep, t, rfl, T, hn ▸ H, keep⟩
    · match r₂, hr₂ with
      | .error e, hr₂ => exact hr₂
      | .ok (.ret r), hr₂ =>
        obtain ⟨rfl, h', tk, L, es, ep, t, rfl, T, H, keep⟩ := hr₂
        repeat (any_goals (first | assumption | wp_step))
        exact q _ _ _ _ _ _ T H keep
/-- from the order of its sort to a strict one -/
theorem rise_pair : ∀ {p : Str} {l : List Str}, risingS p l = true → (p :: l).Pairwise fun x y => ¬ sg1 y < sg1 x
  | p, [], _ => List.pairwise_singleton _ _
  | p, x :: r, h => by
    obtain ⟨h1, h2⟩ := Bool.and_eq_true_iff.mp (show (!ltCps x.cps.toList p.cps.toList && risingS x r) = true from h)
    have ih := rise_pair h2
    have h0 : ¬ sg1 x < sg1 p := by
      rw [ltCps_eq] at h1
      simpa using h1
    refine List.pairwise_cons.mpr ⟨fun y hy => ?_, ih⟩
    rcases List.mem_cons.mp hy with rfl | hy
    · exact h0
    · refine fun c => (List.pairwise_cons.mp ih).1 y hy ?_
      rcases Decidable.em (sg1 p < sg1 x) with d | d
      · exact List.lt_trans c d
      · rw [List.le_antisymm (List.not_lt.mp d) (List.not_lt.mp h0)]; exact c
theorem rise_all {l : List Str} (h : sortedS l = true) : l.Pairwise fun x y => ¬ sg1 y < sg1 x := by
  cases l with
  | nil => exact .nil
  | cons p r => exact rise_pair h
theorem rise_strict {l : List Str} (h : sortedS l = true) (nd : l.Nodup) : l.Pairwise fun x y => sg1 x < sg1 y := by
  rw [List.nodup_iff_pairwise_ne] at nd
  refine (List.pairwise_and_iff.mpr ⟨rise_all h, nd⟩).imp fun {x y} z => ?_
  rcases Decidable.em (sg1 x < sg1 y) with c | c
  · exact c
  · exact absurd (sg1_inj (List.le_antisymm (List.not_lt.mp z.1) (List.not_lt.mp c))) z.2
theorem strs_from : ∀ (l : List Value), (∀ v ∈ l, ∃ k u, v = Value.str k u) → StrsAre l (l.map fun v => keyS (0, v))
  | [], _ => .nil
  | v :: l, h => by
    obtain ⟨k, u, rfl⟩ := h v List.mem_cons_self
    exact .cons k u (strs_from l fun x hx => h x (.tail _ hx))
theorem sorted_txts {Q : Value → Shared → Prop} (T : Txts P w s.heap a L es ep t) (hh : A.handled = none) (few : L.length < 64)
    (q : ∀ s' p (out : Array Value) (c : Nat) (L' : List Str), (∀ b o, s.heap.get? b = some o → s'.heap.get? b = some o) → s'.gens = s.gens → s'.os = s.os → s.heap.objs.size ≤ p → s'.heap.get? p = some (seqObj "list" out c) →
      StrsAre out.toList L' → L'.Perm L → L'.Pairwise (fun x y => sg1 x < sg1 y) → Q (.ref p) s') :
    wpAny (model P w) A (call (.builtin "sorted") [.ref a]) Q E s := by
  obtain ⟨o, ho, hex, hd⟩ := T.obj
  refine Calls.call_function_entry kind_sorted plain_sorted entry_sorted (args_sorted1 _) ?_
  unfold Builtin.«sorted»
  refine wpAny_bind (m := checkCount "sorted" 1 1 _) (wpAny_pure ?_)
  refine wpAny_bind (collect_set (A := A.in1) hh ⟨o, ho, hex.1, hd⟩ T.fit T.few T.ris T.led fun s1 vs k1 hz g1 o1 pm => ?_)
  have vl : vs.length = L.length := by rw [pm.length_eq, List.length_map, Array.length_toList, T.len]
  have hs : StrsAre vs (vs.map fun v => keyS (0, v)) := strs_from vs fun v hv => by
    obtain ⟨e, he, rfl⟩ := List.mem_map.mp (pm.mem_iff.mp hv)
    obtain ⟨k, u, rfl⟩ := T.each e he
    exact ⟨k, u, rfl⟩
  have pk : (vs.map fun v => keyS (0, v)).Perm L := by
    have z := pm.map fun v => keyS (0, v)
    rw [List.map_map] at z
    rw [← T.keys]
    exact z
  refine wpAny_bind (wpAny_newList ?_ (by rw [vl, sizeLine_eq]; omega))
  have oL : (s1.heap.push (seqObj "list" vs.toArray 0)).get? s1.heap.objs.size = some (seqObj "list" vs.toArray 0) := Heap.get?_push_size _ rfl
  refine wpAny_bind (wpAny_holding (wpAny_call_entry slot_list_sort ⟨_, oL, rfl⟩ entry_list_sort (list_sort_treeK strKind_oneLt oL hs.keysOf (fun v₁ v₂ rest e => keyKind_strs (by rw [← e]; exact hs)) (by rw [vl]; exact few) fun st' a1 a2 => ⟨_, rfl, ?_⟩) (args_list_sort _)))
  obtain ⟨ss, b1, b2, b3⟩ := sorted_out_str hs a1 a2
  obtain ⟨c, hc⟩ := sortedHeap_at (vs := vs) (out := (arrOf st').map (·.2)) oL
  have pL := b2.trans pk
  refine wpAny_pure ⟨_, rfl, q _ _ _ c ss (fun b u e => ?_) g1 o1 hz hc b1 pL (rise_strict b3 (pL.nodup_iff.mpr T.dif))⟩
  have e1 := k1 b u e
  have lt := Heap.lt_size e1
  show (sortedHeap (s1.heap.push (seqObj "list" vs.toArray 0)) s1.heap.objs.size vs _).get? b = some u
  rw [sortedHeap_old (Nat.ne_of_lt lt) (by rw [size_push']; exact Nat.lt_succ_of_lt lt)]
  exact Heap.get?_push_of_some _ e1
end
/-! ### over the abstract heap -/
def SetT (P : Program) (w : World) (a : Addr) (L : List Str) : HO := .ext fun h => ∃ es ep t, Txts P w h a L es ep t
theorem setT_new {P : Program} {w : World} {H : Hp} {h : Heap} {a : Addr} {L : List Str} (R : ∃ es ep t, Txts P w h a L es ep t) : ObjOk P w H h a (SetT P w a L) := by
  have ⟨es, ep, t, T⟩ := R
  have ⟨o, ho, _⟩ := T.obj
  exact ⟨R, ⟨o, ho⟩, fun h1 h2 ⟨es, ep, t, T⟩ k => ⟨es, ep, t, T.on k⟩⟩
theorem vals_at : ∀ {ks : List Str} {us : List Value}, Vals (ks.map V.str) us → ∀ (i : Nat) (v : Value), us[i]? = some v → ∃ k u, ks[i]? = some k ∧ v = .str k u
  | _ :: _, _, .cons r t, 0, v, e => by obtain ⟨u, rfl⟩ := r; cases e; exact ⟨_, u, rfl, rfl⟩
  | _ :: _, _, .cons r t, i + 1, v, e => vals_at t i v e
  | [], _, .nil, i, v, e => by simp at e
theorem vals_strs : ∀ {vs : List Value} {ks : List Str}, StrsAre vs ks → Vals (ks.map V.str) vs
  | _, _, .nil => .nil
  | _, _, .cons k u t => .cons ⟨u, rfl⟩ (vals_strs t)
section
variable {X : Cx}
/-- set(l) -/
def rSetT (K : PySem.W.Frag) (P : Program) (w : World) : List V → Hp → VK → Prop := fun xs H Q => ∃ (l : Addr) (ks : List Str), xs = [V.ref l] ∧ SqL K H l (ks.map V.str) ∧ ks.length < 64 ∧
  ∀ a L, H a = none → (∀ k, k ∈ L ↔ k ∈ ks) → L.length ≤ ks.length → Q (.ref a) (upd H a (SetT P w a L))
theorem cr_setT (hc : X.calm = true) : CallR X (.type "set") (rSetT X.K X.prog X.w) := by
  intro pins s σ H xs us Q I r h
  obtain ⟨l, ks, rfl, hl, few, q⟩ := h
  rw [Vals.ref1 r]
  obtain ⟨its, rv, pl, _⟩ := I.list hl
  refine call_setTxt (P := X.prog) (w := X.w) ks (I.ok.hd hc) pl.isList (fun i v e => vals_at rv i v (by simpa using e)) (by rw [List.size_toArray, ← rv.length, List.length_map]) (by unfold scanBound; omega) fun h' tk L es ep t T Hd keep => ?_
  refine ⟨.ref s.heap.objs.size, upd H s.heap.objs.size (SetT X.prog X.w s.heap.objs.size L), I.laid (t' := tk) keep (Nat.le_refl _) (setT_new ⟨es, ep, t, T⟩), rfl, q _ L (I.hok.fresh (Nat.le_refl _)) (fun k => ?_) Hd.le⟩
  rw [Hd.mem, List.take_length]
/-- sorted(a set) -/
def rSortT (P : Program) (w : World) : List V → Hp → VK → Prop := fun vs H Q => ∃ (a : Addr) (L : List Str), vs = [V.ref a] ∧ H a = some (SetT P w a L) ∧ L.length < 64 ∧
  ∀ (L' : List Str) (p : Addr), L'.Perm L → L'.Pairwise (fun x y => sg1 x < sg1 y) → H p = none → Q (.ref p) (upd H p (.lst (L'.map V.str)))
theorem cr_sortT (hc : X.calm = true) : CallR X (.builtin "sorted") (rSortT X.prog X.w) := by
  intro pins s σ H vs us Q I r h
  obtain ⟨a, L, rfl, ha, few, q⟩ := h
  obtain ⟨es, ep, t, T⟩ : ∃ es ep t, Txts X.prog X.w s.heap a L es ep t := (I.hok a _ ha).1
  rw [Vals.ref1 r]
  refine sorted_txts T (I.ok.hd hc) few fun s' p out c L' keep g o hp hg eo pm pw => ?_
  have hn : H p = none := I.hok.fresh hp
  have J : Inv X pins σ (upd H p (.lst (L'.map V.str))) { s with heap := s'.heap, gens := s'.gens, drawn := s'.drawn, toks := s'.toks } :=
    I.call (ch := []) (Un.laid keep hp hn) (I.hok.laid keep hp ⟨by rw [List.length_map, pm.length_eq, sizeLine_eq]; omega, out.toList, c, vals_strs eo, hg⟩) (by rw [g]; exact I.bare) (fun _ z => nomatch z)
  obtain ⟨h1, g1, d1, t1, o1⟩ := s'
  simp only at o
  subst o
  exact ⟨.ref p, _, J, rfl, q L' p pm pw hn⟩
end
end Tq

/-! Lines, and what is said of them. -/
namespace Rd
open PySem PySem.Spec PyProof.Rows L2 Tq
inductive Ln where
  | go (n : Nat)
  | ift (t p : Str) (n : Nat)
  | look (t p : Str)
  | read (t p : Str)
  deriving DecidableEq
def Ln.vs : Ln → List V
  | .go n => [.str "go", .int n]
  | .ift t p n => [.str "if", .str t, .str p, .int n]
  | .look t p => [.str "look", .str t, .str p]
  | .read t p => [.str "read", .str t, .str p]
def Ln.ds : Ln → List PyData
  | .go n => [.str "go", .int n]
  | .ift t p n => [.str "if", .str t, .str p, .int n]
  | .look t p => [.str "look", .str t, .str p]
  | .read t p => [.str "read", .str t, .str p]
abbrev Ln.d (l : Ln) : PyData := .tuple l.ds
def Ln.word : Ln → Str
  | .go _ => "go"
  | .ift .. => "if"
  | .look .. => "look"
  | .read .. => "read"
/-- table and part -/
def Ln.key : Ln → List Str
  | .go _ => []
  | .ift t p _ => [t, p]
  | .look t p => [t, p]
  | .read t p => [t, p]
def nameS (s : Str) : Bool := decide (1 ≤ s.length) && decide (s.length ≤ 8) && s.cps.toList.all fun c => decide (97 ≤ c) && decide (c ≤ 122)
def nameD : PyData → Bool
  | .str s => nameS s
  | _ => false
def numD (d : PyData) (most : Int) : Bool := match d with
  | .int i => decide (0 ≤ i) && decide (i ≤ most)
  | _ => false
def lineT (ds : List PyData) (many : Int) : Bool :=
  if PyData.eqv (ds.getD 0 .none) (.str "go") = true then decide (ds.length = 2) && numD (ds.getD 1 .none) many
  else if PyData.eqv (ds.getD 0 .none) (.str "if") = true then decide (ds.length = 4) && ((((ds.drop 1).take 2).all nameD) && numD (ds.getD 3 .none) many)
  else (PyData.eqv (.str "read") (ds.getD 0 .none) || (PyData.eqv (.str "look") (ds.getD 0 .none) || false)) && (decide (ds.length = 3) && (ds.drop 1).all nameD)
def lineD (d : PyData) (many : Int) : Bool := match d with
  | .tuple ds => if ds.length < 2 then false else lineT ds many
  | _ => false
/-- a line as drawn -/
def Ln.fine (most : Nat) : Ln → Bool
  | .go n => decide (n ≤ most)
  | .ift t p n => nameS t && (nameS p && decide (n ≤ most))
  | .look t p => nameS t && nameS p
  | .read t p => nameS t && nameS p
theorem eqv_str (x y : Str) : PyData.eqv (.str x) (.str y) = decide (x = y) := by
  simp only [PyData.eqv]
  by_cases h : x = y
  · subst h; simp
  · rw [decide_eq_false h]; exact beq_eq_false_iff_ne.mpr h
theorem lineT_str (x : Str) (r : List PyData) (many : Int) : lineT (.str x :: r) many = (if x = "go" then decide (r.length = 1) && numD (r.getD 0 .none) many
    else if x = "if" then decide (r.length = 3) && (((r.take 2).all nameD) && numD (r.getD 2 .none) many) else (decide (("read" : Str) = x) || decide (("look" : Str) = x)) && (decide (r.length = 2) && r.all nameD)) := by
  unfold lineT
  simp only [List.getD_cons_zero, eqv_str, decide_eq_true_eq, List.length_cons, List.drop_succ_cons, List.drop_zero, List.getD_cons_succ, Bool.or_false, Nat.reduceEqDiff]
theorem ne1 : ¬ (("if" : Str) = "go") := by decide +kernel
theorem ne2 : ¬ (("look" : Str) = "go") := by decide +kernel
theorem ne3 : ¬ (("read" : Str) = "go") := by decide +kernel
theorem ne4 : ¬ (("look" : Str) = "if") := by decide +kernel
theorem ne5 : ¬ (("read" : Str) = "if") := by decide +kernel
theorem ne6 : ¬ (("read" : Str) = "look") := by decide +kernel
theorem fine_line {l : Ln} {most : Nat} (h : l.fine most = true) : lineD l.d most = true := by
  cases l with
  | go n =>
    have h' : n ≤ most := of_decide_eq_true h
    show lineT (.str "go" :: [.int n]) most = true
    rw [lineT_str, if_pos rfl]
    simp [numD]; omega
  | ift t p n =>
    simp only [Ln.fine, Bool.and_eq_true, decide_eq_true_eq] at h
    show lineT (.str "if" :: [.str t, .str p, .int n]) most = true
    rw [lineT_str, if_neg ne1, if_pos rfl]
    simp [numD, nameD, h.1, h.2.1]; omega
  | look t p =>
    simp only [Ln.fine, Bool.and_eq_true] at h
    show lineT (.str "look" :: [.str t, .str p]) most = true
    rw [lineT_str, if_neg ne2, if_neg ne4]
    simp [nameD, h.1, h.2]
  | read t p =>
    simp only [Ln.fine, Bool.and_eq_true] at h
    show lineT (.str "read" :: [.str t, .str p]) most = true
    rw [lineT_str, if_neg ne3, if_neg ne5]
    simp [nameD, h.1, h.2]
theorem nameS_ok {x : Str} (h : nameS x = true) : PyData.strOk x = true := by
  have h1 : (x.cps.toList.all fun c => decide (97 ≤ c) && decide (c ≤ 122)) = true := (Bool.and_eq_true_iff.mp h).2
  show x.cps.all (fun c => decide (c < 0x110000)) = true
  rw [← Array.all_toList]
  refine List.all_eq_true.mpr fun c hc => ?_
  have := List.all_eq_true.mp h1 c hc
  simp only [Bool.and_eq_true, decide_eq_true_eq] at this ⊢
  omega
def Ln.safe (l : Ln) : Prop := ∀ x ∈ l.key, PyData.strOk x = true
theorem fine_safe {l : Ln} {m : Nat} (h : l.fine m = true) : l.safe := by
  intro x hx
  cases l with
  | go n => cases hx
  | ift t p n =>
    simp only [Ln.fine, Bool.and_eq_true] at h
    rcases List.mem_cons.mp hx with rfl | hx
    · exact nameS_ok h.1
    · rw [List.mem_singleton.mp hx]; exact nameS_ok h.2.1
  | look t p =>
    simp only [Ln.fine, Bool.and_eq_true] at h
    rcases List.mem_cons.mp hx with rfl | hx
    · exact nameS_ok h.1
    · rw [List.mem_singleton.mp hx]; exact nameS_ok h.2
  | read t p =>
    simp only [Ln.fine, Bool.and_eq_true] at h
    rcases List.mem_cons.mp hx with rfl | hx
    · exact nameS_ok h.1
    · rw [List.mem_singleton.mp hx]; exact nameS_ok h.2
theorem w_ok : PyData.strOk "go" = true ∧ PyData.strOk "if" = true ∧ PyData.strOk "look" = true ∧ PyData.strOk "read" = true := ⟨by decide +kernel, by decide +kernel, by decide +kernel, by decide +kernel⟩
theorem ln_lay {l : Ln} (h : l.safe) : l.d.canLay0 = true := by
  obtain ⟨w1, w2, w3, w4⟩ := w_ok
  cases l with
  | go n => simp [Ln.d, Ln.ds, PyData.canLay0, PyData.canLayAll0, w1]
  | ift t p n => simp [Ln.d, Ln.ds, PyData.canLay0, PyData.canLayAll0, w2, h t List.mem_cons_self, h p (.tail _ List.mem_cons_self)]
  | look t p => simp [Ln.d, Ln.ds, PyData.canLay0, PyData.canLayAll0, w3, h t List.mem_cons_self, h p (.tail _ List.mem_cons_self)]
  | read t p => simp [Ln.d, Ln.ds, PyData.canLay0, PyData.canLayAll0, w4, h t List.mem_cons_self, h p (.tail _ List.mem_cons_self)]
theorem ln_depth (l : Ln) : l.d.depth ≤ 1 := by cases l <;> simp [Ln.d, Ln.ds, PyData.depth, PyData.depthAll]
theorem ln_shaped {l : Ln} (z : l.safe) : SeqAt.shaped l.d = true := by
  have h := ln_depth l
  show (l.d.canLay0 && decide (l.d.depth ≤ 64)) = true
  rw [Bool.and_eq_true]
  exact ⟨ln_lay z, decide_eq_true (by omega)⟩
theorem lns_lay : ∀ ls : List Ln, (∀ l ∈ ls, l.safe) → PyData.canLayAll0 (ls.map Ln.d) = true
  | [], _ => by simp [PyData.canLayAll0]
  | l :: ls, h => by simp only [List.map_cons, PyData.canLayAll0, ln_lay (h l List.mem_cons_self), lns_lay ls fun k hk => h k (.tail _ hk), Bool.and_true]
theorem lns_depth : ∀ ls : List Ln, PyData.depthAll (ls.map Ln.d) ≤ 1
  | [] => by simp [PyData.depthAll]
  | l :: ls => by
    have h1 := ln_depth l
    have h2 := lns_depth ls
    simp only [List.map_cons, PyData.depthAll]
    omega
abbrev dls (ls : List Ln) : PyData := .tuple (ls.map Ln.d)
theorem dls_shaped {ls : List Ln} (z : ∀ l ∈ ls, l.safe) : SeqAt.shaped (dls ls) = true := by
  have h1 := lns_depth ls
  have h2 : PyData.depth (dls ls) ≤ 64 := by simp only [PyData.depth]; omega
  show (PyData.canLay0 (dls ls) && decide (PyData.depth (dls ls) ≤ 64)) = true
  rw [Bool.and_eq_true]
  exact ⟨by simp only [PyData.canLay0]; exact lns_lay ls z, decide_eq_true h2⟩
theorem eqv_int (m n : Nat) : PyData.eqv (.int m) (.int n) = decide (m = n) := by
  simp only [PyData.eqv]
  by_cases h : m = n
  · subst h; simp
  · rw [decide_eq_false h]; exact beq_eq_false_iff_ne.mpr (by omega)
theorem all_cons (x y : PyData) (xs ys : List PyData) : PyData.eqvAll (x :: xs) (y :: ys) = (PyData.eqv x y && PyData.eqvAll xs ys) := by simp only [PyData.eqvAll]
theorem all_nil : PyData.eqvAll [] [] = true := by simp only [PyData.eqvAll]
theorem all_nc (y : PyData) (ys : List PyData) : PyData.eqvAll [] (y :: ys) = false := by simp only [PyData.eqvAll]
theorem all_cn (y : PyData) (ys : List PyData) : PyData.eqvAll (y :: ys) [] = false := by simp only [PyData.eqvAll]
theorem tup_eqv (xs ys : List PyData) : PyData.eqv (.tuple xs) (.tuple ys) = PyData.eqvAll xs ys := by simp only [PyData.eqv]
theorem ln_eqv (l k : Ln) : PyData.eqv l.d k.d = decide (l = k) := by
  have n1 : decide (("look" : Str) = "read") = false := by decide +kernel
  have n2 : decide (("read" : Str) = "look") = false := by decide +kernel
  cases l <;> cases k <;> simp only [Ln.d, Ln.ds, tup_eqv, all_cons, all_nil, all_nc, all_cn, eqv_str, eqv_int, Bool.and_true, Bool.and_false, n1, n2, Bool.false_and, reduceCtorEq, decide_false, Ln.go.injEq, Ln.ift.injEq, Ln.look.injEq, Ln.read.injEq, Bool.decide_and, decide_true, Bool.true_and]
theorem lns_eqv : ∀ ls ks : List Ln, PyData.eqvAll (ls.map Ln.d) (ks.map Ln.d) = decide (ls = ks)
  | [], [] => by simp [PyData.eqvAll]
  | [], _ :: _ => by simp [PyData.eqvAll]
  | _ :: _, [] => by simp [PyData.eqvAll]
  | l :: ls, k :: ks => by
    rw [List.map_cons, List.map_cons, all_cons, ln_eqv, lns_eqv ls ks]
    by_cases h1 : l = k <;> by_cases h2 : ls = ks <;> simp [h1, h2]
theorem dls_eqv (ls ks : List Ln) : PyData.eqv (dls ls) (dls ks) = decide (ls = ks) := by rw [tup_eqv, lns_eqv]
/-! ### what rises, without repetition, and has just these -/
structure Asc (ks ps : List (List Str)) : Prop where
  up : ps.Pairwise fun x y => tlt x y = true
  mem : ∀ k, k ∈ ps ↔ k ∈ ks
theorem asc_one : ∀ {ps qs : List (List Str)}, ps.Pairwise (fun x y => tlt x y = true) → qs.Pairwise (fun x y => tlt x y = true) → (∀ k, k ∈ ps ↔ k ∈ qs) → ps = qs
  | [], [], _, _, _ => rfl
  | [], q :: qs, _, _, h => absurd ((h q).mpr List.mem_cons_self) (List.not_mem_nil)
  | p :: ps, [], _, _, h => absurd ((h p).mp List.mem_cons_self) (List.not_mem_nil)
  | p :: ps, q :: qs, h1, h2, h => by
    obtain ⟨a1, a2⟩ := List.pairwise_cons.mp h1
    obtain ⟨b1, b2⟩ := List.pairwise_cons.mp h2
    have e : p = q := by
      rcases List.mem_cons.mp ((h p).mp List.mem_cons_self) with z | z
      · exact z
      · rcases List.mem_cons.mp ((h q).mpr List.mem_cons_self) with y | y
        · exact y.symm
        · have c := b1 p z
          have d := a1 q y
          rw [tlt_asym c] at d
          cases d
    subst e
    rw [asc_one a2 b2 fun k => ?_]
    constructor
    · intro z
      rcases List.mem_cons.mp ((h k).mp (.tail _ z)) with y | y
      · subst y; have := a1 k z; rw [tlt_irr] at this; cases this
      · exact y
    · intro z
      rcases List.mem_cons.mp ((h k).mpr (.tail _ z)) with y | y
      · subst y; have := b1 k z; rw [tlt_irr] at this; cases this
      · exact y
theorem Asc.eq {ks ps qs : List (List Str)} (a : Asc ks ps) (b : Asc ks qs) : ps = qs := asc_one a.up b.up fun k => (a.mem k).trans (b.mem k).symm
theorem up_nodup {ps : List (List Str)} (h : ps.Pairwise fun x y => tlt x y = true) : ps.Nodup := List.nodup_iff_pairwise_ne.mpr (h.imp fun {x y} z e => by subst e; rw [tlt_irr] at z; cases z)
structure AscS (ks ps : List Str) : Prop where
  up : ps.Pairwise fun x y => sg1 x < sg1 y
  mem : ∀ k, k ∈ ps ↔ k ∈ ks
theorem ascS_one : ∀ {ps qs : List Str}, ps.Pairwise (fun x y => sg1 x < sg1 y) → qs.Pairwise (fun x y => sg1 x < sg1 y) → (∀ k, k ∈ ps ↔ k ∈ qs) → ps = qs
  | [], [], _, _, _ => rfl
  | [], q :: qs, _, _, h => absurd ((h q).mpr List.mem_cons_self) (List.not_mem_nil)
  | p :: ps, [], _, _, h => absurd ((h p).mp List.mem_cons_self) (List.not_mem_nil)
  | p :: ps, q :: qs, h1, h2, h => by
    obtain ⟨a1, a2⟩ := List.pairwise_cons.mp h1
    obtain ⟨b1, b2⟩ := List.pairwise_cons.mp h2
    have e : p = q := by
      rcases List.mem_cons.mp ((h p).mp List.mem_cons_self) with z | z
      · exact z
      · rcases List.mem_cons.mp ((h q).mpr List.mem_cons_self) with y | y
        · exact y.symm
        · exact absurd (List.lt_trans (b1 p z) (a1 q y)) (List.lt_irrefl _)
    subst e
    rw [ascS_one a2 b2 fun k => ?_]
    constructor
    · intro z
      rcases List.mem_cons.mp ((h k).mp (.tail _ z)) with y | y
      · subst y; exact absurd (a1 k z) (List.lt_irrefl _)
      · exact y
    · intro z
      rcases List.mem_cons.mp ((h k).mpr (.tail _ z)) with y | y
      · subst y; exact absurd (b1 k z) (List.lt_irrefl _)
      · exact y
theorem AscS.eq {ks ps qs : List Str} (a : AscS ks ps) (b : AscS ks qs) : ps = qs := ascS_one a.up b.up fun k => (a.mem k).trans (b.mem k).symm
/-- the pairs of a reader's lines with one of these words -/
def keysOf (ws : List Str) (ls : List Ln) : List (List Str) := (ls.filter fun l => ws.contains l.word).map Ln.key
/-- pairs as data -/
def pD (k : List Str) : PyData := .tuple (k.map PyData.str)
abbrev pDs (ps : List (List Str)) : PyData := .tuple (ps.map pD)
theorem sD_lay : ∀ k : List Str, (∀ x ∈ k, PyData.strOk x = true) → PyData.canLayAll0 (k.map PyData.str) = true
  | [], _ => by simp [PyData.canLayAll0]
  | x :: k, h => by simp only [List.map_cons, PyData.canLayAll0, sD_lay k fun y hy => h y (.tail _ hy), PyData.canLay0, h x List.mem_cons_self, Bool.and_true]
theorem sD_depth : ∀ k : List Str, PyData.depthAll (k.map PyData.str) = 0
  | [] => by simp [PyData.depthAll]
  | x :: k => by simp only [List.map_cons, PyData.depthAll, sD_depth k, PyData.depth]; omega
theorem pD_lay {k : List Str} (h : ∀ x ∈ k, PyData.strOk x = true) : (pD k).canLay0 = true := by simp only [pD, PyData.canLay0]; exact sD_lay k h
theorem pD_depth (k : List Str) : (pD k).depth = 1 := by simp only [pD, PyData.depth, sD_depth]
theorem pDs_lay : ∀ ps : List (List Str), (∀ p ∈ ps, ∀ x ∈ p, PyData.strOk x = true) → PyData.canLayAll0 (ps.map pD) = true
  | [], _ => by simp [PyData.canLayAll0]
  | p :: ps, h => by simp only [List.map_cons, PyData.canLayAll0, pD_lay (h p List.mem_cons_self), pDs_lay ps fun q hq => h q (.tail _ hq), Bool.and_true]
theorem pDs_depth : ∀ ps : List (List Str), PyData.depthAll (ps.map pD) ≤ 1
  | [] => by simp [PyData.depthAll]
  | p :: ps => by
    have h1 := pD_depth p
    have h2 := pDs_depth ps
    simp only [List.map_cons, PyData.depthAll]
    omega
end Rd

namespace Dc
open PySem PySem.Spec PyProof.Rows L2
def top (i : Nat) : Stmt := PySem.Challenge.pw_asunmoved_k17_lines_put_in_and_taken_out.main.body.getD i (.Pass ⟨0, 0, 0, 0⟩)
abbrev sDice : Stmt := top 47
abbrev sRoll : Stmt := top 48
abbrev sOne : Stmt := top 49
/-- the generator of numbers stands at p -/
def DiceAt (H : Hp) (p : Addr) : Prop := ∃ a b c : Int, H p = some (.lst [.int a, .int b, .int c]) ∧ 0 ≤ a
/-- all that is tracked is kept, but for the object at p -/
def Keep (p : Addr) (H H' : Hp) : Prop := ∀ b o, b ≠ p → H b = some o → H' b = some o
theorem Keep.refl {p : Addr} {H : Hp} : Keep p H H := fun _ _ _ h => h
theorem Keep.trans {p : Addr} {H H1 H2 : Hp} (a : Keep p H H1) (b : Keep p H1 H2) : Keep p H H2 := fun c o n h => b c o n (a c o n h)
theorem keep_upd {p : Addr} {H : Hp} {o : HO} : Keep p H (upd H p o) := fun b u n h => by rw [upd_ne n]; exact h
theorem keep_new {p q : Addr} {H : Hp} {o : HO} (hq : H q = none) : Keep p H (upd H q o) := fun b u n h => by rw [upd_ne (ne_of_none h hq)]; exact h

theorem DiceAt.upd {p : Addr} {H : Hp} {a b c : Int} (h : 0 ≤ a) : DiceAt (upd H p (.lst [.int a, .int b, .int c])) p := ⟨a, b, c, upd_same, h⟩
structure TxB (K : PySem.W.Frag) (mg : Str → Option Value) : Prop where
  len : mg "len" = none
  int : mg "int" = none
  abs : mg "abs" = none
  max : mg "max" = none
  list : mg "list" = none
  range : mg "range" = none

theorem tt_yes {σ : L2.St} {H : Hp} {A B : Hp → Prop} (h : A H) : tYes σ H (fun b H3 => if b = true then A H3 else B H3) := by
  show (if true = true then A H else B H)
  rw [if_pos rfl]
  exact h
/-- x ** n with a bound by bits -/
theorem op_powB {X : Cx} : OpR X (binaryOp .Pow) (rI (fun i j => 0 ≤ j ∧ (Builtin.Int.intBits i : Int) * j ≤ 2 ^ 27) fun i j => .int (i ^ j.toNat)) :=
  opI fun _ _ _ _ _ _ _ hc q => pow_int hc.1 hc.2 q

def spDice (K : PySem.W.Frag) : Sp := fun vs H Q _ => ∃ (a : Addr) (ns : List Int) (i : Nat), vs = [.ref a, .int (i : Int)] ∧ SqL K H a (ns.map V.int) ∧ i ≤ 1000 ∧
  ∀ (p : Addr) (x y : Int), H p = none → 0 ≤ x → Q (.ref p) (upd H p (.lst [.int x, .int y, .int 0]))
def spRoll : Sp := fun vs H Q _ => ∃ (p : Addr) (n : Int) (a b c : Int), vs = [.ref p, .int n] ∧ H p = some (.lst [.int a, .int b, .int c]) ∧ 0 ≤ a ∧ 0 < n ∧ n < 2 ^ 40 ∧
  ∀ (r x y z : Int), 0 ≤ r → r < n → 0 ≤ x → Q (.int r) (upd H p (.lst [.int x, .int y, .int z]))
section
variable {P : Program} {w : World} {K : PySem.W.Frag} {mg : Str → Option Value} {base : Heap}
theorem scD : FnScope ["_law_script", "_law_at", "_law_cell", "_law_great", "_law_mixed"] ["_law_script", "_law_at"] (defScope sDice) := ⟨rfl, rfl, rfl, by decide +kernel, rfl, by decide +kernel, by decide +kernel⟩
theorem scR : FnScope ["_law_dice_here", "_law_total", "_law_found", "_law_one", "_law_two"] ["_law_dice_here", "_law_total"] (defScope sRoll) := ⟨rfl, rfl, rfl, by decide +kernel, rfl, by decide +kernel, by decide +kernel⟩

theorem big_ne : (((10 : Int) ^ Int.toNat 60) ^ Int.toNat 11) ≠ 0 := by decide +kernel
theorem fmod_in {a n : Int} (h : 0 < n) : 0 ≤ a.fmod n ∧ a.fmod n < n := ⟨Int.fmod_nonneg_of_pos _ h, Int.fmod_lt_of_pos _ h⟩
theorem mul_left_ok {a n : Int} (h : 0 < n) (hn : n < 2 ^ 64) {j : Int} : CMul (a.fmod n) j := .inl ⟨by have := (fmod_in (a := a) h).1; omega, by have := (fmod_in (a := a) h).2; omega⟩
theorem ok_dice {f : Addr} {fd : FuncData} (F : Fun K "_law_dice" "_law_dice" sDice f fd) (T : TxB K mg) : FnOk P w K mg base CX0 1 f fd ["_law_script", "_law_at"] (spDice K) := by
  refine F.ok scD (fun vs H Q E h => ?_) (fun cdv A outer s H vs Q E hr h => ?_)
  · obtain ⟨a, ns, i, rfl, _⟩ := h
    rfl
  · obtain ⟨a, ns, i, rfl, hS, hi, k⟩ := h
    refine ⟨_, pss_cons (ps_set (i := 2) scD.nd rfl (Or.inl rfl) (pe_op op_add (pe_op op_mul pe_int (pv 1)) pe_int))
      (pss_cons (ps_if (pt_cmpR op_lt (pv 1) (pe_callB call_len_seq (by rfl) T.len PySem.boot_len (pa_cons (pv 0) pa_nil)) (nomark _)) (pss_one (ps_set (i := 2) scD.nd rfl (Or.inl rfl) (pe_ix ix_list (pv 0) (pv 1) (fun _ _ => rfl)))) pss_nil)
      (pss_cons (ps_set (i := 3) scD.nd rfl (Or.inl rfl) (pe_op op_modN (pe_callTy call_int1 (by rfl) T.int PyProof.Rows.boot_int (pa_cons (pe_callB call_abs (by rfl) T.abs PyProof.Rows.boot_abs (pa_cons (pv 2) pa_nil)) pa_nil)) (pe_op op_powB (pe_op op_pow pe_int pe_int) pe_int)))
      (pss_cons (ps_set (i := 4) scD.nd rfl (Or.inl rfl) (pe_op op_add (pe_op op_add (pe_op op_add (pe_op op_mul (pe_op op_modN (pe_callTy call_int1 (by rfl) T.int PyProof.Rows.boot_int (pa_cons (pv 3) pa_nil)) pe_int) pe_int) (pe_op op_mul pe_int (pv 1)))
          (pe_op op_mul pe_int (pe_callTy call_int1 (by rfl) T.int PyProof.Rows.boot_int (pa_cons (pe_cmpR op_lt (pv 2) pe_int (nomark _)) pa_nil)))) pe_int))
      (pss_one (ps_ret (pe_lst (pa_cons (pe_callB (call_max2 rfl) (by rfl) T.max PyProof.Rows.boot_max (pa_cons pe_int (pa_cons (pe_op op_sub (pv 3) (pe_op op_pow pe_int pe_int)) pa_nil)))
          (pa_cons (pe_op op_modN (pe_callTy call_int1 (by rfl) T.int PyProof.Rows.boot_int (pa_cons (pv 4) pa_nil)) pe_int) (pa_cons pe_int pa_nil))))))))), ?_⟩
    refine ⟨_, rfl, _, _, rfl, rfl, (.inl ⟨by decide, by decide⟩), _, _, rfl, rfl, ?_⟩
    -- if _law_at < len(_law_script)
    refine ⟨_, rfl, _, rfl, a, _, rfl, .inl hS, _, _, rfl, rfl, _, rfl, ?_⟩
    refine ite2 (fun hlt => ?_) (fun hge => ?_)
    · have hl : i < ns.length := by
        have q := of_decide_eq_true hlt
        rw [List.length_map] at q
        omega
      refine ⟨_, rfl, _, rfl, a, _, _, V.int ns[i], rfl, rfl, hS, atI_nat (by rw [List.getElem?_map, List.getElem?_eq_getElem hl]; rfl), ?_⟩
      refine ⟨_, rfl, _, rfl, .inl ⟨_, rfl, _, _, rfl, rfl, ⟨by decide, by decide, by decide⟩, _, _, rfl, rfl, ⟨by decide, by decide +kernel⟩, _, _, rfl, rfl, big_ne, ?_⟩⟩
      refine ⟨_, rfl, .inl ⟨_, rfl, _, _, rfl, rfl, (show (2147483477 : Int) ≠ 0 by decide), _, _, rfl, rfl, .inr ⟨by decide, by decide⟩, _, rfl, _, _, rfl, rfl, .inl ⟨by decide, by decide⟩, _, _, rfl, rfl,
        _, rfl, _, _, rfl, rfl, .inr ⟨_, rfl, _, _, rfl, rfl, .inl ⟨by decide, by decide⟩, _, _, rfl, rfl, _, _, rfl, rfl, ?_⟩⟩⟩
      refine ⟨_, rfl, _, _, rfl, rfl, ⟨by decide, by decide, by decide⟩, _, _, rfl, rfl, _, _, rfl, _, rfl, .inl ⟨_, rfl, _, _, rfl, rfl, (show (2147483399 : Int) ≠ 0 by decide), (by show 3 ≤ sizeLine; decide), fun p hp => ?_⟩⟩
      exact k p _ _ hp (by split <;> omega)
    · refine ⟨_, rfl, _, rfl, .inl ⟨_, rfl, _, _, rfl, rfl, ⟨by decide, by decide, by decide⟩, _, _, rfl, rfl, ⟨by decide, by decide +kernel⟩, _, _, rfl, rfl, big_ne, ?_⟩⟩
      refine ⟨_, rfl, .inl ⟨_, rfl, _, _, rfl, rfl, (show (2147483477 : Int) ≠ 0 by decide), _, _, rfl, rfl, .inr ⟨by decide, by decide⟩, _, rfl, _, _, rfl, rfl, .inl ⟨by decide, by decide⟩, _, _, rfl, rfl,
        _, rfl, _, _, rfl, rfl, .inr ⟨_, rfl, _, _, rfl, rfl, .inl ⟨by decide, by decide⟩, _, _, rfl, rfl, _, _, rfl, rfl, ?_⟩⟩⟩
      refine ⟨_, rfl, _, _, rfl, rfl, ⟨by decide, by decide, by decide⟩, _, _, rfl, rfl, _, _, rfl, _, rfl, .inl ⟨_, rfl, _, _, rfl, rfl, (show (2147483399 : Int) ≠ 0 by decide), (by show 3 ≤ sizeLine; decide), fun p hp => ?_⟩⟩
      exact k p _ _ hp (by split <;> omega)
theorem ok_roll {f : Addr} {fd : FuncData} (F : Fun K "_law_roll" "_law_roll" sRoll f fd) (T : TxB K mg) : FnOk P w K mg base CX0 1 f fd ["_law_dice_here", "_law_total"] spRoll := by
  refine F.ok scR (fun vs H Q E h => ?_) (fun cdv A outer s H vs Q E hr h => ?_)
  · obtain ⟨p, n, a, b, c, rfl, _⟩ := h
    rfl
  · obtain ⟨p, n, a, b, c, rfl, hp, ha, hn, hn2, k⟩ := h
    refine ⟨_, pss_cons (ps_if (pt_cmpR op_gt (pe_ix ix_list (pv 0) pe_int (fun _ _ => rfl)) pe_int (nomark _))
        (pss_cons (ps_set (i := 2) scR.nd rfl (Or.inl rfl) (pe_op op_modN (pe_callTy call_int1 (by rfl) T.int PyProof.Rows.boot_int (pa_cons (pe_ix ix_list (pv 0) pe_int (fun _ _ => rfl)) pa_nil)) (pv 1)))
        (pss_cons (ps_asg (pe_op op_fdivW (pe_ix ix_list (pv 0) pe_int (fun _ _ => rfl)) (pv 1)) (pg_sub (pv 0) pe_int set_list))
        (pss_one (ps_ret (pv 2))))) pss_nil)
      (pss_cons (ps_asg (pe_op op_add (pe_ix ix_list (pv 0) pe_int (fun _ _ => rfl)) pe_int) (pg_sub (pv 0) pe_int set_list))
      (pss_cons (ps_set (i := 3) scR.nd rfl (Or.inl rfl) (pe_op op_modN (pe_callTy call_int1 (by rfl) T.int PyProof.Rows.boot_int (pa_cons (pe_op op_add (pe_ix ix_list (pv 0) pe_int (fun _ _ => rfl)) (pe_op op_mul pe_int (pe_ix ix_list (pv 0) pe_int (fun _ _ => rfl)))) pa_nil)) pe_int))
      (pss_cons (ps_set (i := 4) scR.nd rfl (Or.inl rfl) (pe_op op_add (pe_op op_mul (pe_op op_modN (pe_callTy call_int1 (by rfl) T.int PyProof.Rows.boot_int (pa_cons (pe_op op_mul (pv 3) (pv 3)) pa_nil)) pe_int) (pv 3)) (pe_op op_mul pe_int (pe_ix ix_list (pv 0) pe_int (fun _ _ => rfl)))))
      (pss_cons (ps_set (i := 4) scR.nd rfl (Or.inl rfl) (pe_op op_modN (pe_callTy call_int1 (by rfl) T.int PyProof.Rows.boot_int (pa_cons (pv 4) pa_nil)) pe_int))
      (pss_one (ps_ret (pe_op op_modN (pe_callTy call_int1 (by rfl) T.int PyProof.Rows.boot_int (pa_cons (pe_op op_fdiv (pv 4) pe_int) pa_nil)) (pv 1)))))))), ?_⟩
    refine ⟨_, rfl, p, _, 0, _, rfl, rfl, .of hp, atI_nat (j := 0) rfl, _, _, rfl, rfl, _, rfl, ?_⟩
    refine ite2 (fun hgt => ?_) (fun hle => ?_)
    · refine ⟨_, rfl, p, _, 0, _, rfl, rfl, .of hp, atI_nat (j := 0) rfl, .inl ⟨_, rfl, _, rfl, _, _, rfl, rfl, (show n ≠ 0 by omega), ?_⟩⟩
      refine ⟨_, rfl, p, _, 0, _, rfl, rfl, .of hp, atI_nat (j := 0) rfl, _, rfl, _, _, rfl, rfl, wide_div hn (b := 40) (by omega) (by decide) (by decide), _, rfl, p, _, _, 0, rfl, rfl, hp, rfl, _, rfl, ?_⟩
      exact k _ _ _ _ (fmod_in hn).1 (fmod_in hn).2 (Int.ediv_nonneg ha (by omega))
    · refine ⟨_, rfl, p, _, 2, _, rfl, rfl, .of hp, atI_nat (j := 2) rfl, _, _, rfl, rfl, _, rfl, p, _, _, 2, rfl, rfl, hp, rfl, ?_⟩
      have hp2 : upd H p (HO.lst [V.int a, V.int b, V.int (c + 1)]) p = some (HO.lst [V.int a, V.int b, V.int (c + 1)]) := upd_same
      refine ⟨_, rfl, p, _, 1, _, rfl, rfl, .of hp2, atI_nat (j := 1) rfl, _, rfl, p, _, 2, _, rfl, rfl, .of hp2, atI_nat (j := 2) rfl, _, _, rfl, rfl, .inl ⟨by decide, by decide⟩, _, _, rfl, rfl, .inl ⟨_, rfl, _, _, rfl, rfl, (show (2305843009213693951 : Int) ≠ 0 by decide), ?_⟩⟩
      refine ⟨_, rfl, _, rfl, _, _, rfl, rfl, mul_left_ok (by decide) (by decide), .inl ⟨_, rfl, _, _, rfl, rfl, (show (2305843009213693921 : Int) ≠ 0 by decide), _, rfl, _, _, rfl, rfl, mul_left_ok (by decide) (by decide),
        _, rfl, p, _, 2, _, rfl, rfl, .of hp2, atI_nat (j := 2) rfl, _, _, rfl, rfl, .inl ⟨by decide, by decide⟩, _, _, rfl, rfl, ?_⟩⟩
      refine ⟨_, rfl, .inl ⟨_, rfl, _, _, rfl, rfl, (show (2305843009213693907 : Int) ≠ 0 by decide), ?_⟩⟩
      refine ⟨_, rfl, _, _, rfl, rfl, ⟨by decide, by decide⟩, .inl ⟨_, rfl, _, rfl, _, _, rfl, rfl, (show n ≠ 0 by omega), ?_⟩⟩
      exact k _ _ _ _ (fmod_in hn).1 (fmod_in hn).2 ha
/-! ### one of a list, a text, a number -/
structure TxD (K : PySem.W.Frag) (mg : Str → Option Value) (P : Program) (w : World) (base : Heap) : Prop extends TxB K mg where
  roll : ∃ f fd, mg "_law_roll" = some (.ref f) ∧ PySem.W.keepIn K (.ref f) = true ∧ Binds K fd ["_law_dice_here", "_law_total"] [] ∧ FnOk P w K mg base CX0 1 f fd ["_law_dice_here", "_law_total"] spRoll
def spOne : Sp := fun vs H Q _ => ∃ (p l : Addr) (xs : List V), vs = [.ref p, .ref l] ∧ DiceAt H p ∧ H l = some (.lst xs) ∧ l ≠ p ∧ 0 < xs.length ∧ xs.length < 1000 ∧
  ∀ (i : Nat) (x : V) (a b c : Int), xs[i]? = some x → 0 ≤ a → Q x (upd H p (.lst [.int a, .int b, .int c]))
theorem scO : FnScope ["_law_dice_here", "_law_items"] ["_law_dice_here", "_law_items"] (defScope sOne) := ⟨rfl, rfl, rfl, by decide +kernel, rfl, by decide +kernel, by decide +kernel⟩
theorem ok_one {f : Addr} {fd : FuncData} (F : Fun K "_law_one_of" "_law_one_of" sOne f fd) (T : TxD K mg P w base) : FnOk P w K mg base CX0 2 f fd ["_law_dice_here", "_law_items"] spOne := by
  obtain ⟨fR, fdR, mR, kR, bR, GR⟩ := T.roll
  refine F.ok scO (fun vs H Q E h => ?_) (fun cdv A outer s H vs Q E hr h => ?_)
  · obtain ⟨p, l, xs, rfl, _⟩ := h
    rfl
  · obtain ⟨p, l, xs, rfl, ⟨a, b, c, hp, ha⟩, hl, hne, h0, h1, k⟩ := h
    refine ⟨_, pss_one (ps_ret (pe_ix ix_list (pv 1) (pe_call GR hr (by rfl) mR kR bR .nil pass0 (pa_cons (pv 0) (pa_cons (pe_callB call_len_seq (by rfl) T.len PySem.boot_len (pa_cons (pv 1) pa_nil)) pa_nil))) (fun _ _ => rfl))), ?_⟩
    refine ⟨_, rfl, _, rfl, _, rfl, l, _, rfl, .inl (SqL.of hl), p, _, a, b, c, rfl, hp, ha, by omega, by omega, fun r x y z h2 h3 h4 => ?_⟩
    obtain ⟨j, rfl⟩ : ∃ j : Nat, r = (j : Int) := ⟨r.toNat, by omega⟩
    have hj : j < xs.length := by omega
    exact ⟨l, _, j, xs[j], rfl, rfl, SqL.of (by rw [upd_ne hne]; exact hl), atI_nat (List.getElem?_eq_getElem hj), k j _ _ _ _ (List.getElem?_eq_getElem hj) h4⟩

structure TxE (K : PySem.W.Frag) (mg : Str → Option Value) (P : Program) (w : World) (base : Heap) : Prop extends TxD K mg P w base where
  one : ∃ f fd, mg "_law_one_of" = some (.ref f) ∧ PySem.W.keepIn K (.ref f) = true ∧ Binds K fd ["_law_dice_here", "_law_items"] [] ∧ FnOk P w K mg base CX0 2 f fd ["_law_dice_here", "_law_items"] spOne
end
end Dc

/-! The small defs: names, numbers. -/
namespace Rd
open PySem PySem.Spec PyProof.Rows L2 Tq Dn Dc
theorem same_new {H : Hp} {p : Addr} {o : HO} (h : H p = none) : Same H (upd H p o) := fun b u e => by (rw [upd_ne (ne_of_none e h)]; exact e)
theorem same_to {H H' : Hp} {p : Addr} {o : HO} (hp : H p = none) (h : Same H H') : Same H (upd H' p o) := fun b u e => by rw [upd_ne (ne_of_none e hp)]; exact h b u e
theorem same_keep {H H' : Hp} {p : Addr} (h : Same H H') : Keep p H H' := fun b o _ e => h b o e
/-- a list is being filled at D: what stands elsewhere is kept -/
theorem off_seq {K : PySem.W.Frag} {D a : Addr} {H H' : Hp} {l xs : List V} (hD : H D = some (.lst l)) (k : Keep D H H') (h : SqT K H a xs) : SqT K H' a xs := by
  rcases h with (h | ⟨o, h⟩) | h
  · exact .inl (.inl (k a _ (fun e => by subst e; rw [hD] at h; cases h) h))
  · exact .inl (.inr ⟨o, k a _ (fun e => by subst e; rw [hD] at h; cases h) h⟩)
  · exact .inr h
/-- what is said of the list at D, i turns done -/
def Fil (H1 : Hp) (D : Addr) (P : Nat → List V → Hp → Prop) (i : Nat) (H : Hp) : Prop := Same H1 H ∧ ∃ acc, H D = some (.lst acc) ∧ P i acc H
/-- .. where one more item y is put -/
def Put (H1 : Hp) (D : Addr) (P : Nat → List V → Hp → Prop) (i : Nat) (y : V) (H : Hp) : Prop := ∃ acc, H D = some (.lst acc) ∧ acc.length < sizeLine ∧ Fil H1 D P i (upd H D (.lst (acc ++ [y])))
def Off (D : Addr) (P : Nat → List V → Hp → Prop) : Prop := ∀ i acc l H H', H D = some (.lst l) → Keep D H H' → P i acc H → P i acc H'
theorem put_of {H1 H H4 : Hp} {D : Addr} {P : Nat → List V → Hp → Prop} {i : Nat} {y : V} {acc : List V} (nD : H1 D = none) (off : Off D P) (s : Same H1 H) (e : H D = some (.lst acc)) (s4 : Same H H4) (l : acc.length < sizeLine) (p : P i (acc ++ [y]) H4) : Put H1 D P i y H4 :=
  ⟨acc, s4 _ _ e, l, same_to nD (s.trans s4), acc ++ [y], upd_same, off _ _ acc _ _ (s4 _ _ e) keep_upd p⟩
theorem fil_of {H1 H H4 : Hp} {D : Addr} {P : Nat → List V → Hp → Prop} {i : Nat} {acc : List V} (s : Same H1 H) (e : H D = some (.lst acc)) (s4 : Same H H4) (p : P i acc H4) : Fil H1 D P i H4 := ⟨s.trans s4, acc, s4 _ _ e, p⟩
/-- a comprehension over a walk -/
theorem lc_fil {J : It} {n : Nat} {G : Hp → Prop} {Y : Nat → Hp → V → Hp → Prop} (w : Walk J n G Y) {g : TG} {tt : TT} {te : TE} {vs : List Nat} {σ : L2.St} {H1 : Hp} {D : Addr} {Qd : Hp → Prop} (nD : H1 D = none) (P : Nat → List V → Hp → Prop)
    (p0 : P 0 [] (upd H1 D (.lst []))) (hG : ∀ H, Same H1 H → G H)
    (hs : ∀ i x acc H H', i < n → Same H1 H → H D = some (.lst acc) → P i acc H → Y i H x H' → g x (wipe σ vs) H' fun σ2 H2 => wipe σ2 vs = wipe σ vs ∧ tt σ2 H2 fun b H3 =>
      if b = true then te σ2 H3 fun y H4 => Put H1 D P (i + 1) y H4 else Fil H1 D P (i + 1) H3)
    (hd : ∀ acc H, Same H1 H → H D = some (.lst acc) → P n acc H → Qd H) :
    ∃ W : Nat → Nat → Hp → Prop, (∃ m, W 0 m (upd H1 D (.lst []))) ∧ ∀ i m H, W i m H →
      (J.stop i H ∧ Qd H) ∨ (J.go i H ∧ ∃ Nx : Hp → Prop, (∀ H', Nx H' → ∃ m', m' < m ∧ W (i + 1) m' H') ∧ ∀ x H', J.yld i H x H' → g x (wipe σ vs) H' fun σ2 H2 => wipe σ2 vs = wipe σ vs ∧ tt σ2 H2 fun b H3 =>
        if b = true then te σ2 H3 fun y H4 => ∃ acc, H4 D = some (.lst acc) ∧ acc.length < sizeLine ∧ Nx (upd H4 D (.lst (acc ++ [y]))) else Nx H3) :=
  lc_it w (Fil H1 D P) ⟨same_new nD, [], upd_same, p0⟩ (fun i H _ z => hG H z.1) (fun i x H H' hi ⟨s, acc, e, p⟩ y => hs i x acc H H' hi s e p y) fun H ⟨s, acc, e, p⟩ => hd acc H s e p
/-! ### the text -/
abbrev sName : Stmt := top 2
abbrev sAsc : Stmt := top 5
abbrev sWhole : Stmt := top 6
abbrev sNumb : Stmt := top 7
abbrev sWithin : Stmt := top 8
abbrev sNames : Stmt := top 40
abbrev sLine : Stmt := top 41
abbrev sPairs : Stmt := top 42
/-- the built-ins that are not names of the module -/
structure TxM (K : PySem.W.Frag) (mg : Str → Option Value) : Prop extends TxB K mg where
  all : mg "all" = none
  isi : mg "isinstance" = none
  str : mg "str" = none
  bool : mg "bool" = none
  tuple : mg "tuple" = none
  sorted : mg "sorted" = none
  set : mg "set" = none
  min : mg "min" = none
  enum : mg "enumerate" = none
  dict : mg "dict" = none
  repr : mg "repr" = none
/-! ### kinds of data -/
def tyD : PyData → String
  | .none => "NoneType"
  | .bool _ => "bool"
  | .int _ => "int"
  | .str _ => "str"
  | .list _ => "list"
  | .tuple _ => "tuple"
  | .dict _ => "dict"
theorem dp_ty {K : PySem.W.Frag} {H : Hp} {v : V} {d : PyData} (h : Dp K H v d) : TyX K H v (.type (tyD d)) := by
  cases h with
  | non => exact .base .non
  | bl b => exact .base (.bl b)
  | int i => exact .base (.int i)
  | str x => exact .base (.str x)
  | lst h a =>
    rcases h with (h | ⟨o, h⟩) | ⟨o, its, n, h1, h2, _⟩
    · exact .base (.lst h)
    · exact .base (.frz h)
    · exact .kList h1 h2
  | tup h a =>
    rcases h with (h | ⟨o, h⟩) | ⟨o, its, n, h1, h2, _⟩
    · exact .base (.tup h)
    · exact .fTuple h
    · exact .kTuple h1 h2
def isD (t : String) (d : PyData) : Bool := decide (tyD d = t)
def tys : List String := ["NoneType", "bool", "int", "str", "list", "tuple", "dict"]
theorem mem_ty (d : PyData) : tyD d ∈ tys := by cases d <;> simp [tyD, tys]
theorem kit_str (d : PyData) : kitB (tyD d) "str" = some (isD "str" d) := (by decide +kernel : ∀ t ∈ tys, kitB t "str" = some (decide (t = "str"))) _ (mem_ty d)
theorem kit_tup (d : PyData) : kitB (tyD d) "tuple" = some (isD "tuple" d) := (by decide +kernel : ∀ t ∈ tys, kitB t "tuple" = some (decide (t = "tuple"))) _ (mem_ty d)
theorem kit_bool (d : PyData) : kitB (tyD d) "bool" = some (isD "bool" d) := (by decide +kernel : ∀ t ∈ tys, kitB t "bool" = some (decide (t = "bool"))) _ (mem_ty d)
theorem kit_int (d : PyData) : kitB (tyD d) "int" = some (isD "int" d || isD "bool" d) := (by decide +kernel : ∀ t ∈ tys, kitB t "int" = some (decide (t = "int") || decide (t = "bool"))) _ (mem_ty d)
theorem isD_str {d : PyData} : isD "str" d = true → ∃ x, d = .str x := by intro h; cases d <;> first | exact ⟨_, rfl⟩ | (exact absurd h (by simp [isD, tyD]))
theorem isD_tup {d : PyData} : isD "tuple" d = true → ∃ x, d = .tuple x := by intro h; cases d <;> first | exact ⟨_, rfl⟩ | (exact absurd h (by simp [isD, tyD]))
theorem isD_int {d : PyData} : isD "int" d = true → ∃ x, d = .int x := by intro h; cases d <;> first | exact ⟨_, rfl⟩ | (exact absurd h (by simp [isD, tyD]))
/-! ### promises -/
def spName (K : PySem.W.Frag) : Sp := fun vs H Q _ => ∃ v d, vs = [v] ∧ Dp K H v d ∧ (∀ s, d = .str s → s.cps.size < sizeLine) ∧ ∀ H', Same H H' → Q (.bl (nameD d)) H'
section
variable {P : Program} {w : World} {K : PySem.W.Frag} {mg : Str → Option Value} {base : Heap}
theorem scNm : FnScope ["value", "letter"] ["value"] (defScope sName) := ⟨rfl, rfl, rfl, by decide +kernel, rfl, by decide +kernel, by decide +kernel⟩
theorem letter_lo (c : Nat) : (!decide ((⟨#[c]⟩ : Str).cps.toList < (("a" : Str)).cps.toList)) = decide (97 ≤ c) := by
  show (!decide ([c] < [97])) = _
  rw [← ltCps_eq, Bool.eq_iff_iff]
  simp [ltCps]
theorem letter_hi (c : Nat) : (!decide (((("z" : Str)).cps.toList) < (⟨#[c]⟩ : Str).cps.toList)) = decide (c ≤ 122) := by
  show (!decide ([122] < [c])) = _
  rw [← ltCps_eq, Bool.eq_iff_iff]
  simp [ltCps]
theorem ok_name {f : Addr} {fd : FuncData} (F : Fun K "is_name" "is_name" sName f fd) (T : TxM K mg) : FnOk P w K mg base CX0 1 f fd ["value"] (spName K) := by
  refine F.ok scNm (fun vs H Q E h => ?_) (fun cdv A outer s H vs Q E hr h => ?_)
  · obtain ⟨v, d, rfl, _⟩ := h; rfl
  · obtain ⟨v, d, rfl, hd, hz, k⟩ := h
    refine ⟨_, pss_cons (ps_if (PW.pt (pw_or (pt_not (pt_val (pe_callB call_isi (by rfl) T.isi PyProof.Rows.boot_isinstance (pa_cons (pv 0) (pa_cons (pe_bltn (v := .ty "str") (by rfl) T.str (by decide +kernel) rfl) pa_nil)))))
        (pw_or1 (pt_not (pt_chain op_le op_le pe_int (pe_callB call_len_str (by rfl) T.len PySem.boot_len (pa_cons (pv 0) pa_nil)) pe_int))))) (pss_one (ps_ret pe_bl)) pss_nil)
      (pss_one (ps_ret (pe_callB (cr_all rfl) (by rfl) T.all (by decide +kernel) (pa_cons (pe_lc (own := [("letter", 1)]) (g := gName 1) (tt := tYes) rfl scNm.nd (pi_str (pv 0))
        (blkOk_by (N := ["value", "letter"]) (sc := defScope sName) (by decide +kernel)) (fun _ _ _ _ _ => pg_name (i := 1) scNm.nd rfl (Or.inl rfl)) (fun _ _ _ _ _ => pts_nil)
        (fun _ _ _ _ _ => pe_chain op_le_str op_le_str pe_str (pv 1) pe_str)) pa_nil)))), ?_⟩
    refine ⟨_, rfl, v, .ty "str", .type (tyD d), .type "str", isD "str" d, rfl, .ty _, dp_ty hd, kit_ty (kit_str d), _, rfl, ?_⟩
    cases hs : isD "str" d with
    | false =>
      refine iteT (iteT ?_)
      have e : nameD d = false := by cases d <;> first | rfl | (exact absurd hs (by simp [isD, tyD]))
      have := k H (Same.refl H)
      rw [e] at this
      exact this
    | true =>
      obtain ⟨x, rfl⟩ := isD_str hs
      cases hd
      have hx : x.cps.size < sizeLine := hz x rfl
      refine iteF ?_
      refine ⟨_, rfl, x, rfl, Nat.le_of_lt hx, _, _, rfl, rfl, _, rfl, ?_⟩
      have low : decide (1 ≤ (x.length : Int)) = decide (1 ≤ x.length) := by simp; omega
      have hgh : decide ((x.length : Int) ≤ 8) = decide (x.length ≤ 8) := by simp; omega
      rw [low]
      refine ite2 (fun h1 => ?_) (fun h1 => ?_)
      · refine ⟨_, _, rfl, rfl, _, rfl, ?_⟩
        show (if (!decide ((x.length : Int) ≤ 8)) = true then _ else _)
        rw [hgh]
        refine ite2 (fun h2 => ?_) (fun h2 => ?_)
        · have := k H (Same.refl H)
          have e : nameD (.str x) = false := by
            show nameS x = false
            unfold nameS
            rw [(by simpa using h2 : decide (x.length ≤ 8) = false)]; simp
          rw [e] at this
          exact this
        · refine ⟨_, rfl, x, rfl, fun D hD => ?_⟩
          have hlen : ∀ i, ((x.cps.toList.take i).map fun c => V.bl (decide (97 ≤ c) && decide (c ≤ 122))).length ≤ x.cps.size := fun i => by rw [List.length_map, List.length_take, Array.length_toList]; omega
          refine lc_fil walk_str hD (fun i acc _ => acc = (x.cps.toList.take i).map fun c => V.bl (decide (97 ≤ c) && decide (c ≤ 122))) (by simp) (fun _ _ => trivial) ?_ ?_
          · rintro i v acc H2 H3 hi s2 e2 rfl ⟨rfl, c, hc, rfl⟩
            refine ⟨rfl, tt_yes ?_⟩
            have nx : x.cps.toList.take (i + 1) = x.cps.toList.take i ++ [c] := by rw [List.take_add_one, Array.getElem?_toList, hc]; rfl
            have off : Off D (fun i acc (_ : Hp) => acc = (x.cps.toList.take i).map fun c => V.bl (decide (97 ≤ c) && decide (c ≤ 122))) := fun _ _ _ _ _ _ _ z => z
            refine ⟨_, rfl, _, _, rfl, rfl, _, rfl, ?_⟩
            rw [letter_lo]
            have step : ∀ b : Bool, b = (decide (97 ≤ c) && decide (c ≤ 122)) → Put H D (fun i acc (_ : Hp) => acc = (x.cps.toList.take i).map fun c => V.bl (decide (97 ≤ c) && decide (c ≤ 122))) (i + 1) (.bl b) H3 := fun b hb =>
              put_of hD off s2 e2 (Same.refl _) (Nat.lt_of_le_of_lt (hlen i) hx) (by rw [nx, List.map_append, hb]; rfl)
            refine ite2 (fun h3 => ?_) (fun h3 => ?_)
            · refine ⟨_, _, rfl, rfl, ?_⟩
              rw [letter_hi]
              exact step _ (by rw [h3]; simp)
            · exact step _ (by rw [(by simpa using h3 : decide (97 ≤ c) = false)]; simp)
          · rintro acc H2 s2 e2 rfl
            refine ⟨D, (x.cps.toList.map fun c => decide (97 ≤ c) && decide (c ≤ 122)), rfl, SqL.of (by rw [e2, ← Array.length_toList, List.take_length, List.map_map]; rfl), ?_⟩
            have e : nameD (.str x) = ((x.cps.toList.map fun c => decide (97 ≤ c) && decide (c ≤ 122)).all id) := by
              show nameS x = _
              unfold nameS
              rw [h1, (by simpa using h2 : decide (x.length ≤ 8) = true), List.all_map]; rfl
            rw [← e]
            exact k _ s2
      · refine ⟨_, rfl, ?_⟩
        refine iteT ?_
        have := k H (Same.refl H)
        have e : nameD (.str x) = false := by
          show nameS x = false
          unfold nameS
          rw [(by simpa using h1 : decide (1 ≤ x.length) = false)]; simp
        rw [e] at this
        exact this
end
end Rd

namespace Rd
open PySem PySem.Spec PyProof.Rows L2 Tq Dn Dc
def posD : PyData → Bool
  | .int i => decide (0 ≤ i)
  | _ => false
abbrev Small (ds : List PyData) : Prop := ∀ s, PyData.str s ∈ ds → s.cps.size < sizeLine
def spWhole (K : PySem.W.Frag) : Sp := fun vs H Q _ => ∃ v d, vs = [v] ∧ Dp K H v d ∧ Q (.bl (isD "int" d)) H
def spNumb (K : PySem.W.Frag) : Sp := fun vs H Q _ => ∃ v d, vs = [v] ∧ Dp K H v d ∧ Q (.bl (posD d)) H
def spWithin (K : PySem.W.Frag) : Sp := fun vs H Q _ => ∃ v d m, vs = [v, .int m] ∧ Dp K H v d ∧ Q (.bl (numD d m)) H
def spNames (K : PySem.W.Frag) : Sp := fun vs H Q _ => ∃ a xs ds, vs = [.ref a] ∧ SqT K H a xs ∧ DpAll K H xs ds ∧ Small ds ∧ ds.length ≤ 100 ∧ ∀ H', Same H H' → Q (.bl (ds.all nameD)) H'
/-- a def of the module, with its promise -/
abbrev Has (P : Program) (w : World) (K : PySem.W.Frag) (mg : Str → Option Value) (base : Heap) (x : Str) (k : Nat) (ps : List Str) (sp : Sp) : Prop :=
  ∃ f fd, mg x = some (.ref f) ∧ PySem.W.keepIn K (.ref f) = true ∧ Binds K fd ps [] ∧ FnOk P w K mg base CX0 k f fd ps sp
section
variable {P : Program} {w : World} {K : PySem.W.Frag} {mg : Str → Option Value} {base : Heap}
theorem scWh : FnScope ["value"] ["value"] (defScope sWhole) := ⟨rfl, rfl, rfl, by decide +kernel, rfl, by decide +kernel, by decide +kernel⟩
theorem ok_whole {f : Addr} {fd : FuncData} (F : Fun K "is_whole_number" "is_whole_number" sWhole f fd) (T : TxM K mg) : FnOk P w K mg base CX0 1 f fd ["value"] (spWhole K) := by
  refine F.ok scWh (fun vs H Q E h => ?_) (fun cdv A outer s H vs Q E hr h => ?_)
  · obtain ⟨v, d, rfl, _⟩ := h; rfl
  · obtain ⟨v, d, rfl, hd, k⟩ := h
    refine ⟨_, pss_one (ps_ret (pe_and (pe_callB call_isi (by rfl) T.isi PyProof.Rows.boot_isinstance (pa_cons (pv 0) (pa_cons (pe_bltn (v := .ty "int") (by rfl) T.int (by decide +kernel) rfl) pa_nil)))
      (pe_one (pe_not (pe_callB call_isi (by rfl) T.isi PyProof.Rows.boot_isinstance (pa_cons (pv 0) (pa_cons (pe_bltn (v := .ty "bool") (by rfl) T.bool (by decide +kernel) rfl) pa_nil))))))), ?_⟩
    refine ⟨_, rfl, v, .ty "int", .type (tyD d), .type "int", _, rfl, .ty _, dp_ty hd, kit_ty (kit_int d), _, rfl, ?_⟩
    have e : ∀ a b : Bool, (isD "int" d = (a && !b)) → (a = (isD "int" d || isD "bool" d)) → (b = isD "bool" d) → True := fun _ _ _ _ _ => trivial
    cases h1 : isD "int" d with
    | true =>
      have h2 : isD "bool" d = false := by obtain ⟨i, rfl⟩ := isD_int h1; rfl
      refine iteT ⟨_, rfl, v, .ty "bool", .type (tyD d), .type "bool", _, rfl, .ty _, dp_ty hd, kit_ty (kit_bool d), _, rfl, ?_⟩
      rw [h2]; rw [h1] at k; exact k
    | false =>
      rw [h1] at k
      cases h2 : isD "bool" d with
      | true =>
        refine iteT ⟨_, rfl, v, .ty "bool", .type (tyD d), .type "bool", _, rfl, .ty _, dp_ty hd, kit_ty (kit_bool d), _, rfl, ?_⟩
        rw [h2]; exact k
      | false => exact iteF k
/-- what the small defs need -/
structure TxN (K : PySem.W.Frag) (mg : Str → Option Value) (P : Program) (w : World) (base : Heap) : Prop extends TxM K mg where
  whole : Has P w K mg base "is_whole_number" 1 ["value"] (spWhole K)
  numb : Has P w K mg base "is_number" 2 ["value"] (spNumb K)
  within_ : Has P w K mg base "is_number_within" 3 ["value", "most"] (spWithin K)
  name : Has P w K mg base "is_name" 1 ["value"] (spName K)
theorem scNb : FnScope ["value"] ["value"] (defScope sNumb) := ⟨rfl, rfl, rfl, by decide +kernel, rfl, by decide +kernel, by decide +kernel⟩
theorem ok_numb {f : Addr} {fd : FuncData} (F : Fun K "is_number" "is_number" sNumb f fd) (hw : Has P w K mg base "is_whole_number" 1 ["value"] (spWhole K)) : FnOk P w K mg base CX0 2 f fd ["value"] (spNumb K) := by
  obtain ⟨g, gd, mG, kG, bG, GG⟩ := hw
  refine F.ok scNb (fun vs H Q E h => ?_) (fun cdv A outer s H vs Q E hr h => ?_)
  · obtain ⟨v, d, rfl, _⟩ := h; rfl
  · obtain ⟨v, d, rfl, hd, k⟩ := h
    refine ⟨_, pss_one (ps_ret (pe_and (pe_call GG hr (by rfl) mG kG bG .nil pass0 (pa_cons (pv 0) pa_nil)) (pe_one (pe_cmpR op_ge (pv 0) pe_int (nomark _))))), ?_⟩
    refine ⟨_, rfl, v, d, rfl, hd, _, rfl, ?_⟩
    cases h1 : isD "int" d with
    | true =>
      obtain ⟨i, rfl⟩ := isD_int h1
      cases hd
      refine iteT ⟨_, rfl, _, _, rfl, rfl, ?_⟩
      exact k
    | false =>
      have e : posD d = false := by cases d <;> first | rfl | (exact absurd h1 (by simp [isD, tyD]))
      rw [e] at k
      exact iteF k
theorem scWi : FnScope ["value", "most"] ["value", "most"] (defScope sWithin) := ⟨rfl, rfl, rfl, by decide +kernel, rfl, by decide +kernel, by decide +kernel⟩
theorem ok_within {f : Addr} {fd : FuncData} (F : Fun K "is_number_within" "is_number_within" sWithin f fd) (hw : Has P w K mg base "is_number" 2 ["value"] (spNumb K)) : FnOk P w K mg base CX0 3 f fd ["value", "most"] (spWithin K) := by
  obtain ⟨g, gd, mG, kG, bG, GG⟩ := hw
  refine F.ok scWi (fun vs H Q E h => ?_) (fun cdv A outer s H vs Q E hr h => ?_)
  · obtain ⟨v, d, m, rfl, _⟩ := h; rfl
  · obtain ⟨v, d, m, rfl, hd, k⟩ := h
    refine ⟨_, pss_one (ps_ret (pe_and (pe_call GG hr (by rfl) mG kG bG .nil pass0 (pa_cons (pv 0) pa_nil)) (pe_one (pe_cmpR op_le (pv 0) (pv 1) (nomark _))))), ?_⟩
    refine ⟨_, rfl, v, d, rfl, hd, _, rfl, ?_⟩
    cases h1 : posD d with
    | true =>
      obtain ⟨i, rfl⟩ : ∃ i, d = .int i := by cases d <;> first | exact ⟨_, rfl⟩ | (exact absurd h1 (by simp [posD]))
      cases hd
      have e : numD (.int i) m = decide (i ≤ m) := by
        show (decide (0 ≤ i) && decide (i ≤ m)) = _
        rw [(show decide (0 ≤ i) = true from h1), Bool.true_and]
      rw [e] at k
      exact iteT ⟨_, rfl, _, rfl, _, _, rfl, rfl, k⟩
    | false =>
      have e : numD d m = false := by
        cases d <;> first | rfl | skip
        rename_i i
        show (decide (0 ≤ i) && decide (i ≤ m)) = false
        rw [(show decide (0 ≤ i) = false from h1), Bool.false_and]
      rw [e] at k
      exact iteF k
theorem scNs : FnScope ["values", "value"] ["values"] (defScope sNames) := ⟨rfl, rfl, rfl, by decide +kernel, rfl, by decide +kernel, by decide +kernel⟩
theorem ok_names {f : Addr} {fd : FuncData} (F : Fun K "are_names" "are_names" sNames f fd) (T : TxN K mg P w base) : FnOk P w K mg base CX0 2 f fd ["values"] (spNames K) := by
  obtain ⟨g, gd, mG, kG, bG, GG⟩ := T.name
  refine F.ok scNs (fun vs H Q E h => ?_) (fun cdv A outer s H vs Q E hr h => ?_)
  · obtain ⟨a, xs, ds, rfl, _⟩ := h; rfl
  · obtain ⟨a, xs, ds, rfl, ha, hd, hz, hn, k⟩ := h
    refine ⟨_, pss_one (ps_ret (pe_callB (cr_all rfl) (by rfl) T.all PyProof.Rows.boot_all (pa_cons (pe_lc (own := [("value", 1)]) (g := gName 1) (tt := tYes) rfl scNs.nd (pi_tup (pv 0))
        (blkOk_by (N := ["values", "value"]) (sc := defScope sNames) (by decide +kernel)) (fun _ _ _ _ _ => pg_name (i := 1) scNs.nd rfl (Or.inl rfl)) (fun _ _ _ _ _ => pts_nil)
        (fun _ _ _ _ _ => pe_call GG hr (by rfl) mG kG bG .nil pass0 (pa_cons (pv 1) pa_nil))) pa_nil))), ?_⟩
    have hl := dpAll_len hd
    refine ⟨_, rfl, a, rfl, ⟨_, ha⟩, fun D hD => ?_⟩
    have off : Off D (fun i acc (_ : Hp) => acc = (ds.take i).map fun d => V.bl (nameD d)) := fun _ _ _ _ _ _ _ z => z
    refine lc_fil walk_tup hD (fun i acc _ => acc = (ds.take i).map fun d => V.bl (nameD d)) (by simp) (fun H' s' => sqT_up ha s') ?_ ?_
    · rintro i v acc H2 H3 hi s2 e2 rfl ⟨rfl, hv⟩
      obtain ⟨d, hdi, hdv⟩ := dpAll_get hd hv
      refine ⟨rfl, tt_yes ?_⟩
      refine ⟨_, rfl, v, d, rfl, dp_up s2 hdv, fun s e => hz s (e ▸ List.mem_of_getElem? hdi), fun H4 s4 => ?_⟩
      refine put_of hD off s2 e2 s4 ?_ (by rw [List.take_add_one, hdi, List.map_append]; rfl)
      rw [List.length_map, List.length_take]
      rw [sizeLine_eq]
      omega
    · rintro acc H2 s2 e2 rfl
      refine ⟨D, ds.map nameD, rfl, SqL.of (by rw [e2, hl, List.take_length, List.map_map]; rfl), ?_⟩
      have e : (ds.map nameD).all id = ds.all nameD := by rw [List.all_map]; rfl
      rw [e]
      exact k _ s2
end
end Rd

namespace Rd
open PySem PySem.Spec PyProof.Rows L2 Tq Dn Dc
/-- all texts of a tuple's data are short, and it has few items -/
def Mod_ (d : PyData) : Prop := ∀ ds, d = .tuple ds → Small ds ∧ ds.length ≤ 100
def spLine (K : PySem.W.Frag) : Sp := fun vs H Q _ => ∃ v m, vs = [v, .int m] ∧
  ((∃ d, Dp K H v d ∧ SeqAt.shaped d = true ∧ Mod_ d ∧ ∀ H', Same H H' → Q (.bl (lineD d m)) H') ∨ (TyX K H v (.type "dict") ∧ Q (.bl false) H))
structure TxL (K : PySem.W.Frag) (mg : Str → Option Value) (P : Program) (w : World) (base : Heap) : Prop extends TxN K mg P w base where
  names : Has P w K mg base "are_names" 2 ["values"] (spNames K)
theorem cut13 (xs : List V) : cutV xs (some 1) (some 3) = (xs.drop (min 1 xs.length)).take (min 3 xs.length - min 1 xs.length) := by
  unfold cutV
  rw [show HT.sIx xs.length 0 (some (1 : Int)) = min 1 xs.length from HT.sIx_nat _ _ 1, show HT.sIx xs.length xs.length (some (3 : Int)) = min 3 xs.length from HT.sIx_nat _ _ 3]
theorem cut1 (xs : List V) : cutV xs (some 1) none = (xs.drop (min 1 xs.length)).take (xs.length - min 1 xs.length) := by
  unfold cutV
  rw [show HT.sIx xs.length 0 (some (1 : Int)) = min 1 xs.length from HT.sIx_nat _ _ 1, HT.sIx_none]
theorem shaped_str {x : Str} (h : PyData.strOk x = true) : SeqAt.shaped (.str x) = true := by
  show (PyData.canLay0 (.str x) && decide (PyData.depth (.str x) ≤ 64)) = true
  simp [PyData.canLay0, PyData.depth, h]
theorem shaped_go : SeqAt.shaped (.str "go") = true := shaped_str w_ok.1
theorem shaped_if : SeqAt.shaped (.str "if") = true := shaped_str w_ok.2.1
theorem lay_rl : PyData.canLayAll0 [.str "read", .str "look"] = true := by simp [PyData.canLayAll0, PyData.canLay0, w_ok.2.2.1, w_ok.2.2.2]
theorem eqVN {n m : Nat} : decide (V.int (n : Int) = V.int (m : Int)) = decide (n = m) := by
  by_cases h : n = m
  · rw [h]; simp
  · rw [decide_eq_false h, decide_eq_false fun e => h (by have := V.int.inj e; omega)]
section
variable {P : Program} {w : World} {K : PySem.W.Frag} {mg : Str → Option Value} {base : Heap}
theorem scLi : FnScope ["value", "many", "word"] ["value", "many"] (defScope sLine) := ⟨rfl, rfl, rfl, by decide +kernel, rfl, by decide +kernel, by decide +kernel⟩
theorem ok_line {f : Addr} {fd : FuncData} (F : Fun K "is_line" "is_line" sLine f fd) (T : TxL K mg P w base) : FnOk P w K mg base CX0 4 f fd ["value", "many"] (spLine K) := by
  obtain ⟨g, gd, mG, kG, bG, GG⟩ := T.within_
  obtain ⟨n, nd, mN, kN, bN, GN⟩ := T.names
  refine F.ok scLi (fun vs H Q E h => ?_) (fun cdv A outer s H vs Q E hr h => ?_)
  · obtain ⟨v, m, rfl, _⟩ := h; rfl
  · obtain ⟨v, m, rfl, h⟩ := h
    have hu := hr.units
    have hu65 : (A.deeper (envOfC (Str.ofString "is_line") (defScope sLine) s.heap.objs.size f cdv)).units + 65 < cLine := by have := hr.un; omega
    have hr2 := hr.mono (show 2 ≤ 3 by decide)
    refine ⟨_, pss_cons (ps_if (PW.pt (pw_or (pt_not (pt_val (pe_callB call_isi (by rfl) T.isi PyProof.Rows.boot_isinstance (pa_cons (pv 0) (pa_cons (pe_bltn (v := .ty "tuple") (by rfl) T.tuple PyProof.Rows.boot_tuple rfl) pa_nil)))))
        (pw_or1 (pt_cmpR op_lt (pe_callB call_len_seq (by rfl) T.len PySem.boot_len (pa_cons (pv 0) pa_nil)) pe_int (nomark _))))) (pss_one (ps_ret pe_bl)) pss_nil)
      (pss_cons (ps_set (i := 2) scLi.nd rfl (Or.inl rfl) (pe_ix ix_tup (pv 0) pe_int (fun _ _ => rfl)))
      (pss_cons (ps_if (pt_cmpR (op_eqD hu) (pv 2) pe_str (nomark _)) (pss_one (ps_ret (pe_and (pe_cmpR op_eq (pe_callB call_len_seq (by rfl) T.len PySem.boot_len (pa_cons (pv 0) pa_nil)) pe_int (nomark _))
        (pe_one (pe_call GG hr (by rfl) mG kG bG .nil pass0 (pa_cons (pe_ix ix_tup (pv 0) pe_int (fun _ _ => rfl)) (pa_cons (pv 1) pa_nil))))))) pss_nil)
      (pss_cons (ps_if (pt_cmpR (op_eqD hu) (pv 2) pe_str (nomark _)) (pss_one (ps_ret (pe_and (pe_cmpR op_eq (pe_callB call_len_seq (by rfl) T.len PySem.boot_len (pa_cons (pv 0) pa_nil)) pe_int (nomark _))
        (pe_and (pe_call GN hr2 (by rfl) mN kN bN .nil pass0 (pa_cons (pe_slice sl_tup (pv 0) (po_some pe_int) (po_some pe_int)) pa_nil))
        (pe_one (pe_call GG hr (by rfl) mG kG bG .nil pass0 (pa_cons (pe_ix ix_tup (pv 0) pe_int (fun _ _ => rfl)) (pa_cons (pv 1) pa_nil)))))))) pss_nil)
      (pss_one (ps_ret (pe_and (pe_cmpR (op_inDT hu65) (pv 2) (pe_tup (pa_cons pe_str (pa_cons pe_str pa_nil))) (by rfl))
        (pe_and (pe_cmpR op_eq (pe_callB call_len_seq (by rfl) T.len PySem.boot_len (pa_cons (pv 0) pa_nil)) pe_int (nomark _))
        (pe_one (pe_call GN hr2 (by rfl) mN kN bN .nil pass0 (pa_cons (pe_slice sl_tup (pv 0) (po_some pe_int) po_none) pa_nil)))))))))), ?_⟩
    rcases h.symm with ⟨ty, k⟩ | ⟨d, hd, hs, hm, k⟩
    · refine ⟨_, rfl, v, .ty "tuple", .type "dict", .type "tuple", false, rfl, .ty _, ty, kit_ty (by decide +kernel), _, rfl, ?_⟩
      exact iteT (iteT k)
    refine ⟨_, rfl, v, .ty "tuple", .type (tyD d), .type "tuple", isD "tuple" d, rfl, .ty _, dp_ty hd, kit_ty (kit_tup d), _, rfl, ?_⟩
    cases h1 : isD "tuple" d with
    | false =>
      refine iteT (iteT ?_)
      have e : lineD d m = false := by cases d <;> first | rfl | (exact absurd h1 (by simp [isD, tyD]))
      have := k H (Same.refl H)
      rw [e] at this
      exact this
    | true =>
      obtain ⟨ds, rfl⟩ := isD_tup h1
      obtain ⟨hz, hn⟩ := hm ds rfl
      cases hd with
      | @tup a xs _ ha hds =>
        have hl := dpAll_len hds
        refine iteF ?_
        refine ⟨_, rfl, a, _, rfl, .inr ha, _, _, rfl, rfl, _, rfl, ?_⟩
        have e0 : decide ((xs.length : Int) < 2) = decide (ds.length < 2) := by rw [hl]; simp; omega
        rw [e0]
        refine ite2 (fun h2 => ?_) (fun h2 => ?_)
        · have e : lineD (.tuple ds) m = false := by show (if ds.length < 2 then false else _) = false; rw [if_pos (of_decide_eq_true h2)]
          have := k H (Same.refl H)
          rw [e] at this
          exact this
        · have h2 : 2 ≤ ds.length := by have := of_decide_eq_false (by simpa using h2 : decide (ds.length < 2) = false); omega
          have e : lineD (.tuple ds) m = lineT ds m := by show (if ds.length < 2 then false else _) = _; rw [if_neg (by omega)]
          rw [e] at k
          obtain ⟨x0, hx0⟩ : ∃ x, xs[0]? = some x := ⟨xs[0], List.getElem?_eq_getElem (by omega)⟩
          obtain ⟨x1, hx1⟩ : ∃ x, xs[1]? = some x := ⟨xs[1], List.getElem?_eq_getElem (by omega)⟩
          obtain ⟨d0, hd0, p0⟩ := dpAll_get hds hx0
          obtain ⟨d1, hd1, p1⟩ := dpAll_get hds hx1
          have s0 := shaped_at hs hd0
          have g0 : ds.getD 0 .none = d0 := by rw [List.getD_eq_getElem?_getD, hd0]; rfl
          have g1 : ds.getD 1 .none = d1 := by rw [List.getD_eq_getElem?_getD, hd1]; rfl
          have ln : ∀ m : Nat, decide (V.int (xs.length : Int) = V.int (m : Int)) = decide (ds.length = m) := fun m => by rw [hl]; exact eqVN
          refine ⟨_, rfl, a, _, _, x0, rfl, rfl, ha, atI_nat (j := 0) hx0, ?_⟩
          refine ⟨_, rfl, d0, _, p0, .str _, s0, shaped_go, _, rfl, ite2 (fun c1 => ?_) (fun c1 => ?_)⟩
          · have L : lineT ds m = (decide (ds.length = 2) && numD d1 m) := by unfold lineT; rw [g0, if_pos c1, g1]
            rw [L] at k
            refine ⟨_, rfl, a, _, rfl, .inr ha, rfl, _, rfl, ?_⟩
            rw [show decide (V.int (xs.length : Int) = V.int 2) = decide (ds.length = 2) from ln 2]
            refine ite2 (fun c2 => ?_) (fun c2 => ?_)
            · refine ⟨_, rfl, a, _, _, x1, rfl, rfl, ha, atI_nat (j := 1) hx1, _, rfl, x1, d1, m, rfl, p1, ?_⟩
              have := k H (Same.refl H)
              rwa [c2, Bool.true_and] at this
            · have := k H (Same.refl H)
              rwa [Bool.not_eq_true _ |>.mp c2, Bool.false_and] at this
          refine ⟨_, rfl, d0, _, p0, .str _, s0, shaped_if, _, rfl, ite2 (fun c2 => ?_) (fun c2 => ?_)⟩
          · have L : lineT ds m = (decide (ds.length = 4) && ((((ds.drop 1).take 2).all nameD) && numD (ds.getD 3 .none) m)) := by unfold lineT; rw [g0, if_neg c1, if_pos c2]
            rw [L] at k
            refine ⟨_, rfl, a, _, rfl, .inr ha, rfl, _, rfl, ?_⟩
            rw [show decide (V.int (xs.length : Int) = V.int 4) = decide (ds.length = 4) from ln 4]
            refine ite2 (fun c3 => ?_) (fun c3 => ?_)
            · have h4 : ds.length = 4 := of_decide_eq_true c3
              obtain ⟨x3, hx3⟩ : ∃ x, xs[3]? = some x := ⟨xs[3], List.getElem?_eq_getElem (by omega)⟩
              obtain ⟨d3, hd3, p3⟩ := dpAll_get hds hx3
              have g3 : ds.getD 3 .none = d3 := by rw [List.getD_eq_getElem?_getD, hd3]; rfl
              have ct : cutV xs (some 1) (some 3) = (xs.drop 1).take 2 := by rw [cut13, hl, h4]; rfl
              refine ⟨_, rfl, _, rfl, _, rfl, a, _, rfl, ha, ?_, fun p np => ?_⟩
              · rw [show HT.sIx xs.length 0 (some (1 : Int)) = min 1 xs.length from HT.sIx_nat _ _ 1, hl, h4]
                exact fun z => absurd z.1 (by decide)
              · rw [ct]
                have sn := same_new (o := HO.tup ((xs.drop 1).take 2)) np
                refine ⟨p, _, (ds.drop 1).take 2, rfl, SqT.of upd_same, dpAll_up sn (dpAll_take 2 (dpAll_drop 1 hds)), fun s hs => hz s (List.mem_of_mem_drop (List.mem_of_mem_take hs)), by rw [List.length_take]; omega, fun H' s' => ?_⟩
                have s2 := sn.trans s'
                refine ⟨_, rfl, ite2 (fun c4 => ?_) (fun c4 => ?_)⟩
                · refine ⟨_, rfl, a, _, _, x3, rfl, rfl, sqT_up ha s2, atI_nat (j := 3) hx3, _, rfl, x3, d3, m, rfl, dp_up s2 p3, ?_⟩
                  have := k H' s2
                  rwa [c3, c4, g3, Bool.true_and, Bool.true_and] at this
                · have := k H' s2
                  rwa [c3, Bool.not_eq_true _ |>.mp c4, Bool.false_and, Bool.and_false] at this
            · have := k H (Same.refl H)
              rwa [Bool.not_eq_true _ |>.mp c3, Bool.false_and] at this
          · have L : lineT ds m = (([PyData.str "read", PyData.str "look"].any fun e => PyData.eqv e d0) && (decide (ds.length = 3) && (ds.drop 1).all nameD)) := by unfold lineT; rw [g0, if_neg c1, if_neg c2]; rfl
            rw [L] at k
            refine ⟨_, rfl, (by show 2 ≤ sizeLine; decide), fun t nt => ?_⟩
            have sn := same_new (o := HO.tup [V.str "read", V.str "look"]) nt
            refine ⟨d0, [.str "read", .str "look"], dp_up sn p0, .tup (SqT.of upd_same) (.cons (.str _) (.cons (.str _) .nil)), s0, lay_rl, _, rfl, ?_⟩
            rw [Bool.bne_false]
            refine ite2 (fun c3 => ?_) (fun c3 => ?_)
            · refine ⟨_, rfl, a, _, rfl, .inr (sqT_up ha sn), rfl, _, rfl, ?_⟩
              rw [show decide (V.int (xs.length : Int) = V.int 3) = decide (ds.length = 3) from ln 3]
              refine ite2 (fun c4 => ?_) (fun c4 => ?_)
              · have h3 : ds.length = 3 := of_decide_eq_true c4
                have ct : cutV xs (some 1) none = xs.drop 1 := by rw [cut1, hl, h3, List.take_of_length_le (by rw [List.length_drop, hl, h3]; decide)]; rfl
                refine ⟨_, rfl, _, rfl, a, _, rfl, sqT_up ha sn, ?_, fun p np => ?_⟩
                · rw [show HT.sIx xs.length 0 (some (1 : Int)) = min 1 xs.length from HT.sIx_nat _ _ 1, hl, h3]
                  exact fun z => absurd z.1 (by decide)
                · rw [ct]
                  have sp := same_new (o := HO.tup (xs.drop 1)) np
                  refine ⟨p, _, ds.drop 1, rfl, SqT.of upd_same, dpAll_up (sn.trans sp) (dpAll_drop 1 hds), fun s hs => hz s (List.mem_of_mem_drop hs), by rw [List.length_drop]; omega, fun H' s' => ?_⟩
                  have := k H' ((sn.trans sp).trans s')
                  rwa [c3, c4, Bool.true_and, Bool.true_and] at this
              · have := k _ sn
                rwa [c3, Bool.not_eq_true _ |>.mp c4, Bool.false_and, Bool.and_false] at this
            · have := k _ sn
              rwa [Bool.not_eq_true _ |>.mp c3, Bool.false_and] at this
end
end Rd

namespace Rd
open PySem PySem.Spec PyProof.Rows L2 Tq Dn Dc
abbrev RowsL := List (Addr × Ln)
/-- a tuple of such lines stands at L -/
def LinesAt (K : PySem.W.Frag) (H : Hp) (L : Addr) (rs : RowsL) : Prop := SqT K H L (rs.map fun r => .ref r.1) ∧ ∀ r ∈ rs, SqT K H r.1 r.2.vs
theorem LinesAt.up {K : PySem.W.Frag} {H H' : Hp} {L : Addr} {rs : RowsL} (h : LinesAt K H L rs) (s : Same H H') : LinesAt K H' L rs := ⟨sqT_up h.1 s, fun r hr => sqT_up (h.2 r hr) s⟩
theorem ln_dp {K : PySem.W.Frag} {H : Hp} {a : Addr} {l : Ln} (h : SqT K H a l.vs) : Dp K H (.ref a) l.d := by
  cases l with
  | go n => exact .tup h (.cons (.str _) (.cons (.int _) .nil))
  | ift t p n => exact .tup h (.cons (.str _) (.cons (.str _) (.cons (.str _) (.cons (.int _) .nil))))
  | look t p => exact .tup h (.cons (.str _) (.cons (.str _) (.cons (.str _) .nil)))
  | read t p => exact .tup h (.cons (.str _) (.cons (.str _) (.cons (.str _) .nil)))
theorem lns_dp {K : PySem.W.Frag} {H : Hp} : ∀ {rs : RowsL}, (∀ r ∈ rs, SqT K H r.1 r.2.vs) → DpAll K H (rs.map fun r => .ref r.1) ((rs.map Prod.snd).map Ln.d)
  | [], _ => .nil
  | r :: rs, h => .cons (ln_dp (h r List.mem_cons_self)) (lns_dp fun q hq => h q (.tail _ hq))
theorem LinesAt.dp {K : PySem.W.Frag} {H : Hp} {L : Addr} {rs : RowsL} (h : LinesAt K H L rs) : Dp K H (.ref L) (dls (rs.map Prod.snd)) := .tup h.1 (lns_dp h.2)
/-- a tuple of these pairs stands at p -/
def PairsAt (K : PySem.W.Frag) (H : Hp) (p : Addr) (ps : List (List Str)) : Prop := ∃ rs : List (Row Str), rs.map Prod.snd = ps ∧ SqT K H p (rs.map fun r => .ref r.1) ∧ TupsX K H rs
theorem tupsX_up {K : PySem.W.Frag} {H H' : Hp} {rs : List (Row Str)} (h : TupsX K H rs) (s : Same H H') : TupsX K H' rs := fun r hr => sqT_up (h r hr) s
theorem PairsAt.up {K : PySem.W.Frag} {H H' : Hp} {p : Addr} {ps : List (List Str)} (h : PairsAt K H p ps) (s : Same H H') : PairsAt K H' p ps :=
  let ⟨rs, e, a, b⟩ := h; ⟨rs, e, sqT_up a s, tupsX_up b s⟩
theorem strs_dp {K : PySem.W.Frag} {H : Hp} : ∀ k : List Str, DpAll K H (k.map V.str) (k.map PyData.str)
  | [] => .nil
  | x :: k => .cons (.str x) (strs_dp k)
theorem pairs_dp {K : PySem.W.Frag} {H : Hp} : ∀ {rs : List (Row Str)}, TupsX K H rs → DpAll K H (rs.map fun r => .ref r.1) ((rs.map Prod.snd).map pD)
  | [], _ => .nil
  | r :: rs, h => .cons (.tup (h r List.mem_cons_self) (strs_dp _)) (pairs_dp fun q hq => h q (.tail _ hq))
theorem PairsAt.dp {K : PySem.W.Frag} {H : Hp} {p : Addr} {ps : List (List Str)} (h : PairsAt K H p ps) : Dp K H (.ref p) (pDs ps) := by
  obtain ⟨rs, rfl, a, b⟩ := h
  exact .tup a (pairs_dp b)
def spAscX (K : PySem.W.Frag) : Sp := fun vs H Q _ => ∃ (l : Addr) (ks : List (Row Str)), vs = [.ref l] ∧ SqL K H l (ks.map fun r => V.ref r.1) ∧ TupsX K H ks ∧ ks.length < 64 ∧ (∀ r ∈ ks, r.2 ≠ []) ∧
  ∀ H' p ps, Same H H' → H p = none → Asc (ks.map Prod.snd) ps → PairsAt K H' p ps → Q (.ref p) H'
def spAscS (K : PySem.W.Frag) : Sp := fun vs H Q _ => ∃ (l : Addr) (ks : List Str), vs = [.ref l] ∧ SqL K H l (ks.map V.str) ∧ ks.length < 64 ∧
  ∀ H' p ts, Same H H' → H p = none → AscS ks ts → ts.length ≤ ks.length → H' p = some (.tup (ts.map V.str)) → Q (.ref p) H'
def spPairs (K : PySem.W.Frag) : Sp := fun vs H Q _ => ∃ (L W : Addr) (rs : RowsL) (ws : List Str), vs = [.ref L, .ref W] ∧ LinesAt K H L rs ∧ SqT K H W (ws.map V.str) ∧ ("go" : Str) ∉ ws ∧ rs.length < 64 ∧
  ∀ H' p ps, Same H H' → H p = none → Asc (keysOf ws (rs.map Prod.snd)) ps → PairsAt K H' p ps → Q (.ref p) H'
section
variable {P : Program} {w : World} {K : PySem.W.Frag} {mg : Str → Option Value} {base : Heap}
theorem scAs : FnScope ["values"] ["values"] (defScope sAsc) := ⟨rfl, rfl, rfl, by decide +kernel, rfl, by decide +kernel, by decide +kernel⟩
theorem ok_ascX {f : Addr} {fd : FuncData} (F : Fun K "ascending" "ascending" sAsc f fd) (T : TxM K mg) : FnOk P w K mg base CX0 1 f fd ["values"] (spAscX K) := by
  refine F.ok scAs (fun vs H Q E h => ?_) (fun cdv A outer s H vs Q E hr h => ?_)
  · obtain ⟨l, ks, rfl, _⟩ := h; rfl
  · obtain ⟨l, ks, rfl, hl, hk, few, ne, k⟩ := h
    refine ⟨_, pss_one (ps_ret (pe_callTy call_tuple_of (by rfl) T.tuple PyProof.Rows.boot_tuple (pa_cons (pe_callB (cr_sortX rfl) (by rfl) T.sorted PyProof.Rows.boot_sorted (pa_cons (pe_callTy (cr_setX rfl hr.units) (by rfl) T.set PyProof.Rows.boot_set (pa_cons (pv 0) pa_nil)) pa_nil)) pa_nil))), ?_⟩
    refine ⟨_, rfl, l, ks, rfl, hl, hk, few, fun a L na hof hto => ?_⟩
    have s1 := same_new (o := SetX P w a L) na
    refine ⟨a, L, rfl, upd_same, fun r hr => sqT_up (hk r (hof r hr)) s1, fun r hr => ne r (hof r hr), fun L' p pm few' up np => ?_⟩
    have s2 := s1.trans (same_new (o := HO.lst (L'.map fun r => V.ref r.1)) np)
    refine ⟨p, _, rfl, .inl ⟨SqL.of upd_same, fun q nq => ?_⟩⟩
    have s3 := s2.trans (same_new (o := HO.tup (L'.map fun r => V.ref r.1)) nq)
    refine k _ q (L'.map Prod.snd) s3 (s2.free nq) ⟨?_, fun x => ?_⟩ ⟨L', rfl, SqT.of upd_same, fun r hr => sqT_up (hk r (hof r (pm.mem_iff.mp hr))) s3⟩
    · rw [List.pairwise_map] at up ⊢; exact up
    · rw [(pm.map Prod.snd).mem_iff]
      constructor
      · intro z
        obtain ⟨r, hr, rfl⟩ := List.mem_map.mp z
        exact List.mem_map_of_mem (hof r hr)
      · intro z
        obtain ⟨r, hr, rfl⟩ := List.mem_map.mp z
        exact hto r hr
theorem ok_ascS {f : Addr} {fd : FuncData} (F : Fun K "ascending" "ascending" sAsc f fd) (T : TxM K mg) : FnOk P w K mg base CX0 1 f fd ["values"] (spAscS K) := by
  refine F.ok scAs (fun vs H Q E h => ?_) (fun cdv A outer s H vs Q E hr h => ?_)
  · obtain ⟨l, ks, rfl, _⟩ := h; rfl
  · obtain ⟨l, ks, rfl, hl, few, k⟩ := h
    refine ⟨_, pss_one (ps_ret (pe_callTy call_tuple_of (by rfl) T.tuple PyProof.Rows.boot_tuple (pa_cons (pe_callB (cr_sortT rfl) (by rfl) T.sorted PyProof.Rows.boot_sorted (pa_cons (pe_callTy (cr_setT rfl) (by rfl) T.set PyProof.Rows.boot_set (pa_cons (pv 0) pa_nil)) pa_nil)) pa_nil))), ?_⟩
    refine ⟨_, rfl, l, ks, rfl, hl, few, fun a L na hm hn => ?_⟩
    have s1 := same_new (o := SetT P w a L) na
    refine ⟨a, L, rfl, upd_same, by omega, fun L' p pm up np => ?_⟩
    have s2 := s1.trans (same_new (o := HO.lst (L'.map V.str)) np)
    refine ⟨p, _, rfl, .inl ⟨SqL.of upd_same, fun q nq => ?_⟩⟩
    exact k _ q L' (s2.trans (same_new nq)) (s2.free nq) ⟨up, fun x => by rw [pm.mem_iff, hm]⟩ (by rw [pm.length_eq]; exact hn) upd_same
theorem inV_strs (x : Str) : ∀ ws : List Str, inV (.str x) (ws.map V.str) = ws.contains x
  | [] => rfl
  | y :: ws => by
    have ih := inV_strs x ws
    show (eqV (.str y) (.str x) || inV (.str x) (ws.map V.str)) = _
    rw [ih, List.contains_cons]
    congr 1
    show (y == x) = (x == y)
    exact BEq.comm
theorem flat_strs : ∀ ws : List Str, (ws.map V.str).all flatV = true
  | [] => rfl
  | _ :: ws => flat_strs ws
theorem ln_word (l : Ln) : l.vs[0]? = some (.str l.word) := by cases l <;> rfl
theorem ln_cut {l : Ln} (h : l.word ≠ "go") : cutV l.vs (some 1) (some 3) = l.key.map V.str := by
  cases l with
  | go n => exact absurd rfl h
  | ift t p n => rw [cut13]; rfl
  | look t p => rw [cut13]; rfl
  | read t p => rw [cut13]; rfl
theorem ln_part {l : Ln} : ¬ (HT.sIx l.vs.length 0 (some 1) = 0 ∧ HT.sIx l.vs.length l.vs.length (some 3) = l.vs.length) := by
  rw [show HT.sIx l.vs.length 0 (some (1 : Int)) = min 1 l.vs.length from HT.sIx_nat _ _ 1]
  intro z
  have := z.1
  cases l <;> simp [Ln.vs] at this
theorem ln_key {l : Ln} (h : l.word ≠ "go") : l.key ≠ [] := by cases l <;> first | exact absurd rfl h | exact fun z => nomatch z
structure TxP (K : PySem.W.Frag) (mg : Str → Option Value) (P : Program) (w : World) (base : Heap) : Prop extends TxL K mg P w base where
  line : Has P w K mg base "is_line" 4 ["value", "many"] (spLine K)
  ascX : Has P w K mg base "ascending" 1 ["values"] (spAscX K)
  ascS : Has P w K mg base "ascending" 1 ["values"] (spAscS K)
theorem scPa : FnScope ["lines", "words", "line"] ["lines", "words"] (defScope sPairs) := ⟨rfl, rfl, rfl, by decide +kernel, rfl, by decide +kernel, by decide +kernel⟩
theorem ok_pairs {f : Addr} {fd : FuncData} (F : Fun K "pairs_of" "pairs_of" sPairs f fd) (T : TxP K mg P w base) : FnOk P w K mg base CX0 2 f fd ["lines", "words"] (spPairs K) := by
  obtain ⟨g, gd, mG, kG, bG, GG⟩ := T.ascX
  refine F.ok scPa (fun vs H Q E h => ?_) (fun cdv A outer s H vs Q E hr h => ?_)
  · obtain ⟨L, W, rs, ws, rfl, _⟩ := h; rfl
  · obtain ⟨L, W, rs, ws, rfl, hL, hW, hg, few, k⟩ := h
    refine ⟨_, pss_one (ps_ret (pe_call GG hr (by rfl) mG kG bG .nil pass0 (pa_cons (pe_lc (own := [("line", 2)]) (g := gName 2) (tt := tTest (tOp (rIn K false) (tOp (rIxT K) (tVar 2) (tC (.int 0))) (tVar 1))) (te := tSl (rSlT K) (tVar 2) (tPart (tC (.int 1))) (tPart (tC (.int 3)))) rfl scPa.nd (pi_tup (pv 0))
        (blkOk_by (N := ["lines", "words", "line"]) (sc := defScope sPairs) (by decide +kernel)) (fun _ _ _ _ _ => pg_name (i := 2) scPa.nd rfl (Or.inl rfl))
        (fun _ _ _ _ _ => pts_one (pt_cmpR op_in_seq (pe_ix ix_tup (pv 2) pe_int (fun _ _ => rfl)) (pv 1) (by rfl)))
        (fun _ _ _ _ _ => pe_slice sl_tup (pv 2) (po_some pe_int) (po_some pe_int))) pa_nil))), ?_⟩
    refine ⟨_, rfl, L, rfl, ⟨_, hL.1⟩, fun D hD => ?_⟩
    have off : Off D (fun i acc H' => ∃ ks : List (Row Str), acc = (ks.map fun r => V.ref r.1) ∧ TupsX K H' ks ∧ ks.map Prod.snd = keysOf ws ((rs.take i).map Prod.snd)) :=
      fun i acc l H2 H3 e kp ⟨ks, z1, z2, z3⟩ => ⟨ks, z1, fun r hr => off_seq e kp (z2 r hr), z3⟩
    refine lc_fil walk_tup hD (fun i acc H' => ∃ ks : List (Row Str), acc = (ks.map fun r => V.ref r.1) ∧ TupsX K H' ks ∧ ks.map Prod.snd = keysOf ws ((rs.take i).map Prod.snd)) ⟨[], rfl, fun r z => (by cases z), rfl⟩ (fun H' s' => sqT_up hL.1 s') ?_ ?_
    · rintro i v acc H2 H3 hi s2 e2 ⟨ks, rfl, hks, ek⟩ ⟨rfl, hv⟩
      rw [List.getElem?_map] at hv
      obtain ⟨r, hri, rfl⟩ := Option.map_eq_some_iff.mp hv
      have hr := sqT_up (hL.2 r (List.mem_of_getElem? hri)) s2
      have nx : (rs.take (i + 1)).map Prod.snd = (rs.take i).map Prod.snd ++ [r.2] := by rw [List.take_add_one, hri, List.map_append]; rfl
      have kx : keysOf ws ((rs.take (i + 1)).map Prod.snd) = keysOf ws ((rs.take i).map Prod.snd) ++ keysOf ws [r.2] := by rw [nx]; unfold keysOf; rw [List.filter_append, List.map_append]
      refine ⟨rfl, ?_⟩
      refine ⟨_, rfl, r.1, _, _, _, rfl, rfl, hr, atI_nat (j := 0) (ln_word r.2), _, rfl, W, _, rfl, .inr (sqT_up hW s2), rfl, flat_strs ws, _, rfl, ?_⟩
      show (if inV (.str r.2.word) (ws.map V.str) = true then _ else _)
      rw [inV_strs]
      refine ite2 (fun c => ?_) (fun c => ?_)
      · have hw : r.2.word ≠ "go" := fun e => hg (by rw [← e]; exact List.contains_iff_mem.mp c)
        refine ⟨_, rfl, _, rfl, _, rfl, r.1, _, rfl, hr, ln_part, fun p np => ?_⟩
        rw [ln_cut hw]
        have sn := same_new (o := HO.tup (r.2.key.map V.str)) np
        refine put_of hD off s2 e2 sn ?_ ⟨ks ++ [(p, r.2.key)], by rw [List.map_append]; rfl, fun q hq => ?_, ?_⟩
        · rw [List.length_map]
          have h1 : ks.length ≤ i := by
            have h2 := congrArg List.length ek
            rw [List.length_map] at h2
            rw [h2]
            unfold keysOf
            rw [List.length_map]
            refine Nat.le_trans (List.length_filter_le _ _) ?_
            rw [List.length_map, List.length_take]
            omega
          rw [List.length_map] at hi
          rw [sizeLine_eq]; omega
        · rcases List.mem_append.mp hq with z | z
          · exact sqT_up (hks q z) sn
          · rw [List.mem_singleton.mp z]; exact SqT.of upd_same
        · rw [List.map_append, ek, kx]
          congr 1
          show [r.2.key] = ([r.2].filter fun l => ws.contains l.word).map Ln.key
          rw [List.filter_cons_of_pos (by exact c)]; rfl
      · refine fil_of s2 e2 (Same.refl _) ⟨ks, rfl, hks, ?_⟩
        rw [ek, kx]
        show _ = _ ++ ([r.2].filter fun l => ws.contains l.word).map Ln.key
        rw [List.filter_cons_of_neg (by exact c)]
        simp
    · rintro acc H2 s2 e2 ⟨ks, rfl, hks, ek⟩
      rw [List.length_map, List.take_length] at ek
      refine ⟨D, ks, rfl, SqL.of e2, hks, ?_, fun r hr => ?_, fun H' p ps s' np hA hP => ?_⟩
      · have h2 := congrArg List.length ek
        rw [List.length_map] at h2
        rw [h2]
        unfold keysOf
        rw [List.length_map]
        refine Nat.lt_of_le_of_lt (List.length_filter_le _ _) ?_
        rw [List.length_map]; exact few
      · have : r.2 ∈ keysOf ws (rs.map Prod.snd) := by rw [← ek]; exact List.mem_map_of_mem hr
        obtain ⟨l, hl, e⟩ := List.mem_map.mp this
        obtain ⟨_, hl2⟩ := List.mem_filter.mp hl
        rw [← e]
        exact ln_key fun z => hg (by rw [← z]; exact List.contains_iff_mem.mp hl2)
      · rw [ek] at hA
        exact k H' p ps (s2.trans s') (s2.free np) hA hP
end
end Rd

namespace Rd
open PySem PySem.Spec PyProof.Rows L2 Tq Dn Dc
abbrev cReader : Stmt := top 45
abbrev sInit : Stmt := inClass cReader 0
abbrev sOf : Stmt := inClass cReader 1
abbrev sReading : Stmt := inClass cReader 2
/-- what a def with a star parameter behind n others promises -/
def spStar (n : Nat) (sp : Sp) : Sp := fun vs H Q E => ∃ ws rest, vs = ws ++ rest ∧ ws.length = n ∧ rest.length ≤ sizeLine ∧ ∀ p, H p = Option.none → sp (ws ++ [V.ref p]) (upd H p (.tup rest)) Q E
section
variable {P : Program} {w : World} {K : PySem.W.Frag} {mg : Str → Option Value} {base : Heap}
theorem okStar {x qual : Str} {st : Stmt} {f : Addr} {fd : FuncData} {N ps : List Str} {pv : Str} {k : Nat} {sp : Sp} (F : Fun K x qual st f fd) (S : FnScope N (ps ++ [pv]) (defScope st))
    (hb : ∀ (kV doc pm : Value) (an : Option Addr) (cdv ct : Value) (us rest : List Value), us.length = ps.length → bindArgs (PySem.W.fnOf x qual (defArgs st) (defBody st) (defScope st) .none kV doc pm an cdv ct) ⟨us ++ rest, []⟩ = (newTuple rest >>= fun t => pure (ps.zip us ++ [(pv, t)])))
    (hbody : ∀ (cdv : Value) (A : Around) (outer : List Env) (s : Shared) (H : Hp) (vs : List V) (Q : VK) (E : XK), Room k (A.deeper (envOfC qual (defScope st) s.heap.objs.size f cdv)) → sp vs H Q E →
      ∃ t, PSs (cxOf CX0 P w K mg base N qual (defScope st) f cdv A outer s H E).nox (defBody st) t ∧ t { nx := fun _ H' => Q .non H', rt := Q } (start N vs) H) : FnR P w K mg base CX0 (k + 1) f (spStar ps.length sp) := by
  obtain ⟨oc, od, kV, doc, pm, an, cdv, ct, osl, rfl, lk, hcd⟩ := F.ex
  refine StX.fn_star lk hcd S StX.cxUp_none (hb kV doc pm an cdv ct) fun A outer s H vs Q E hr hsp => ?_
  obtain ⟨t, h, q⟩ := hbody cdv A outer s H vs Q E hr hsp
  exact ⟨t, h.nox, q⟩
/-- the lines make a reader -/
structure RdOk (rs : RowsL) : Prop where
  few : rs.length ≤ 16
  fine : ∀ r ∈ rs, r.2.fine rs.length = true
  six : ∀ ps, Asc (keysOf ["if"] (rs.map Prod.snd)) ps → ps.length ≤ 6
abbrev rdF (L T : Addr) : List (Str × V) := [("_lines", .ref L), ("_tested", .ref T)]
/-- a reader of these lines stands at r -/
def RdAt (K : PySem.W.Frag) (C : Addr) (H : Hp) (r : Addr) (rs : RowsL) : Prop := ∃ dx L T ps, H r = some (.ins C dx (rdF L T)) ∧ LinesAt K H L rs ∧ Asc (keysOf ["if"] (rs.map Prod.snd)) ps ∧ PairsAt K H T ps
theorem RdAt.up {C : Addr} {H H' : Hp} {r : Addr} {rs : RowsL} (h : RdAt K C H r rs) (s : Same H H') : RdAt K C H' r rs :=
  let ⟨dx, L, T, ps, e, a, b, c⟩ := h; ⟨dx, L, T, ps, s _ _ e, a.up s, b, c.up s⟩
def spInit (K : PySem.W.Frag) (C : Addr) : Sp := fun vs H Q _ => ∃ (x dx L : Addr) (rs : RowsL), vs = [.ref x, .ref L] ∧ H x = some (.ins C dx []) ∧ LinesAt K H L rs ∧ RdOk rs ∧
  ∀ H' T ps, Keep x H H' → H' x = some (.ins C dx (rdF L T)) → Asc (keysOf ["if"] (rs.map Prod.snd)) ps → PairsAt K H' T ps → Q .non H'
def spOf (K : PySem.W.Frag) (C : Addr) : Sp := fun vs H Q _ => ∃ (L : Addr) (rs : RowsL), vs = [.ref C, .ref L] ∧ LinesAt K H L rs ∧ RdOk rs ∧ ∀ H' r, Same H H' → H r = none → RdAt K C H' r rs → Q (.ref r) H'
/-- what the class and the module give -/
structure TxR0 (K : PySem.W.Frag) (mg : Str → Option Value) (P : Program) (w : World) (base : Heap) (C : Addr) : Prop extends TxP K mg P w base where
  cl : Cls K C
  nL : NoAttr K C "_lines"
  nT : NoAttr K C "_tested"
  mgC : mg "Reader" = some (.ref C)
  mxL : ∃ t, mg "MAX_LINES" = some (.int 16 t)
  mxT : ∃ t, mg "MAX_TESTED" = some (.int 6 t)
  pairs : Has P w K mg base "pairs_of" 2 ["lines", "words"] (spPairs K)
theorem fine_mod {l : Ln} {m : Nat} (h : l.fine m = true) : Mod_ l.d := by
  have sz : ∀ x : Str, nameS x = true → x.cps.size < sizeLine := fun x hx => by
    unfold nameS at hx
    simp only [Bool.and_eq_true, decide_eq_true_eq] at hx
    have : x.cps.size ≤ 8 := hx.1.2
    rw [sizeLine_eq]; omega
  have wd : ∀ x : Str, x.cps.size ≤ 8 → x.cps.size < sizeLine := fun x hx => by rw [sizeLine_eq]; omega
  rintro ds ⟨⟩
  refine ⟨fun s hs => ?_, by cases l <;> simp [Ln.ds]⟩
  cases l with
  | go n => simp [Ln.ds] at hs; subst hs; exact wd _ (by decide)
  | ift t p n =>
    simp only [Ln.fine, Bool.and_eq_true] at h
    simp [Ln.ds] at hs
    rcases hs with rfl | rfl | rfl
    · exact wd _ (by decide)
    · exact sz _ h.1
    · exact sz _ h.2.1
  | look t p =>
    simp only [Ln.fine, Bool.and_eq_true] at h
    simp [Ln.ds] at hs
    rcases hs with rfl | rfl | rfl
    · exact wd _ (by decide)
    · exact sz _ h.1
    · exact sz _ h.2
  | read t p =>
    simp only [Ln.fine, Bool.and_eq_true] at h
    simp [Ln.ds] at hs
    rcases hs with rfl | rfl | rfl
    · exact wd _ (by decide)
    · exact sz _ h.1
    · exact sz _ h.2
theorem k_lt : ¬ (("_lines" : Str) = "_tested") := by decide +kernel
theorem rd_flds (L T : Addr) : putF "_tested" (.ref T) (putF "_lines" (.ref L) []) = rdF L T := by
  show (if ("_lines" : Str) = "_tested" then _ else _) = _
  rw [if_neg k_lt]; rfl
theorem rd_lines (L T : Addr) : (rdF L T).lookup ("_lines" : Str) = some (V.ref L) := by rw [← rd_flds, lookup_putF, if_neg (fun e => k_lt e), lookup_putF, if_pos rfl]
theorem rd_tested (L T : Addr) : (rdF L T).lookup ("_tested" : Str) = some (V.ref T) := by rw [← rd_flds, lookup_putF, if_pos rfl]
/-- an instance changes: sequences are kept -/
theorem off_ins {D a C dx : Addr} {fs : List (Str × V)} {H H' : Hp} {xs : List V} (hD : H D = some (.ins C dx fs)) (k : Keep D H H') (h : SqT K H a xs) : SqT K H' a xs := by
  rcases h with (h | ⟨o, h⟩) | h
  · exact .inl (.inl (k a _ (fun e => by subst e; rw [hD] at h; cases h) h))
  · exact .inl (.inr ⟨o, k a _ (fun e => by subst e; rw [hD] at h; cases h) h⟩)
  · exact .inr h
theorem LinesAt.off {D C dx L : Addr} {fs : List (Str × V)} {H H' : Hp} {rs : RowsL} (hD : H D = some (.ins C dx fs)) (k : Keep D H H') (h : LinesAt K H L rs) : LinesAt K H' L rs := ⟨off_ins hD k h.1, fun r hr => off_ins hD k (h.2 r hr)⟩
theorem PairsAt.off {D C dx p : Addr} {fs : List (Str × V)} {H H' : Hp} {ps : List (List Str)} (hD : H D = some (.ins C dx fs)) (k : Keep D H H') (h : PairsAt K H p ps) : PairsAt K H' p ps :=
  let ⟨rs, e, a, b⟩ := h; ⟨rs, e, off_ins hD k a, fun r hr => off_ins hD k (b r hr)⟩
theorem fine_shaped {l : Ln} {m : Nat} (h : l.fine m = true) : SeqAt.shaped l.d = true := ln_shaped (fine_safe h)
theorem scIn : FnScope ["self", "lines", "line"] ([("self" : Str)] ++ [("lines" : Str)]) (defScope sInit) := ⟨rfl, rfl, rfl, by decide +kernel, rfl, by decide +kernel, by decide +kernel⟩
/-- len of a tuple -/
def rLenT (K : PySem.W.Frag) : List V → Hp → VK → Prop := fun xs H Q => ∃ p ys, xs = [.ref p] ∧ SqT K H p ys ∧ Q (.int (ys.length : Int)) H
theorem call_lenT {X : Cx} : CallR X (.builtin "len") (rLenT X.K) := by
  intro pins s σ H xs us Q I r h
  obtain ⟨p, ys, e, h1, h2⟩ := h
  exact call_len_seq pins s σ H xs us Q I r ⟨p, ys, e, .inr h1, h2⟩
theorem ok_init {C f : Addr} {fd : FuncData} (F : Fun K "__init__" "Reader.__init__" sInit f fd) (T : TxR0 K mg P w base C) : FnR P w K mg base CX0 5 f (spStar 1 (spInit K C)) := by
  obtain ⟨g, gd, mG, kG, bG, GG⟩ := T.line
  obtain ⟨q, qd, mQ, kQ, bQ, GQ⟩ := T.pairs
  obtain ⟨tl, mL⟩ := T.mxL
  obtain ⟨tt, mT⟩ := T.mxT
  refine okStar (ps := ["self"]) (pv := "lines") F scIn (fun kV doc pm an cdv ct => StX.bind_star1 (B := fun us => bindArgs _ ⟨us, []⟩) (p1 := "self") (pv := "lines") (fun a => rfl) (fun a r rs => rfl)) (fun cdv A outer s H vs Q E hr h => ?_)
  obtain ⟨x, dx, L, rs, rfl, hx, hL, ok, k⟩ := h
  have hr2 := hr.mono (show 2 ≤ 4 by decide)
  refine ⟨_, pss_cons (ps_if (pt_cmpR op_gt (pe_callB call_lenT (by rfl) T.len PySem.boot_len (pa_cons (pv 1) pa_nil)) (pe_glob (v := .int 16) (by rfl) mL ⟨_, rfl⟩) (nomark _)) (pss_one ps_never) pss_nil)
    (pss_cons (ps_if (pt_not (pt_val (pe_callB (cr_all rfl) (by rfl) T.all PyProof.Rows.boot_all (pa_cons (pe_lc (own := [("line", 2)]) (g := gName 2) (tt := tYes) (te := tCall (spLine K) [] E0 (tCons (tVar 2) (tCons (tCB (rLenT K) (tCons (tVar 1) tNil)) tNil))) rfl scIn.nd (pi_tup (pv 1))
        (blkOk_by (N := ["self", "lines", "line"]) (sc := defScope sInit) (by decide +kernel)) (fun _ _ _ _ _ => pg_name (i := 2) scIn.nd rfl (Or.inl rfl)) (fun _ _ _ _ _ => pts_nil)
        (fun _ _ _ _ _ => pe_call GG hr (by rfl) mG kG bG .nil pass0 (pa_cons (pv 2) (pa_cons (pe_callB call_lenT (by rfl) T.len PySem.boot_len (pa_cons (pv 1) pa_nil)) pa_nil)))) pa_nil)))) (pss_one ps_never) pss_nil)
    (pss_cons (ps_fld (pv 0) (pv 1) rfl)
    (pss_cons (ps_fld (pv 0) (pe_call GQ hr2 (by rfl) mQ kQ bQ .nil pass0 (pa_cons (pv 1) (pa_cons (pe_tup (pa_cons pe_str pa_nil)) pa_nil))) rfl)
    (pss_one (ps_if (pt_cmpR op_gt (pe_callB call_lenT (by rfl) T.len PySem.boot_len (pa_cons (pe_fld (pv 0) rfl) pa_nil)) (pe_glob (v := .int 6) (by rfl) mT ⟨_, rfl⟩) (nomark _)) (pss_one ps_never) pss_nil))))), ?_⟩
  refine ⟨_, rfl, L, _, rfl, hL.1, _, _, rfl, rfl, _, rfl, ?_⟩
  refine ite2 (fun z => absurd (of_decide_eq_true z) (by rw [List.length_map]; have := ok.few; omega)) (fun _ => ?_)
  refine ⟨_, rfl, L, rfl, ⟨_, hL.1⟩, fun D hD => ?_⟩
  have off : Off D (fun i acc (_ : Hp) => acc = (rs.take i).map fun _ => V.bl true) := fun _ _ _ _ _ _ _ z => z
  refine lc_fil walk_tup hD (fun i acc _ => acc = (rs.take i).map fun _ => V.bl true) (by simp) (fun H' s' => sqT_up hL.1 s') ?_ ?_
  · rintro i v acc H2 H3 hi s2 e2 rfl ⟨rfl, hv⟩
    rw [List.getElem?_map] at hv
    obtain ⟨r, hri, rfl⟩ := Option.map_eq_some_iff.mp hv
    have hr := sqT_up (hL.2 r (List.mem_of_getElem? hri)) s2
    have fr := ok.fine r (List.mem_of_getElem? hri)
    refine ⟨rfl, tt_yes ?_⟩
    refine ⟨_, rfl, _, rfl, L, _, rfl, sqT_up hL.1 s2, _, _, rfl, .inl ⟨r.2.d, ln_dp hr, fine_shaped fr, fine_mod fr, fun H4 s4 => ?_⟩⟩
    refine put_of hD off s2 e2 s4 ?_ ?_
    · rw [List.length_map, List.length_take, sizeLine_eq]; have := ok.few; omega
    · rw [List.length_map, fine_line fr, List.take_add_one, hri, List.map_append]; rfl
  · rintro acc H2 s2 e2 rfl
    refine ⟨D, rs.map fun _ => true, rfl, SqL.of (by rw [e2, List.length_map, List.take_length, List.map_map]; rfl), ?_⟩
    refine ⟨_, rfl, ?_⟩
    show (if (!((rs.map fun _ => true).all id)) = true then _ else _)
    rw [show ((rs.map fun _ => true).all id) = true by rw [List.all_map]; exact List.all_eq_true.mpr fun _ _ => rfl]
    refine iteF ?_
    have hx2 := s2 _ _ hx
    have kx : Keep x H2 (upd H2 x (.ins C dx (putF "_lines" (.ref L) []))) := keep_upd
    refine ⟨_, rfl, _, rfl, x, C, dx, [], rfl, hx2, T.cl, T.nL, (by show 0 < 1000; decide), ?_⟩
    have hL3 := (hL.up s2).off hx2 kx
    refine ⟨_, rfl, (by show 1 ≤ sizeLine; decide), fun t nt => ?_⟩
    have st := same_new (o := HO.tup [V.str "if"]) nt
    refine ⟨L, t, rs, ["if"], rfl, hL3.up st, SqT.of upd_same, (by decide +kernel), by have := ok.few; omega, fun H' p ps s' np hA hP => ?_⟩
    have hx4 := s' _ _ (st _ _ (show upd H2 x (.ins C dx (putF "_lines" (.ref L) [])) x = _ from upd_same))
    have k5 : Keep x H' (upd H' x (.ins C dx (putF "_tested" (.ref p) (putF "_lines" (.ref L) [])))) := keep_upd
    refine ⟨_, rfl, x, C, dx, _, rfl, hx4, T.cl, T.nT, (by show 1 < 1000; decide), ?_⟩
    rw [rd_flds] at k5 ⊢
    have hP5 := hP.off hx4 k5
    obtain ⟨prs, ep, hp1, hp2⟩ := id hP5
    refine ⟨_, rfl, x, C, dx, _, _, rfl, upd_same, T.cl, T.nT, rd_tested L p, p, _, rfl, hp1, _, _, rfl, rfl, _, rfl, ?_⟩
    refine ite2 (fun z => absurd (of_decide_eq_true z) (by have h6 := ok.six ps hA; rw [← ep, List.length_map] at h6; rw [List.length_map]; omega)) (fun _ => ?_)
    exact k _ p ps ((((same_keep s2).trans kx).trans (same_keep (st.trans s'))).trans k5) upd_same hA hP5
end
end Rd

namespace Rd
open PySem PySem.Spec PyProof.Rows L2 Tq Dn Dc
/-- a classmethod of the class at C, with its promise -/
abbrev HasC (P : Program) (w : World) (K : PySem.W.Frag) (mg : Str → Option Value) (base : Heap) (C : Addr) (m : Str) (k : Nat) (sp : Sp) : Prop :=
  ∃ mc p g, ClX.CRead K C mc ∧ ClX.CMet K C mc m p g ∧ FnR P w K mg base CX0 k g sp
def spReading (K : PySem.W.Frag) (C : Addr) : Sp := fun vs H Q _ => ∃ (t : Str) (a : Addr) (ps : List Str), vs = [.ref C, .str t, .ref a] ∧ SqT K H a (ps.map V.str) ∧ nameS t = true ∧ (∀ p ∈ ps, nameS p = true) ∧ ps.length ≤ 16 ∧
  ∀ H' r rs, Same H H' → H r = none → rs.map Prod.snd = ps.map (Ln.read t) → RdAt K C H' r rs → Q (.ref r) H'
structure TxR1 (K : PySem.W.Frag) (mg : Str → Option Value) (P : Program) (w : World) (base : Heap) (C : Addr) : Prop extends TxR0 K mg P w base C where
  made_ : ∃ f, Mk K C f ∧ FnR P w K mg base CX0 5 f (spStar 1 (spInit K C))
section
variable {P : Program} {w : World} {K : PySem.W.Frag} {mg : Str → Option Value} {base : Heap}
theorem plainR {k : Nat} {f : Addr} {fd : FuncData} {ps : List Str} {sp : Sp} (F : FnOk P w K mg base CX0 k f fd ps sp) (hb : Binds K fd ps []) : FnR P w K mg base CX0 k f sp :=
  (F.raw hb .nil).imp fun vs H Q E h => by rw [List.append_nil]; exact h
/-- a reader just made -/
theorem rd_new {C : Addr} {H' : Hp} {x dx L T : Addr} {rs : RowsL} {ps : List (List Str)} (e : H' x = some (.ins C dx (rdF L T))) (hL : LinesAt K H' L rs) (hA : Asc (keysOf ["if"] (rs.map Prod.snd)) ps) (hP : PairsAt K H' T ps) : RdAt K C H' x rs :=
  ⟨dx, L, T, ps, e, hL, hA, hP⟩
theorem scOf : FnScope ["cls", "lines"] ["cls", "lines"] (defScope sOf) := ⟨rfl, rfl, rfl, by decide +kernel, rfl, by decide +kernel, by decide +kernel⟩
theorem made_reader {C : Addr} {H : Hp} {Q : VK} {L : Addr} {rs : RowsL} (hL : ∀ r ∈ rs, SqT K H r.1 r.2.vs) (ok : RdOk rs) (k : ∀ H' r, Same H H' → H r = none → RdAt K C H' r rs → Q (.ref r) H') :
    ∀ x dx, H x = Option.none → H dx = Option.none → dx ≠ x → spStar 1 (spInit K C) (V.ref x :: (rs.map fun r => V.ref r.1)) (upd (upd H dx (.own x)) x (.ins C dx [])) (fun v H2 => v = .non ∧ Q (.ref x) H2) E0 := by
  intro x dx nx nd ne
  have s1 : Same H (upd (upd H dx (.own x)) x (.ins C dx [])) := same_to nx (same_new nd)
  refine ⟨[.ref x], _, rfl, rfl, by rw [List.length_map, sizeLine_eq]; have := ok.few; omega, fun p np => ?_⟩
  have s2 := same_new (o := HO.tup (rs.map fun r => V.ref r.1)) np
  refine ⟨x, dx, p, rs, rfl, s2 _ _ upd_same, ⟨SqT.of upd_same, fun r hr => sqT_up (hL r hr) (s1.trans s2)⟩, ok, fun H' T ps kp e hA hP => ⟨rfl, ?_⟩⟩
  have hx0 : upd (upd (upd H dx (.own x)) x (.ins C dx [])) p (HO.tup (rs.map fun r => V.ref r.1)) x = some (.ins C dx []) := s2 _ _ upd_same
  refine k H' x (fun b o hb => ?_) nx (rd_new e (LinesAt.off hx0 kp ⟨SqT.of upd_same, fun r hr => sqT_up (hL r hr) (s1.trans s2)⟩) hA hP)
  exact kp b o (ne_of_none hb nx) ((s1.trans s2) b o hb)
theorem ok_of {C f : Addr} {fd : FuncData} (F : Fun K "of" "Reader.of" sOf f fd) (T : TxR1 K mg P w base C) : FnOk P w K mg base CX0 7 f fd ["cls", "lines"] (spOf K C) := by
  obtain ⟨g, M, G⟩ := T.made_
  refine F.ok scOf (fun vs H Q E h => ?_) (fun cdv A outer s H vs Q E hr h => ?_)
  · obtain ⟨L, rs, rfl, _⟩ := h; rfl
  · obtain ⟨L, rs, rfl, hL, ok, k⟩ := h
    refine ⟨_, pss_cons (ps_if (pt_not (pt_val (pe_callB call_isi (by rfl) T.isi PyProof.Rows.boot_isinstance (pa_cons (pv 1) (pa_cons (pe_bltn (v := .ty "tuple") (by rfl) T.tuple PyProof.Rows.boot_tuple rfl) pa_nil))))) (pss_one ps_never) pss_nil)
      (pss_one (ps_ret (pe_makeS (i := 0) M G hr pass0 rfl (Or.inl rfl) (pv 1)))), ?_⟩
    refine ⟨_, rfl, .ref L, .ty "tuple", .type "tuple", .type "tuple", true, rfl, .ty _, dp_ty hL.dp, kit_ty (by decide +kernel), _, rfl, iteF ?_⟩
    exact ⟨rfl, _, rfl, L, _, rfl, .inl hL.1, made_reader (L := L) hL.2 ok k⟩
structure TxR2 (K : PySem.W.Frag) (mg : Str → Option Value) (P : Program) (w : World) (base : Heap) (C : Addr) : Prop extends TxR1 K mg P w base C where
  of_ : HasC P w K mg base C "of" 7 (spOf K C)
theorem keys_reads (t : Str) : ∀ ps : List Str, keysOf ["if"] (ps.map (Ln.read t)) = []
  | [] => rfl
  | p :: ps => by
    have ih := keys_reads t ps
    unfold keysOf at ih ⊢
    rw [List.map_cons, List.filter_cons_of_neg (a := Ln.read t p) (p := fun l => [("if" : Str)].contains l.word) (show ¬ ([("if" : Str)].contains ("read" : Str)) = true by decide +kernel)]
    exact ih
theorem asc_nil {ps : List (List Str)} (h : Asc [] ps) : ps = [] := by
  cases ps with
  | nil => rfl
  | cons p ps => exact absurd ((h.mem p).mp List.mem_cons_self) List.not_mem_nil
theorem reads_ok {t : Str} {ps : List Str} {rs : RowsL} (e : rs.map Prod.snd = ps.map (Ln.read t)) (ht : nameS t = true) (hp : ∀ p ∈ ps, nameS p = true) (few : ps.length ≤ 16) : RdOk rs := by
  have hl : rs.length = ps.length := by have := congrArg List.length e; simpa using this
  refine ⟨by omega, fun r hr => ?_, fun qs hq => ?_⟩
  · have : r.2 ∈ ps.map (Ln.read t) := by rw [← e]; exact List.mem_map_of_mem hr
    obtain ⟨p, h1, h2⟩ := List.mem_map.mp this
    rw [← h2]
    show (nameS t && nameS p) = true
    rw [ht, hp p h1]; rfl
  · rw [e, keys_reads] at hq
    rw [asc_nil hq]; decide
end
end Rd

namespace Rd
open PySem PySem.Spec PyProof.Rows L2 Tq Dn Dc
abbrev sLines : Stmt := inClass cReader 3
abbrev sTested : Stmt := inClass cReader 4
abbrev sPrs : Stmt := inClass cReader 5
abbrev sPlain : Stmt := inClass cReader 6
abbrev sReadings : Stmt := inClass cReader 7
abbrev sGet : Stmt := inClass cReader 14
abbrev sHas : Stmt := inClass cReader 15
abbrev sLen : Stmt := inClass cReader 17
abbrev sEq : Stmt := inClass cReader 18
abbrev sStr : Stmt := inClass cReader 19
abbrev sNeed : Stmt := inClass cReader 20
abbrev lnsOf (rs : RowsL) : List Ln := rs.map Prod.snd
def spPrs (K : PySem.W.Frag) (C : Addr) : Sp := fun vs H Q _ => ∃ (r : Addr) (rs : RowsL), vs = [.ref r] ∧ RdAt K C H r rs ∧ RdOk rs ∧ ∀ H' p ps, Same H H' → H p = none → Asc (keysOf ["read", "look", "if"] (lnsOf rs)) ps → PairsAt K H' p ps → Q (.ref p) H'
def spPlain (K : PySem.W.Frag) (C : Addr) : Sp := fun vs H Q _ => ∃ (r : Addr) (rs : RowsL), vs = [.ref r] ∧ RdAt K C H r rs ∧ RdOk rs ∧ ∀ H', Same H H' → Q (.bl ((lnsOf rs).all fun l => decide (l.word = "read"))) H'
def spLen (K : PySem.W.Frag) (C : Addr) : Sp := fun vs H Q _ => ∃ (r : Addr) (rs : RowsL), vs = [.ref r] ∧ RdAt K C H r rs ∧ Q (.int (rs.length : Int)) H
/-- what isinstance asks of the class -/
structure TxI (K : PySem.W.Frag) (C : Addr) : Prop where
  ha : PySem.W.findIn K (.ref C) "__class__" = some (some (.builtin "object.__class__"))
  hn : PySem.W.specialIn K (.builtin "object.__class__") "__get__" = some (some (.builtin "getset_descriptor.__get__"))
  htk : PySem.W.takesIn K (.builtin "object.__class__") = some true
  hm : PySem.W.mroIn K C (.type "object") = some true
  self : PySem.W.kitOne K (.ref C) (.ref C) = some true
  no : ∀ t ∈ tys, PySem.W.kitOne K (.type t) (.ref C) = some false
/-- another value than a reader, and no instance -/
def NoRd (K : PySem.W.Frag) (H : Hp) (v : V) : Prop := ∃ t, t ∈ tys ∧ TyX K H v (.type t)
theorem dp_no {K : PySem.W.Frag} {H : Hp} {v : V} {d : PyData} (h : Dp K H v d) : NoRd K H v := ⟨_, mem_ty d, dp_ty h⟩
def spEqR (K : PySem.W.Frag) (C : Addr) : Sp := fun vs H Q _ => ∃ (r : Addr) (rs : RowsL) (v : V), vs = [.ref r, v] ∧ RdAt K C H r rs ∧ RdOk rs ∧
  ((∃ b ss, v = .ref b ∧ RdAt K C H b ss ∧ RdOk ss ∧ Q (.bl (decide (lnsOf rs = lnsOf ss))) H) ∨ (NoRd K H v ∧ Q (.bl false) H))
def spHas (K : PySem.W.Frag) (C : Addr) : Sp := fun vs H Q _ => ∃ (r : Addr) (rs : RowsL) (v : V), vs = [.ref r, v] ∧ RdAt K C H r rs ∧ RdOk rs ∧
  ((∃ d, Dp K H v d ∧ SeqAt.shaped d = true ∧ Mod_ d ∧ ∀ H', Same H H' → Q (.bl (lineD d rs.length && (lnsOf rs).any fun l => PyData.eqv l.d d)) H') ∨ (TyX K H v (.type "dict") ∧ Q (.bl false) H))
def rdText (n m : Nat) : Str := (((("reader of " : Str) ++ toString (n : Int)) ++ (" lines, " : Str)) ++ toString (m : Int)) ++ (" tested" : Str)
def spStr (K : PySem.W.Frag) (C : Addr) : Sp := fun vs H Q _ => ∃ (r : Addr) (rs : RowsL), vs = [.ref r] ∧ RdAt K C H r rs ∧ RdOk rs ∧ ∀ ps, Asc (keysOf ["if"] (lnsOf rs)) ps → Q (.str (rdText rs.length ps.length)) H
section
variable {P : Program} {w : World} {K : PySem.W.Frag} {mg : Str → Option Value} {base : Heap}
theorem sc1 {st : Stmt} (h : FnScope ["self"] ["self"] (defScope st)) : FnScope ["self"] ["self"] (defScope st) := h
theorem scLs : FnScope ["self"] ["self"] (defScope sLines) := ⟨rfl, rfl, rfl, by decide +kernel, rfl, by decide +kernel, by decide +kernel⟩
theorem scTs : FnScope ["self"] ["self"] (defScope sTested) := ⟨rfl, rfl, rfl, by decide +kernel, rfl, by decide +kernel, by decide +kernel⟩
theorem ok_lines {C f : Addr} {fd : FuncData} (F : Fun K "lines" "Reader.lines" sLines f fd) (T : TxR0 K mg P w base C) : FnOk P w K mg base CX0 1 f fd ["self"] (getSp C "_lines") := by
  refine F.ok scLs (fun vs H Q E h => ?_) (fun cdv A outer s H vs Q E hr h => ?_)
  · obtain ⟨a, dx, fs, v, rfl, _⟩ := h; rfl
  · obtain ⟨a, dx, fs, v, rfl, ea, l, q⟩ := h
    exact ⟨_, pss_one (ps_ret (pe_fld (pv 0) rfl)), ⟨_, rfl, a, C, dx, fs, v, rfl, ea, T.cl, T.nL, l, q⟩⟩
theorem ok_tested {C f : Addr} {fd : FuncData} (F : Fun K "tested" "Reader.tested" sTested f fd) (T : TxR0 K mg P w base C) : FnOk P w K mg base CX0 1 f fd ["self"] (getSp C "_tested") := by
  refine F.ok scTs (fun vs H Q E h => ?_) (fun cdv A outer s H vs Q E hr h => ?_)
  · obtain ⟨a, dx, fs, v, rfl, _⟩ := h; rfl
  · obtain ⟨a, dx, fs, v, rfl, ea, l, q⟩ := h
    exact ⟨_, pss_one (ps_ret (pe_fld (pv 0) rfl)), ⟨_, rfl, a, C, dx, fs, v, rfl, ea, T.cl, T.nT, l, q⟩⟩
theorem scPs : FnScope ["self"] ["self"] (defScope sPrs) := ⟨rfl, rfl, rfl, by decide +kernel, rfl, by decide +kernel, by decide +kernel⟩
theorem ok_prs {C f : Addr} {fd : FuncData} (F : Fun K "pairs" "Reader.pairs" sPrs f fd) (T : TxR0 K mg P w base C) : FnOk P w K mg base CX0 3 f fd ["self"] (spPrs K C) := by
  obtain ⟨q, qd, mQ, kQ, bQ, GQ⟩ := T.pairs
  refine F.ok scPs (fun vs H Q E h => ?_) (fun cdv A outer s H vs Q E hr h => ?_)
  · obtain ⟨r, rs, rfl, _⟩ := h; rfl
  · obtain ⟨r, rs, rfl, ⟨dx, L, TT, ps, e, hL, _⟩, ok, k⟩ := h
    refine ⟨_, pss_one (ps_ret (pe_call GQ hr (by rfl) mQ kQ bQ .nil pass0 (pa_cons (pe_fld (pv 0) rfl) (pa_cons (pe_tup (pa_cons pe_str (pa_cons pe_str (pa_cons pe_str pa_nil)))) pa_nil)))), ?_⟩
    refine ⟨_, rfl, r, C, dx, _, _, rfl, e, T.cl, T.nL, rd_lines L TT, (by show 3 ≤ sizeLine; decide), fun t nt => ?_⟩
    have st := same_new (o := HO.tup [V.str "read", V.str "look", V.str "if"]) nt
    exact ⟨L, t, rs, ["read", "look", "if"], rfl, hL.up st, SqT.of upd_same, (by decide +kernel), by have := ok.few; omega, fun H' p qs s' np hA hP => k H' p qs (st.trans s') (st.free np) hA hP⟩
theorem scPl : FnScope ["self", "line"] ["self"] (defScope sPlain) := ⟨rfl, rfl, rfl, by decide +kernel, rfl, by decide +kernel, by decide +kernel⟩
theorem ok_plain {C f : Addr} {fd : FuncData} (F : Fun K "is_plain" "Reader.is_plain" sPlain f fd) (T : TxR0 K mg P w base C) : FnOk P w K mg base CX0 1 f fd ["self"] (spPlain K C) := by
  refine F.ok scPl (fun vs H Q E h => ?_) (fun cdv A outer s H vs Q E hr h => ?_)
  · obtain ⟨r, rs, rfl, _⟩ := h; rfl
  · obtain ⟨r, rs, rfl, ⟨dx, L, TT, ps, e, hL, _⟩, ok, k⟩ := h
    refine ⟨_, pss_one (ps_ret (pe_callB (cr_all rfl) (by rfl) T.all PyProof.Rows.boot_all (pa_cons (pe_lc (own := [("line", 1)]) (g := gName 1) (tt := tYes) (te := tOp rEq (tOp (rIxT K) (tVar 1) (tC (.int 0))) (tC (.str "read"))) rfl scPl.nd (pi_tup (pe_fld (pv 0) rfl))
        (blkOk_by (N := ["self", "line"]) (sc := defScope sPlain) (by decide +kernel)) (fun _ _ _ _ _ => pg_name (i := 1) scPl.nd rfl (Or.inl rfl)) (fun _ _ _ _ _ => pts_nil)
        (fun _ _ _ _ _ => pe_cmpR op_eq (pe_ix ix_tup (pv 1) pe_int (fun _ _ => rfl)) pe_str (nomark _))) pa_nil))), ?_⟩
    refine ⟨_, rfl, r, C, dx, _, _, rfl, e, T.cl, T.nL, rd_lines L TT, L, rfl, ⟨_, hL.1⟩, fun D hD => ?_⟩
    have off : Off D (fun i acc (_ : Hp) => acc = (rs.take i).map fun r => V.bl (decide (r.2.word = ("read" : Str)))) := fun _ _ _ _ _ _ _ z => z
    refine lc_fil walk_tup hD (fun i acc _ => acc = (rs.take i).map fun r => V.bl (decide (r.2.word = ("read" : Str)))) (by simp) (fun H' s' => sqT_up hL.1 s') ?_ ?_
    · rintro i v acc H2 H3 hi s2 e2 rfl ⟨rfl, hv⟩
      rw [List.getElem?_map] at hv
      obtain ⟨q, hq, rfl⟩ := Option.map_eq_some_iff.mp hv
      refine ⟨rfl, tt_yes ?_⟩
      refine ⟨_, rfl, q.1, _, _, _, rfl, rfl, sqT_up (hL.2 q (List.mem_of_getElem? hq)) s2, atI_nat (j := 0) (ln_word q.2), rfl, ?_⟩
      refine put_of hD off s2 e2 (Same.refl _) (by rw [List.length_map, List.length_take, sizeLine_eq]; have := ok.few; omega) ?_
      rw [List.take_add_one, hq, List.map_append]
      congr 1
      show [V.bl (decide (V.str q.2.word = V.str "read"))] = [V.bl (decide (q.2.word = ("read" : Str)))]
      simp
    · rintro acc H2 s2 e2 rfl
      refine ⟨D, rs.map fun r => decide (r.2.word = ("read" : Str)), rfl, SqL.of (by rw [e2, List.length_map, List.take_length, List.map_map]; rfl), ?_⟩
      have := k _ s2
      rw [lnsOf, List.all_map] at this
      rw [List.all_map]
      exact this
theorem scLe : FnScope ["self"] ["self"] (defScope sLen) := ⟨rfl, rfl, rfl, by decide +kernel, rfl, by decide +kernel, by decide +kernel⟩
theorem ok_len {C f : Addr} {fd : FuncData} (F : Fun K "__len__" "Reader.__len__" sLen f fd) (T : TxR0 K mg P w base C) : FnOk P w K mg base CX0 1 f fd ["self"] (spLen K C) := by
  refine F.ok scLe (fun vs H Q E h => ?_) (fun cdv A outer s H vs Q E hr h => ?_)
  · obtain ⟨r, rs, rfl, _⟩ := h; rfl
  · obtain ⟨r, rs, rfl, ⟨dx, L, TT, ps, e, hL, _⟩, k⟩ := h
    refine ⟨_, pss_one (ps_ret (pe_callB call_lenT (by rfl) T.len PySem.boot_len (pa_cons (pe_fld (pv 0) rfl) pa_nil))), ?_⟩
    refine ⟨_, rfl, r, C, dx, _, _, rfl, e, T.cl, T.nL, rd_lines L TT, L, _, rfl, hL.1, ?_⟩
    rw [List.length_map]; exact k
theorem lns_safe {rs : RowsL} (ok : RdOk rs) : ∀ l ∈ lnsOf rs, l.safe := fun l hl => by
  obtain ⟨r, hr, rfl⟩ := List.mem_map.mp hl
  exact fine_safe (ok.fine r hr)
theorem scEq : FnScope ["self", "other"] ["self", "other"] (defScope sEq) := ⟨rfl, rfl, rfl, by decide +kernel, rfl, by decide +kernel, by decide +kernel⟩
theorem ok_eq {C f : Addr} {fd : FuncData} (F : Fun K "__eq__" "Reader.__eq__" sEq f fd) (T : TxR0 K mg P w base C) (I : TxI K C) : FnOk P w K mg base CX0 1 f fd ["self", "other"] (spEqR K C) := by
  refine F.ok scEq (fun vs H Q E h => ?_) (fun cdv A outer s H vs Q E hr h => ?_)
  · obtain ⟨r, rs, v, rfl, _⟩ := h; rfl
  · obtain ⟨r, rs, v, rfl, ⟨dx, L, TT, ps, e, hL, _⟩, ok, k⟩ := h
    refine ⟨_, pss_one (ps_ret (pe_and (pe_callB call_isi (by rfl) T.isi PyProof.Rows.boot_isinstance (pa_cons (pv 1) (pa_cons (pe_glob (v := .ref C) (by rfl) T.mgC rfl) pa_nil)))
      (pe_one (pe_cmpR (op_eqD hr.units) (pe_fld (pv 0) rfl) (pe_fld (pv 1) rfl) (nomark _))))), ?_⟩
    rcases k with ⟨b, ss, rfl, ⟨dx2, L2, TT2, ps2, e2, hL2, _⟩, ok2, k⟩ | ⟨⟨t, ht, ty⟩, k⟩
    · refine ⟨_, rfl, .ref b, .ref C, .ref C, .ref C, true, rfl, .own C, .base (.ins e2 T.cl I.ha I.hn I.htk I.hm), I.self, _, rfl, iteT ?_⟩
      refine ⟨_, rfl, r, C, dx, _, _, rfl, e, T.cl, T.nL, rd_lines L TT, _, rfl, b, C, dx2, _, _, rfl, e2, T.cl, T.nL, rd_lines L2 TT2, ?_⟩
      refine ⟨_, _, hL.dp, hL2.dp, dls_shaped (lns_safe ok), dls_shaped (lns_safe ok2), ?_⟩
      rw [dls_eqv]
      exact k
    · exact ⟨_, rfl, v, .ref C, .type t, .ref C, false, rfl, .own C, ty, I.no t ht, _, rfl, iteF k⟩
theorem scHa : FnScope ["self", "x"] ["self", "x"] (defScope sHas) := ⟨rfl, rfl, rfl, by decide +kernel, rfl, by decide +kernel, by decide +kernel⟩
theorem ok_has {C f : Addr} {fd : FuncData} (F : Fun K "__contains__" "Reader.__contains__" sHas f fd) (T : TxR0 K mg P w base C) : FnOk P w K mg base CX0 5 f fd ["self", "x"] (spHas K C) := by
  obtain ⟨g, gd, mG, kG, bG, GG⟩ := T.line
  refine F.ok scHa (fun vs H Q E h => ?_) (fun cdv A outer s H vs Q E hr h => ?_)
  · obtain ⟨r, rs, v, rfl, _⟩ := h; rfl
  · obtain ⟨r, rs, v, rfl, ⟨dx, L, TT, ps, e, hL, _⟩, ok, k⟩ := h
    have hu65 : (A.deeper (envOfC (Str.ofString "Reader.__contains__") (defScope sHas) s.heap.objs.size f cdv)).units + 65 < cLine := by have := hr.un; omega
    refine ⟨_, pss_one (ps_ret (pe_and (pe_call GG hr (by rfl) mG kG bG .nil pass0 (pa_cons (pv 1) (pa_cons (pe_callB call_lenT (by rfl) T.len PySem.boot_len (pa_cons (pe_fld (pv 0) rfl) pa_nil)) pa_nil)))
      (pe_one (pe_cmpR (op_inDT hu65) (pv 1) (pe_fld (pv 0) rfl) (by rfl))))), ?_⟩
    refine ⟨_, rfl, _, rfl, r, C, dx, _, _, rfl, e, T.cl, T.nL, rd_lines L TT, L, _, rfl, hL.1, v, _, rfl, ?_⟩
    rw [List.length_map]
    rcases k with ⟨d, hd, sd, md, k⟩ | ⟨ty, k⟩
    · refine .inl ⟨d, hd, sd, md, fun H' s' => ⟨_, rfl, ?_⟩⟩
      have k' := k H' s'
      refine ite2 (fun c => ?_) (fun c => ?_)
      · refine ⟨_, rfl, _, rfl, r, C, dx, _, _, rfl, s' _ _ e, T.cl, T.nL, rd_lines L TT, d, _, dp_up s' hd, (hL.up s').dp, sd, lns_lay _ (lns_safe ok), ?_⟩
        rw [c, Bool.true_and] at k'
        rw [Bool.bne_false, List.any_map]
        exact k'
      · rw [Bool.not_eq_true _ |>.mp c, Bool.false_and] at k'
        exact k'
    · exact .inr ⟨ty, _, rfl, iteF k⟩
theorem scSt : FnScope ["self"] ["self"] (defScope sStr) := ⟨rfl, rfl, rfl, by decide +kernel, rfl, by decide +kernel, by decide +kernel⟩
theorem num_few : ∀ n : Nat, n < 17 → (toString (n : Int) : Str).length ≤ 2 ∧ (n : Int).natAbs.log2 < 1920 := by decide +kernel
theorem app_len (x y : Str) : (x ++ y).length = x.length + y.length := by
  show (x.cps ++ y.cps).size = _
  rw [Array.size_append]; rfl
theorem emp_app (x : Str) : Str.empty ++ x = x := by
  show Str.mk (Str.empty.cps ++ x.cps) = x
  have : Str.empty.cps = #[] := rfl
  rw [this, Array.empty_append]
theorem ok_str {C f : Addr} {fd : FuncData} (F : Fun K "__str__" "Reader.__str__" sStr f fd) (T : TxR0 K mg P w base C) : FnOk P w K mg base CX0 1 f fd ["self"] (spStr K C) := by
  refine F.ok scSt (fun vs H Q E h => ?_) (fun cdv A outer s H vs Q E hr h => ?_)
  · obtain ⟨r, rs, rfl, _⟩ := h; rfl
  · obtain ⟨r, rs, rfl, ⟨dx, L, TT, ps, e, hL, hA, hP⟩, ok, k⟩ := h
    refine ⟨_, pss_one (ps_ret (pe_joined (.cons pe_str (.cons (pe_fmt (pe_callB call_lenT (by rfl) T.len PySem.boot_len (pa_cons (pe_fld (pv 0) rfl) pa_nil))) (.cons pe_str (.cons (pe_fmt (pe_callB call_lenT (by rfl) T.len PySem.boot_len (pa_cons (pe_fld (pv 0) rfl) pa_nil))) (.cons pe_str .nil))))))), ?_⟩
    have n1 := num_few rs.length (by have := ok.few; omega)
    have n2 := num_few ps.length (by have := ok.six ps hA; omega)
    obtain ⟨prs, ep, hp1, hp2⟩ := id hP
    have el : (prs.map fun r => V.ref r.1).length = ps.length := by rw [← ep, List.length_map, List.length_map]
    have l1 : (("reader of " : Str)).length = 10 := by decide +kernel
    have l2 : ((" lines, " : Str)).length = 8 := by decide +kernel
    have l3 : ((" tested" : Str)).length = 7 := by decide +kernel
    refine ⟨_, rfl, by rw [emp_app, l1, sizeLine_eq]; omega, _, rfl, r, C, dx, _, _, rfl, e, T.cl, T.nL, rd_lines L TT, L, _, rfl, hL.1, .inr ⟨_, rfl, by rw [List.length_map]; exact n1.2, _, rfl, ?_, ?_⟩⟩
    · rw [emp_app, app_len, List.length_map, l1, sizeLine_eq]; omega
    · refine ⟨_, rfl, ?_, _, rfl, r, C, dx, _, _, rfl, e, T.cl, T.nT, rd_tested L TT, TT, _, rfl, hp1, .inr ⟨_, rfl, by rw [el]; exact n2.2, _, rfl, ?_, ?_⟩⟩
      · rw [emp_app, app_len, app_len, List.length_map, l1, l2, sizeLine_eq]; omega
      · rw [emp_app, app_len, app_len, app_len, el, List.length_map, l1, l2, sizeLine_eq]; omega
      · refine ⟨_, rfl, ?_, ?_⟩
        · rw [emp_app, app_len, app_len, app_len, app_len, el, List.length_map, l1, l2, l3, sizeLine_eq]; omega
        · rw [emp_app, el, List.length_map]
          exact k ps hA
end
end Rd

namespace Ox
open PySem PySem.Spec PyProof.Rows L2
/-- isinstance(a, c), a an exception that is pinned, of the class at D, with the dict d -/
def rIsP (K : PySem.W.Frag) (D a : Addr) (d : Option Addr) : List V → Hp → VK → Prop := fun xs H Q => ∃ (c : V) (cv : Value) (b : Bool), xs = [.ref a, c] ∧ (∀ u, RelV c u → u = cv) ∧ PySem.W.kitOne K (.ref D) cv = some b ∧ (∀ dd, d = some dd → ∃ fs, H dd = some (.xd fs)) ∧ Q (.bl b) H
theorem call_isP {X : Cx} {a D : Addr} {oe : Obj} {d : Option Addr} (C : ExcC X.K D) (hp : (a, oe) ∈ X.pn) (hz : Zc (.ref D) d oe) (hf : ∃ vs, oe.data = .fields vs) : CallR X (.builtin "isinstance") (rIsP X.K D a d) := by
  intro pins s σ H xs us Q I r h; obtain ⟨c, cv, b, rfl, hcv, e, hd, q⟩ := h; obtain ⟨u1, u2, rfl, r1, r2⟩ := vals2 r
  cases (show u1 = Value.ref a from r1); have ec := hcv _ r2; subst ec; obtain ⟨hget, _⟩ := I.pin (a, oe) (List.mem_append.mpr (.inl hp)); obtain ⟨vs, hv⟩ := hf
  have hcl : (PySem.W.clsIn X.K D).isSome = true := by
    obtain ⟨cd, hc, _⟩ := PySem.W.any_some C.hd
    rw [hc]; rfl
  obtain ⟨od, J⟩ : ∃ od, PySem.W.InstAt s.heap a oe D od := by
    cases d with
    | none => exact ⟨none, hget, hz.1, by (unfold PySem.W.notCls; rw [hv] <;> rfl), by (rw [hz.2]; trivial)⟩
    | some dd =>
      obtain ⟨fs, e1⟩ := hd dd rfl; have hx : ObjOk X.prog X.w H s.heap dd (.xd fs) := I.hok dd _ e1; obtain ⟨mA, hns, hr⟩ := hx; obtain ⟨od, ho, hl⟩ := lookIn_ns hns
      exact ⟨some od, hget, hz.1, by (unfold PySem.W.notCls; rw [hv] <;> rfl), by (rw [hz.2]; exact ho)⟩
  exact PySem.W.kia_one (PySem.W.kitx_exc hcl C.hg C.hk C.hs C.ha C.hn C.ht C.hm) I.kIn J e (fun z => nomatch z) fun tk => ⟨.bl b, H, I.kept (t' := tk) fun _ _ z => z, rfl, q⟩

/-- .. where the class is told by the question -/
def rIsX (K : PySem.W.Frag) (cls : Value) (a : Addr) (d : Option Addr) : List V → Hp → VK → Prop := fun xs H Q => ∃ D, cls = .ref D ∧ ExcC K D ∧ rIsP K D a d xs H Q
theorem call_isX {X : Cx} {a : Addr} {cls : Value} {oe : Obj} {d : Option Addr} (hp : (a, oe) ∈ X.pn) (hz : Zc cls d oe) (hf : ∃ vs, oe.data = .fields vs) : CallR X (.builtin "isinstance") (rIsX X.K cls a d) := by
  intro pins s σ H xs us Q I r h; obtain ⟨D, rfl, EC, h⟩ := h
  exact call_isP EC hp hz hf pins s σ H xs us Q I r h
/-! ### a def that is handed the exception which the suite holds -/
structure FnP (P : Program) (w : World) (K : PySem.W.Frag) (mg : Str → Option Value) (base : Heap) (CX : CXT) (k : Nat) (f : Addr) (fd : FuncData) (ps : List Str) (sp : Addr → Value → Option Addr → Sp) : Prop where
  len : ∀ a cls d vs H Q E, sp a cls d vs H Q E → vs.length = ps.length
  run : ∀ (p : Addr × Obj) (cls : Value) (d : Option Addr), Zc cls d p.2 → (∃ vs, p.2.data = .fields vs) → ∀ (A : Around) (outer : List Env) (s : Shared) (H : Hp) (args : Args) (us : List Value) (vs : List V) (Q : VK) (E : XK), L2H.RoomH k A → L2H.PinOk outer H s p → Env0 P w K mg base A outer s H → BindsTo s fd args (ps.zip us) → Vals vs us → sp p.1 cls d vs H Q E →
    codeAny (model P w) A (.call (.ref f) args) (CR CX outer P w H s Q E) s
theorem fn_ofP {CX : CXT} {P : Program} {w : World} {K : PySem.W.Frag} {mg : Str → Option Value} {base : Heap} {k : Nat} {f : Addr} {name qual : Str} {params : Arguments} {body : List Stmt} {scope : Scope} {dV kV doc pm cdv ct oc : Value} {an od : Option Addr} {osl : Array (Option Value)} {N ps : List Str} {sp : Addr → Value → Option Addr → Sp}
    (lk : K.lookup f = some ⟨oc, od, .func (PySem.W.fnOf name qual params body scope dV kV doc pm an cdv ct), osl⟩) (hcd : PySem.W.codeIn K cdv qual = true) (S : FnScope N ps scope) (len : ∀ a cls d vs H Q E, sp a cls d vs H Q E → vs.length = ps.length)
    (hbody : ∀ (p : Addr × Obj) (cls : Value) (d : Option Addr), Zc cls d p.2 → (∃ vs, p.2.data = .fields vs) → ∀ (A : Around) (outer : List Env) (s : Shared) (H : Hp) (vs : List V) (Q : VK) (E : XK), L2H.RoomH k (A.deeper (envOfC qual scope s.heap.objs.size f cdv)) → sp p.1 cls d vs H Q E →
      ∃ t, PSs (L2H.cxH CX P w K mg base N qual scope f cdv A outer s H E p) body t ∧ t { nx := fun _ H' => Q .non H', rt := Q } (L2.start N vs) H) : FnP P w K mg base CX (k + 1) f (PySem.W.fnOf name qual params body scope dV kV doc pm an cdv ct) ps sp := by
  refine ⟨len, fun p cls d hz hf A outer s H args us vs Q E hr hpin e0 hb r hsp => ?_⟩; have hl := len _ _ _ _ _ _ _ hsp
  have KX : K.In s.heap := e0.mod.kin.keeps fun b o e => (e0.bs b o e).1; have lim : s.heap.NoLimit := e0.mod.nolimit.keeps fun b o e => (e0.bs b o e).1
  have hkind : ∀ y ∈ ps.zip us, scope.names.lookup y.1 = some .local ∨ (scope.names.lookup y.1 = some .cell ∧ ((cellsFrom (s.heap.objs.size + 1) scope.names []).lookup y.1).isSome = true) := fun ⟨n, v⟩ hy => (S.par n (List.of_mem_zip hy).1).elim .inl fun q => .inr ⟨q, PySem.W.cellsFrom_some _ _ _ (.inl q)⟩
  refine codeAny_call_function hr.depth (KX _ _ lk) rfl S.co S.gen rfl (PySem.W.codeRec_of KX hcd) (hb _ _ _ _ ?_); refine wpAny_newFunctionEnv_cells S.kind hkind fun env he s1 x => ?_
  subst he; refine ⟨lim.keeps x.toInCall.keep, codeAny_func ?_⟩; obtain ⟨t, ht, hq⟩ := hbody p cls d hz hf A outer s H vs Q E (hr.deeper _) hsp
  have I : Inv (L2H.cxH CX P w K mg base N qual scope f cdv A outer s H E p) [] (L2.start N vs) H s1 := L2H.inv_startH S hpin e0 hl r x
  refine wpAny_mono (ht.run [] s1 (L2.start N vs) H _ I hq) (fun fl s' hs => ?_) fun e s' hs => hs
  have fin : ∀ {σ' : L2.St} {H' : Hp} {v : V} {u : Value}, Inv (L2H.cxH CX P w K mg base N qual scope f cdv A outer s H E p) [] σ' H' s' → RelV v u → Q v H' → CE outer P w H s Q u s' := fun {σ' H' v u} J rv q => ⟨v, H', J.os, J.bare, J.base, J.hok, rv, q⟩
  cases fl with
  | ret u => obtain ⟨v, σ', H', J, rv, q⟩ := hs; exact fin J rv q
  | next => obtain ⟨σ', H', J, q⟩ := hs; exact fin (v := V.non) (u := Value.none) J rfl q
  | brk => obtain ⟨_, _, _, q⟩ := hs; exact False.elim q
  | cont => obtain ⟨_, _, _, q⟩ := hs; exact False.elim q
theorem _root_.L2.Fun.okP {P : Program} {w : World} {K : PySem.W.Frag} {mg : Str → Option Value} {base : Heap} {x qual : Str} {st : Stmt} {f : Addr} {fd : FuncData} {N ps : List Str} {k : Nat} {sp : Addr → Value → Option Addr → Sp} (F : Fun K x qual st f fd) (S : FnScope N ps (defScope st)) (len : ∀ a cls d vs H Q E, sp a cls d vs H Q E → vs.length = ps.length)
    (hbody : ∀ (cdv : Value) (p : Addr × Obj) (cls : Value) (d : Option Addr), Zc cls d p.2 → (∃ vs, p.2.data = .fields vs) → ∀ (A : Around) (outer : List Env) (s : Shared) (H : Hp) (vs : List V) (Q : VK) (E : XK), L2H.RoomH k (A.deeper (envOfC qual (defScope st) s.heap.objs.size f cdv)) → sp p.1 cls d vs H Q E →
      ∃ t, PSs (L2H.cxH CX0 P w K mg base N qual (defScope st) f cdv A outer s H E p) (defBody st) t ∧ t { nx := fun _ H' => Q .non H', rt := Q } (L2.start N vs) H) : FnP P w K mg base CX0 (k + 1) f fd ps sp := by
  obtain ⟨oc, od, kV, doc, pm, an, cdv, ct, osl, rfl, lk, hcd⟩ := F.ex
  exact fn_ofP lk hcd S len fun p cls d hz hf A outer s H vs Q E hr h => hbody cdv p cls d hz hf A outer s H vs Q E hr h
section
variable {X : Cx} {k : Nat} {f : Addr} {fd : FuncData} {ps : List Str} {sp : Addr → Value → Option Addr → Sp} {x : Str} {p q pos : Pos} {e : Expr} {es : List Expr} {t : TA}
def tCallP (sp : Addr → Value → Option Addr → Sp) (a : Addr) (cls : Value) (d : Option Addr) (t : TA) : TE := fun σ H Q => t σ H fun vs H1 => sp a cls d vs H1 Q E0
theorem pe_callP {pn : Addr × Obj} {cls : Value} {d : Option Addr} (hz : Zc cls d pn.2) (hf : ∃ vs, pn.2.data = .fields vs) (F : FnP X.prog X.w X.K X.mg X.base CX0 k f fd ps sp) (hr : L2H.RoomH k X.A) (hp : pn ∈ X.pn) (hg : Gl X x) (hm : X.mg x = some (.ref f)) (hk : PySem.W.keepIn X.K (.ref f) = true) (hb : Binds X.K fd ps [])
    (ha : PA X (e :: es) t) (hdb : (x == ("__debug__" : Str)) = false := by decide) (he : starEach (e :: es) X.env = (false, eval e X.env) :: starEach es X.env := by rfl) (hpl : (backTo pos (starEach es X.env)).any (·.1) = false := by rfl) : PE X (.Call (.Name x q) (e :: es) [] pos) (tCallP sp pn.1 cls d t) := by
  refine ⟨fun pins s σ H Q I h => ?_⟩; refine wpAny_Call_Name_kw (ld_glob I hg hm ?_ hdb)
  refine PySem.W.callWith_K (h₀ := X.base) I.ok.mod.kin hk (thn (ha.run pos pins s σ H _ I h) fun us s1 ⟨vs, H1, I1, r, h1⟩ => ⟨I1.kIn, ?_⟩) he hpl
  have hl : us.length = ps.length := by (rw [← r.length]; exact F.len _ _ _ _ _ _ _ h1)
  have b := hb s1 us I1.kIn (by (rw [List.append_nil]; exact hl)); rw [List.append_nil] at b
  have P1 := I1.pin pn (List.mem_append_left _ hp); have hpin : L2H.PinOk X.stack H1 s1 pn := ⟨P1.1, P1.2.1, fun hm => (List.mem_cons.mp (I1.stkSub pn.1 hm)).elim P1.2.2.1 P1.2.2.2.1, P1.2.2.2.2⟩
  refine wpAny_call (codeAny_mono (F.run pn cls d hz hf X.A X.stack s1 H1 ⟨us, []⟩ us vs Q E0 hr hpin I1.env0 b r h1) fun r s' hq => ?_)
  cases r with
  | error e => exact False.elim hq
  | ok fl =>
    cases fl with
    | ret u => exact I1.after hq
    | next => exact False.elim hq
    | brk => exact False.elim hq
    | cont => exact False.elim hq
end
end Ox

namespace Ox
open PySem PySem.Spec PyProof.Rows L2 L2H
/-- a comprehension's block within an except suite: the pins stay -/
abbrev blkP (X : Cx) (s : Shared) (H : Hp) (scope : Scope) (cenv : Env) (fp : List Addr) : Cx := { X.blk s H scope cenv fp with pn := X.pn }
theorem okP {X : Cx} {s : Shared} {H : Hp} {scope : Scope} {cenv : Env} {fp : List Addr} (ok : (X.blk s H scope cenv fp).Ok) : (blkP X s H scope cenv fp).Ok :=
  ⟨ok.mod, ok.kind, ok.glob, ok.blt, ok.above, ok.inj, ok.has, ok.cab, ok.hd, ok.frames, ok.stk, ok.exf, ok.bs, ok.bsz, ok.noex, ok.exfs, ok.funs, ok.frf⟩
theorem blkP_start {X : Cx} {pins : List (Addr × Obj)} {σ σ' : L2.St} {H H0 H' : Hp} {s s' sb : Shared} {scope : Scope} {cenv : Env} {fp : List Addr} (I : Inv X pins σ H s) (hk : ∀ b o, s.heap.get? b = some o → H b = none → s'.heap.get? b = some o ∧ H' b = none) (hL : cenv.locals = s.heap.objs.size)
    (J : Inv (X.blk sb H0 scope cenv fp) [] σ' H' s') : Inv (blkP X sb H0 scope cenv fp) [] σ' H' s' := by
  refine ⟨okP J.ok, J.os, J.bare, J.base, J.loc, J.cell, J.free, J.freeC, fun p hp => ?_, J.hok, J.len⟩
  have hp' : p ∈ X.pn := by simpa using hp
  obtain ⟨e, n, ne, nf, d⟩ := I.pin p (List.mem_append_left _ hp'); obtain ⟨e2, n2⟩ := hk _ _ e n
  refine ⟨e2, n2, fun z => ?_, fun hm => (List.mem_cons.mp (I.stkSub p.1 hm)).elim ne nf, d⟩
  have z' : p.1 = cenv.locals := z; rw [hL] at z'; exact absurd (Heap.lt_size e) (by (rw [z']; exact Nat.lt_irrefl _))
section
variable {X : Cx}
theorem lc_hot {pins : List (Addr × Obj)} {s : Shared} {σ : L2.St} {H : Hp} {Q : VK} {elt tg iter : Expr} {ifs : List Expr} {scope : Scope} {own : List (Str × Nat)} {pos pos' : Pos} {wi : TI} {g : TG} {tt : TT} {te : TE} {use : Option (Value → Sem Unit)} {Qf : Value → Shared → Prop}
    (hc : HotC X) (hN : X.N.Nodup) (I : Inv X pins σ H s) (hi : PIH X tg iter wi) (ok : BlkOk X.N X.env.scope scope own)
    (hg : ∀ (s : Shared) (H : Hp) (C : Addr) (cl : List (Str × Addr)) (fp : List Addr), PG (blkP X s H scope (compEnvC scope cl C X.env) fp) tg g) (ht : ∀ (s : Shared) (H : Hp) (C : Addr) (cl : List (Str × Addr)) (fp : List Addr), PTs (blkP X s H scope (compEnvC scope cl C X.env) fp) ifs tt)
    (he : ∀ (s : Shared) (H : Hp) (C : Addr) (cl : List (Str × Addr)) (fp : List Addr), PE (blkP X s H scope (compEnvC scope cl C X.env) fp) elt te) (hs : ∀ x, foldedSetIterable iter X.env x = pure x) (h : tLc wi g tt te (own.map (·.2)) σ H Q)
    (hRR : ∀ D C s' m H', Inv X pins σ H' s' → Q (.ref D) H' → s'.heap.Ns C m → FpOk X pins H' C → compPost (model X.prog X.w) X.A X.xe use Qf (.ref D) C (.ok .next) s') :
    wpAny (model X.prog X.w) X.A (comprehension (.ListComp elt [⟨tg, iter, ifs, 0⟩] scope pos) scope X.env pos' (newList []) false (eval iter X.env) use) Qf X.xe s := by
  have hfree : ∀ y ∈ scope.names, y.2 = .free → ∃ c, X.env.cells.lookup y.1 = some c := fun y hy e => (ok.free y hy e).elim (fun k => I.ok.has _ (.inl k)) fun k => I.ok.has _ (.inr k)
  refine wpAny_comprehension_free (use := use) rfl hs (closure_ok hfree) ok.kind (fun y hy e => by (rw [ok.uniq y hy, e])) (thn (hi.run pins s σ H _ I h) fun xv s1 hx => thn hx fun itv s2 h2 => ?_)
  obtain ⟨it, fp, tn, J, H2, e, I2, T, st2, f2, q⟩ := h2; subst e; refine wpAny_newObj_type (newEnv_comp ?_) (by (show 0 ≤ sizeLine; decide))
  generalize hD : s2.heap.objs.size = D; have hDn : H2 D = none := I2.hok.fresh (Nat.le_of_eq hD); obtain ⟨W, ⟨m0, w0⟩, turn⟩ := q D hDn
  generalize hs3 : ({ s2 with heap := s2.heap.push { cls := .type "list", data := .seq ([] : List Value).toArray } } : Shared) = s3
  have I3 : Inv X pins σ (upd H2 D (.lst [])) s3 := by
    rw [← hs3]; refine I2.laid (t' := s2.toks) (fun b o e => Heap.get?_push_of_some _ e) (Nat.le_of_eq hD) ⟨Nat.zero_le _, [], 0, .nil, ?_⟩
    rw [← hD]; exact Heap.get?_push_size _ rfl
  have h3 : s3.heap = s2.heap.push { cls := .type "list", data := .seq ([] : List Value).toArray } := by (rw [← hs3])
  have sz : ∀ b ∈ fp, b < s2.heap.objs.size := fun b hb => by
    obtain ⟨o, e, _⟩ := T.obj _ _ st2 b hb; exact Heap.lt_size e
  have f3 : ∀ b ∈ fp, FpOk X pins (upd H2 D (.lst [])) b ∧ b < s3.heap.objs.size := fun b hb => by
    have hlt := sz b hb; refine ⟨⟨?_, (f2 b hb).2⟩, by (rw [h3, Heap.size_push]; exact Nat.lt_succ_of_lt hlt)⟩
    rw [upd_ne (by (rw [← hD]; exact Nat.ne_of_lt hlt))]; exact (f2 b hb).1
  have st3 : tn 0 s3.heap := T.keep _ _ _ st2 fun b _ o e => by (rw [h3]; exact Heap.get?_push_of_some _ e)
  have I4 := block_start I3 ok hN f3
  have pg := hg s3 (upd H2 D (.lst [])) s3.heap.objs.size (cellsFrom (s3.heap.objs.size + 1) scope.names (cloFrom X.env.cells scope.names [])) fp
  have pt := ht s3 (upd H2 D (.lst [])) s3.heap.objs.size (cellsFrom (s3.heap.objs.size + 1) scope.names (cloFrom X.env.cells scope.names [])) fp
  have pe := he s3 (upd H2 D (.lst [])) s3.heap.objs.size (cellsFrom (s3.heap.objs.size + 1) scope.names (cloFrom X.env.cells scope.names [])) fp
  show codeAny _ _ (.compStart (.ListComp elt [⟨tg, iter, ifs, 0⟩] scope pos) 0 (.ref it) (.ref D) (compEnvC scope (cellsFrom (s3.heap.objs.size + 1) scope.names (cloFrom X.env.cells scope.names [])) s3.heap.objs.size X.env)) (compPost (model X.prog X.w) X.A X.xe use Qf (.ref D) s3.heap.objs.size) { s3 with heap := pushCells (s3.heap.push { cls := .type "dict", data := .dict #[] }) scope.names }
  have nfp : ∀ b ∈ fp, (upd H2 D (.lst [])) b = none := fun b hb => (f3 b hb).1.1
  generalize hce : compEnvC scope (cellsFrom (s3.heap.objs.size + 1) scope.names (cloFrom X.env.cells scope.names [])) s3.heap.objs.size X.env = ce at I4 pg pt pe ⊢
  have cL : ce.locals = s3.heap.objs.size := by (subst hce; rfl)
  generalize hH3 : upd H2 D (.lst []) = H3 at I3 I4 pg pt pe w0 nfp f3; have keep4 : ∀ b o, s3.heap.get? b = some o → (pushCells (s3.heap.push { cls := .type "dict", data := .dict #[] }) scope.names).get? b = some o := fun b o e => pushCells_keeps _ _ _ _ (Heap.get?_push_of_some _ e)
  generalize hs4 : ({ s3 with heap := pushCells (s3.heap.push { cls := .type "dict", data := .dict #[] }) scope.names } : Shared) = s4 at I4 ⊢
  have I4 : Inv (blkP X s3 H3 scope ce fp) [] (wipe σ (own.map (·.2))) H3 s4 := blkP_start I3 (fun b o e n => ⟨by (rw [← hs4]; exact keep4 b o e), n⟩) cL I4
  have hcB : HotC (blkP X s3 H3 scope ce fp) := hc
  have st4 : tn 0 s4.heap := T.keep _ _ _ st3 fun b _ o e => by (rw [← hs4]; exact keep4 b o e)
  have stat : ∀ {σ' : L2.St} {H' : Hp} {s' : Shared}, Inv (blkP X s3 H3 scope ce fp) [] σ' H' s' → (∀ b ∈ fp, H' b = none) → ∀ b ∈ fp, FpOk (blkP X s3 H3 scope ce fp) [] H' b := fun {σ' H' s'} I' hn b hb =>
    ⟨hn b hb, (I'.ok.exf b hb).1, I'.ok.exfs b hb, .inl hb, fun x c e => (I'.ok.exf b hb).2 x c e, fun p hp => (f3 b hb).1.2.2.2.2.2 p (List.mem_append_left _ (by simpa using hp))⟩
  have loop : codeAny (model X.prog X.w) X.A (.compLoop (.ListComp elt [⟨tg, iter, ifs, 0⟩] scope pos) 0 (.ref it) (.ref D) ce) (compPost (model X.prog X.w) X.A X.xe use Qf (.ref D) s3.heap.objs.size) s4 := by
    refine compLoop_any (fun n s' => ∃ i H', Inv (blkP X s3 H3 scope ce fp) [] (wipe σ (own.map (·.2))) H' s' ∧ tn i s'.heap ∧ (∀ b ∈ fp, H' b = none) ∧ W i n H') ?_ m0 ⟨0, H3, I4, st4, nfp, w0⟩
    rintro n s5 ⟨i, H5, I5, st5, n5, w5⟩
    rcases turn i n H5 w5 with ⟨stop, qq⟩ | ⟨go, Nx, hNx, step⟩
    · have td := T.done (blkP X s3 H3 scope ce fp) rfl rfl rfl hcB i [] s5 _ H5 (fun _ _ => False) I5 (stat I5 n5) st5 stop
      refine thnF td fun r s6 ⟨hr, I6⟩ => ?_
      subst hr; have I7 : Inv X pins σ H5 s6 := I3.call' (ch := fp) I6.os I6.base I6.hok I6.bare fun b hb => ⟨(f3 b hb).1.2.2.2.1, (f3 b hb).1.2.1, (f3 b hb).1.2.2.2.2.1, (f3 b hb).1.2.2.2.2.2⟩
      have nC : H5 s3.heap.objs.size = none := by
        have z : H5 ce.locals = none := I6.free
        rw [cL] at z; exact z
      obtain ⟨m, hn, _⟩ := I6.loc; have hn : s6.heap.Ns ce.locals m := hn; rw [cL] at hn; exact hRR D s3.heap.objs.size s6 m H5 I7 qq hn (I3.fpOk (Nat.le_refl _) nC)
    · have ti := T.item (blkP X s3 H3 scope ce fp) rfl rfl rfl hcB i [] s5 _ H5 (fun _ _ => False) I5 (stat I5 n5) st5 go
      refine thnF ti fun r s6 ⟨u, hr, h6⟩ => ?_
      subst hr; refine thnF h6 fun _ s7 ⟨x, H7, I7, r7, y7, st7, n7⟩ => ?_
      have I7' := I7.pinned (stat I7 n7) (T.obj _ _ st7); refine thnF (pg.run _ s7 _ H7 x u _ I7' r7 (step x H7 y7)) fun _ s8 ⟨σ8, H8, I8, hw8, q8⟩ => ?_
      refine thnF (pt.run _ s8 σ8 H8 _ I8 q8) fun b s9 ⟨H9, I9, q9⟩ => ?_
      have fin : ∀ {s' : Shared} {H' : Hp}, Inv (blkP X s3 H3 scope ce fp) ([] ++ pinsAt fp s7.heap) σ8 H' s' → Nx H' → ∃ m, m < n ∧ ∃ i H', Inv (blkP X s3 H3 scope ce fp) [] (wipe σ (own.map (·.2))) H' s' ∧ tn i s'.heap ∧ (∀ b ∈ fp, H' b = none) ∧ W i m H' := fun {s' H'} I' nx => by
        obtain ⟨m', hm, w'⟩ := hNx H' nx
        have pin' : ∀ b ∈ fp, ∀ o, s7.heap.get? b = some o → s'.heap.get? b = some o ∧ H' b = none := fun b hb o e => let z := I'.pin (b, o) (List.mem_append_right _ (List.mem_append_right _ (mem_pinsAt hb e))); ⟨z.1, z.2.1⟩
        have hl : (wipe σ (own.map (·.2))).length = σ8.length := by (rw [← hw8, wipe_length])
        refine ⟨m', hm, i + 1, H', (I'.unpinned (pins := [])).weak hl (fun j v e => ?_), T.keep _ _ _ st7 fun b hb o e => (pin' b hb o e).1, fun b hb => ?_, w'⟩
        · rw [← hw8] at e; exact (wipe_some e).1
        · obtain ⟨o, e, _⟩ := T.obj _ _ st7 b hb; exact (pin' b hb o e).2
      cases b with
      | false => simp only [Bool.false_eq_true, if_false] at q9 ⊢; exact fin I9 q9
      | true =>
        simp only [if_true] at q9 ⊢; refine thnF (pe.run _ s9 σ8 H9 _ I9 q9) fun z s10 ⟨yv, H10, I10, r10, acc, hD10, hz10, nx⟩ => ?_
        exact app_ok (X := blkP X s3 H3 scope ce fp) I10 hD10 hz10 r10 fun s11 I11 => fin I11 nx
  exact codeAny_compStart_list loop (T.self X.A 0 _ _ _ st4 loop)
theorem ps_setLcH {i : Nat} {y : Str} {py : Pos} {elt tg iter : Expr} {ifs : List Expr} {scope : Scope} {own : List (Str × Nat)} {pos spos : Pos} {wi : TI} {g : TG} {tt : TT} {te : TE} (hc : HotC X) (hN : X.N.Nodup) (hy : X.N[i]? = some y) (hyl : X.env.scope.names.lookup y = some .local)
    (hsw : swapsWith (.ListComp elt [⟨tg, iter, ifs, 0⟩] scope pos) (some (.Name y py)) spos.line X.env = pure true) (hi : PIH X tg iter wi) (ok : BlkOk X.N X.env.scope scope own)
    (hg : ∀ (s : Shared) (H : Hp) (C : Addr) (cl : List (Str × Addr)) (fp : List Addr), PG (blkP X s H scope (compEnvC scope cl C X.env) fp) tg g) (ht : ∀ (s : Shared) (H : Hp) (C : Addr) (cl : List (Str × Addr)) (fp : List Addr), PTs (blkP X s H scope (compEnvC scope cl C X.env) fp) ifs tt)
    (he : ∀ (s : Shared) (H : Hp) (C : Addr) (cl : List (Str × Addr)) (fp : List Addr), PE (blkP X s H scope (compEnvC scope cl C X.env) fp) elt te) (hs : ∀ x, foldedSetIterable iter X.env x = pure x := by intro _; rfl) :
    PS X (.Assign [.Name y py] (.ListComp elt [⟨tg, iter, ifs, 0⟩] scope pos) spos) (tAsg (tLc wi g tt te (own.map (·.2))) (gName i)) := by
  refine ⟨fun pins s σ H D I h => ?_⟩; rw [exec_Assign_Name_used _ _ _ _ hsw]; refine wpAny_bind (wpAny_standAt (wpAny_bind ?_))
  show wpAny _ X.A (do let _ ← comprehension (.ListComp elt [⟨tg, iter, ifs, 0⟩] scope pos) scope X.env (firstIterPos [⟨tg, iter, ifs, 0⟩] pos) (newList []) false (eval iter X.env) (some (assign (.Name y py) X.env))) _ _ s
  have h : tLc wi g tt te (own.map (·.2)) σ H (fun x H1 => gName i x σ H1 D.nx) := h
  refine wpAny_bind (thn (lc_hot (Qf := fun _ s' => SP X pins D .next s') hc hN I hi ok hg ht he hs h fun L C s' m H' I' q hn f => ?_) fun _ s' hq => wpAny_pure (wpAny_pure hq))
  show wpAny _ _ (assign (.Name y py) X.env (.ref L)) _ _ _
  refine wpAny_assign_Name (store_ok2 (v := V.ref L) I' hN hy (.inl hyl) rfl (fun s2 I2 ⟨a, sb, ha⟩ => ?_) (.inr hyl)); obtain ⟨f0, f1, f2, f3, f4, f5⟩ := f
  have haC : C ≠ a := ha.elim (fun z => by (rw [z]; exact f1)) fun z e => f4 y a z e.symm
  exact ⟨m, hn.sameBut sb haC, fun h3 sb3 => ⟨_, H', I2.turned (t' := s2.toks) (fun b o hb e => (sb3.2 b hb).trans e) f0 f1 f3 f4 f5, q⟩⟩
end
end Ox

namespace Ox
open PySem PySem.Spec PyProof.Rows L2
/-! ### data, told of the abstract heap: what is tracked alone -/
mutual
inductive Dq (H : Hp) : V → PyData → Prop
  | non : Dq H .non .none
  | bl (b : Bool) : Dq H (.bl b) (.bool b)
  | int (i : Int) : Dq H (.int i) (.int i)
  | str (x : Str) : Dq H (.str x) (.str x)
  | lst {a : Addr} {xs : List V} {ds : List PyData} : H a = some (.lst xs) → DqAll H xs ds → Dq H (.ref a) (.list ds)
  | tup {a : Addr} {xs : List V} {ds : List PyData} : H a = some (.tup xs) → DqAll H xs ds → Dq H (.ref a) (.tuple ds)
  | dct {a : Addr} {kvs : List (Key × V)} {ds : List PyData} : H a = some (.dK kvs) → DqAll H (kvs.map (·.2)) ds → Dq H (.ref a) (.dict ((kvs.map fun p => match p.1 with | .inl i => PyData.int i | .inr x => PyData.str x).zip ds))
inductive DqAll (H : Hp) : List V → List PyData → Prop
  | nil : DqAll H [] []
  | cons {v : V} {vs : List V} {d : PyData} {ds : List PyData} : Dq H v d → DqAll H vs ds → DqAll H (v :: vs) (d :: ds)
end
theorem DqAll.length {H : Hp} : ∀ {vs : List V} {ds : List PyData}, DqAll H vs ds → vs.length = ds.length
  | _, _, .nil => rfl
  | _, _, .cons _ h => congrArg (· + 1) (DqAll.length h)
mutual
theorem Dq.keeps {H H' : Hp} (k : ∀ b o, H b = some o → H' b = some o) : ∀ {v : V} {d : PyData}, Dq H v d → Dq H' v d
  | _, _, .non => .non
  | _, _, .bl b => .bl b
  | _, _, .int i => .int i
  | _, _, .str x => .str x
  | _, _, .lst h a => .lst (k _ _ h) (DqAll.keeps k a)
  | _, _, .tup h a => .tup (k _ _ h) (DqAll.keeps k a)
  | _, _, .dct h a => .dct (k _ _ h) (DqAll.keeps k a)
theorem DqAll.keeps {H H' : Hp} (k : ∀ b o, H b = some o → H' b = some o) : ∀ {vs : List V} {ds : List PyData}, DqAll H vs ds → DqAll H' vs ds
  | _, _, .nil => .nil
  | _, _, .cons h a => .cons (Dq.keeps k h) (DqAll.keeps k a)
end
theorem dq_bools {H : Hp} : ∀ bs : List Bool, DqAll H (bs.map V.bl) (bs.map PyData.bool)
  | [] => .nil
  | b :: bs => .cons (.bl b) (dq_bools bs)
theorem dq_ints {H : Hp} : ∀ bs : List Int, DqAll H (bs.map V.int) (bs.map PyData.int)
  | [] => .nil
  | b :: bs => .cons (.int b) (dq_ints bs)
section
variable {X : Cx} {pins : List (Addr × Obj)} {σ : L2.St} {H : Hp} {s : Shared}
theorem reads_keys {P : Program} {w : World} {h : Heap} : ∀ {kvs : List (Key × V)} {vs : List (Key × Value)} {es : List DictEntry}, KV kvs vs → PySem.Pairs (mixKind P w) es vs →
    ReadsAll h (es.map (·.key)) (kvs.map fun p => match p.1 with | .inl i => PyData.int i | .inr x => PyData.str x) [] ∧ Vals (kvs.map (·.2)) (es.map (·.val))
  | _, _, _, .nil, .nil => ⟨.nil, .nil⟩
  | _, _, _, .cons (a := ⟨k, v⟩) r t, .cons (e := e) hk hv q => by
    obtain ⟨h1, h2⟩ := reads_keys (h := h) t q; obtain ⟨r1, r2⟩ := r; refine ⟨?_, .cons (by (show RelV v e.val; rw [hv]; exact r2)) h2⟩
    rw [mixKind_is] at hk; rw [← r1] at hk
    rcases keyIs_shape hk with ⟨i, t, e1, e2⟩ | ⟨x, t, e1, e2⟩
    · simp only at e1; subst e1; exact .cons (as := []) (bs := []) (by (show Reads h e.key _ []; rw [e2]; exact .int i t)) h1
    · simp only at e1; subst e1; exact .cons (as := []) (bs := []) (by (show Reads h e.key _ []; rw [e2]; exact .str x t)) h1
mutual
theorem Dq.reads (I : Inv X pins σ H s) : ∀ {v : V} {d : PyData} {u : Value}, Dq H v d → RelV v u → ∃ as, Reads s.heap u d as ∧ ∀ b ∈ as, H b ≠ none
  | _, _, _, .non, r => by cases r; exact ⟨[], .none, fun b hb => absurd hb (by simp)⟩
  | _, _, _, .bl b, r => by cases r; exact ⟨[], .bool b, fun b hb => absurd hb (by simp)⟩
  | _, _, _, .int i, r => by obtain ⟨t, rfl⟩ := r; exact ⟨[], .int i t, fun b hb => absurd hb (by simp)⟩
  | _, _, _, .str x, r => by obtain ⟨t, rfl⟩ := r; exact ⟨[], .str x t, fun b hb => absurd hb (by simp)⟩
  | _, _, _, .lst (a := a) (xs := xs) h q, r => by
    cases r; obtain ⟨_, its, n, rv, e⟩ : ObjOk X.prog X.w H s.heap a (.lst xs) := I.hok a _ h; obtain ⟨as, h1, h2⟩ := DqAll.reads I q rv
    refine ⟨_, .list e rfl rfl h1, fun b hb => ?_⟩
    rcases List.mem_cons.mp hb with z | z
    · rw [z, h]; exact fun y => nomatch y
    · exact h2 b z
  | _, _, _, .tup (a := a) (xs := xs) h q, r => by
    cases r; obtain ⟨_, its, rv, o, e, hc, n, hd⟩ : ObjOk X.prog X.w H s.heap a (.tup xs) := I.hok a _ h; obtain ⟨as, h1, h2⟩ := DqAll.reads I q rv
    exact ⟨_, .tuple e hc hd h1, h2⟩
  | _, _, _, .dct (a := a) (kvs := kvs) (ds := ds) h q, r => by
    cases r; obtain ⟨_, _, vs, rk, o, es, ep, e, hx, hd, _, hp, _⟩ : ObjOk X.prog X.w H s.heap a (.dK kvs) := I.hok a _ h
    obtain ⟨k1, k2⟩ := reads_keys (h := s.heap) rk hp; obtain ⟨as, h1, h2⟩ := DqAll.reads I q k2; have hl : (kvs.map (·.2)).length = ds.length := q.length
    have e1 : (((kvs.map fun p => match p.1 with | .inl i => PyData.int i | .inr x => PyData.str x).zip ds).map (·.1)) = (kvs.map fun p => match p.1 with | .inl i => PyData.int i | .inr x => PyData.str x) := List.map_fst_zip (by simp at hl ⊢; omega)
    have e2 : (((kvs.map fun p => match p.1 with | .inl i => PyData.int i | .inr x => PyData.str x).zip ds).map (·.2)) = ds := List.map_snd_zip (by simp at hl ⊢; omega)
    refine ⟨_, .dict (as := []) (bs := as) e hx.1 hd (by (rw [e1]; exact k1)) (by (rw [e2]; exact h1)), fun b hb => ?_⟩
    rcases List.mem_cons.mp (by simpa using hb) with z | z
    · rw [z, h]; exact fun y => nomatch y
    · exact h2 b z
theorem DqAll.reads (I : Inv X pins σ H s) : ∀ {vs : List V} {ds : List PyData} {us : List Value}, DqAll H vs ds → Vals vs us → ∃ as, ReadsAll s.heap us ds as ∧ ∀ b ∈ as, H b ≠ none
  | _, _, _, .nil, r => by cases r; exact ⟨[], .nil, fun b hb => absurd hb (by simp)⟩
  | _, _, _, .cons h q, r => by
    cases r with
    | cons r1 r2 =>
      obtain ⟨as, h1, h2⟩ := Dq.reads I h r1; obtain ⟨bs, h3, h4⟩ := DqAll.reads I q r2
      exact ⟨_, .cons h1 h3, fun b hb => (List.mem_append.mp hb).elim (h2 b) (h4 b)⟩
end
/-- repr(x), x a tuple, a list or a dict of data -/
def rRepr : List V → Hp → VK → Prop := fun xs H Q => ∃ (a : Addr) (d : PyData), xs = [.ref a] ∧ Dq H (.ref a) d ∧ d.showable = true ∧ d.depth ≤ 50 ∧ d.shown.length ≤ sizeLine ∧ Q (.str d.shown) H
theorem call_reprD {X : Cx} (hg : X.A.guards = some []) (hu : X.A.units + 64 < cLine) (hs : ∃ o, X.base.get? sysModules = some o) : CallR X (.builtin "repr") rRepr := by
  intro pins s σ H xs us Q I r h; obtain ⟨a, d, rfl, hd, h1, h2, h3, q⟩ := h; obtain ⟨u, rfl, ru⟩ := vals1 r; cases (show u = Value.ref a from ru)
  obtain ⟨as, hr, hn⟩ := hd.reads I (u := .ref a) rfl; obtain ⟨o, ho⟩ := hs
  have hsm : d.hasDict = true → sysModules ∉ as := fun _ hm => hn _ hm (I.bs _ _ ho).2
  exact repr_of_reads' hr h1 hsm hg (by omega) (fun _ _ e => e) (fun h' u tk k => ⟨.str _, H, I.kept (t' := tk) k, ⟨_, rfl⟩, q⟩) h3
end

/-! ### a def that asks repr: nothing is being shown around it -/
structure FnG (P : Program) (w : World) (K : PySem.W.Frag) (mg : Str → Option Value) (base : Heap) (k : Nat) (f : Addr) (fd : FuncData) (ps : List Str) (sp : Sp) : Prop where
  len : ∀ vs H Q E, sp vs H Q E → vs.length = ps.length
  run : ∀ (A : Around) (outer : List Env) (s : Shared) (H : Hp) (args : Args) (us : List Value) (vs : List V) (Q : VK) (E : XK), A.guards = some [] → Room k A → Env0 P w K mg base A outer s H → BindsTo s fd args (ps.zip us) → Vals vs us → sp vs H Q E → codeAny (model P w) A (.call (.ref f) args) (CR CX0 outer P w H s Q E) s
theorem _root_.L2.Fun.okG {P : Program} {w : World} {K : PySem.W.Frag} {mg : Str → Option Value} {base : Heap} {x qual : Str} {st : Stmt} {f : Addr} {fd : FuncData} {N ps : List Str} {k : Nat} {sp : Sp} (F : Fun K x qual st f fd) (S : FnScope N ps (defScope st)) (len : ∀ vs H Q E, sp vs H Q E → vs.length = ps.length)
    (hbody : ∀ (cdv : Value) (A : Around) (outer : List Env) (s : Shared) (H : Hp) (vs : List V) (Q : VK) (E : XK), A.guards = some [] → Room k (A.deeper (envOfC qual (defScope st) s.heap.objs.size f cdv)) → sp vs H Q E →
      ∃ t, PSs (cxOf CX0 P w K mg base N qual (defScope st) f cdv A outer s H E).nox (defBody st) t ∧ t { nx := fun _ H' => Q .non H', rt := Q } (start N vs) H) : FnG P w K mg base (k + 1) f fd ps sp := by
  obtain ⟨oc, od, kV, doc, pm, an, cdv, ct, osl, rfl, lk, hcd⟩ := F.ex; refine ⟨len, fun A outer s H args us vs Q E hgd hr e0 hb r hsp => ?_⟩; have hl := len _ _ _ _ hsp
  have KX : K.In s.heap := e0.mod.kin.keeps fun b o e => (e0.bs b o e).1; have lim : s.heap.NoLimit := e0.mod.nolimit.keeps fun b o e => (e0.bs b o e).1
  have hkind : ∀ y ∈ ps.zip us, (defScope st).names.lookup y.1 = some .local ∨ ((defScope st).names.lookup y.1 = some .cell ∧ ((cellsFrom (s.heap.objs.size + 1) (defScope st).names []).lookup y.1).isSome = true) := fun ⟨n, v⟩ hy => (S.par n (List.of_mem_zip hy).1).elim .inl fun q => .inr ⟨q, PySem.W.cellsFrom_some _ _ _ (.inl q)⟩
  refine codeAny_call_function hr.depth (KX _ _ lk) rfl S.co S.gen rfl (PySem.W.codeRec_of KX hcd) (hb _ _ _ _ ?_); refine wpAny_newFunctionEnv_cells S.kind hkind fun env he s1 x => ?_
  subst he; refine ⟨lim.keeps x.toInCall.keep, codeAny_func ?_⟩; obtain ⟨t, ht, hq⟩ := hbody cdv A outer s H vs Q E hgd (hr.deeper _) hsp
  have I : Inv (cxOf CX0 P w K mg base N qual (defScope st) f cdv A outer s H E) [] (start N vs) H s1 := inv_start S hr.hd e0 hl r x
  refine wpAny_mono (ht.nox.run [] s1 (start N vs) H _ I hq) (fun fl s' hs => ?_) fun e s' hs => hs
  have fin : ∀ {σ' : L2.St} {H' : Hp} {v : V} {u : Value}, Inv (cxOf CX0 P w K mg base N qual (defScope st) f cdv A outer s H E) [] σ' H' s' → RelV v u → Q v H' → CE outer P w H s Q u s' := fun {σ' H' v u} J rv q => ⟨v, H', J.os, J.bare, J.base, J.hok, rv, q⟩
  cases fl with
  | ret u => obtain ⟨v, σ', H', J, rv, q⟩ := hs; exact fin J rv q
  | next => obtain ⟨σ', H', J, q⟩ := hs; exact fin (v := V.non) (u := Value.none) J rfl q
  | brk => obtain ⟨_, _, _, q⟩ := hs; exact False.elim q
  | cont => obtain ⟨_, _, _, q⟩ := hs; exact False.elim q
section
variable {X : Cx} {k : Nat} {f : Addr} {fd : FuncData} {ps : List Str} {sp : Sp} {x : Str} {q pos : Pos} {e : Expr} {es : List Expr} {t : TA}
theorem pe_callG (F : FnG X.prog X.w X.K X.mg X.base k f fd ps sp) (hgd : X.A.guards = some []) (hr : Room k X.A) (hg : Gl X x) (hm : X.mg x = some (.ref f)) (hk : PySem.W.keepIn X.K (.ref f) = true) (hb : Binds X.K fd ps [])
    (ha : PA X (e :: es) t) (hdb : (x == ("__debug__" : Str)) = false := by decide) (he : starEach (e :: es) X.env = (false, eval e X.env) :: starEach es X.env := by rfl) (hpl : (backTo pos (starEach es X.env)).any (·.1) = false := by rfl) : PE X (.Call (.Name x q) (e :: es) [] pos) (tCall sp [] E0 t) := by
  refine ⟨fun pins s σ H Q I h => ?_⟩; refine wpAny_Call_Name_kw (ld_glob I hg hm ?_ hdb)
  refine PySem.W.callWith_K (h₀ := X.base) I.ok.mod.kin hk (thn (ha.run pos pins s σ H _ I h) fun us s1 ⟨vs, H1, I1, r, h1⟩ => ⟨I1.kIn, ?_⟩) he hpl
  have h1 : sp vs H1 Q E0 := by simpa using (show sp (vs ++ []) H1 Q E0 from h1)
  have hl : us.length = ps.length := by (rw [← r.length]; exact F.len _ _ _ _ h1)
  have b := hb s1 us I1.kIn (by (rw [List.append_nil]; exact hl)); rw [List.append_nil] at b
  refine wpAny_call (codeAny_mono (F.run X.A X.stack s1 H1 ⟨us, []⟩ us vs Q E0 hgd hr I1.env0 b r h1) fun r s' hq => ?_)
  cases r with
  | error e => exact False.elim hq
  | ok fl =>
    cases fl with
    | ret u => exact I1.after hq
    | next => exact False.elim hq
    | brk => exact False.elim hq
    | cont => exact False.elim hq
end
end Ox

namespace Ox
open PySem PySem.Spec PyProof.Rows L2
theorem law_callG {P : Program} {w : World} {K : PySem.W.Frag} {mg mb : Str → Option Value} {k : Nat} {fa a : Addr} {fd : FuncData} {x : Str} {sp : Sp} {s₁ : Shared} {vs : List Value} {ns : List Int} (KX : K.In s₁.heap) (hns : s₁.heap.Ns mainGlobals mg) (hb : s₁.heap.Ns builtinsNs mb)
    (hbb : ∀ x : Str, x ≠ "__name__" → mb x = bootBuiltins x) (hlim : s₁.heap.NoLimit) (hsys : ∃ mm, s₁.heap.Ns sysModules mm) (hg : s₁.gens = #[]) (ha : s₁.heap.get? a = some { cls := .type "list", data := .seq vs.toArray }) (hi : IntsAre vs ns) (hl : ns.length ≤ sizeLine) (hr : Room k callerA)
    (F : ∀ base : Heap, K.In base → base.Ns mainGlobals mg → (∃ o, base.get? sysModules = some o) → FnG P w K mg base k fa fd [x] sp) (hbind : ∀ (s : Shared) (u : Value), BindsTo s fd ⟨[u], []⟩ [(x, u)]) (hsp : ∀ H : Hp, SqL K H a (ns.map V.int) → sp [.ref a] H (fun v _ => v = .bl true) fun _ _ _ => False) :
    codeAny (model P w) callerA (.call (.ref fa) ⟨[.ref a], []⟩) (fun r s' => r = .ok (.ret (.bool true)) ∧ OldK s₁.heap s'.heap ∧ s'.os = s₁.os ∧ AllBare s'.gens) s₁ := by
  have rv := vals_ints hi; have lenV := hi.length
  have core : ∀ H : Hp, (∀ b u, H b = some u → b = a ∧ K.lookup a = none ∧ ∃ o xs, u = .frz o (.lst xs)) → SqL K H a (ns.map V.int) → HOk P w H s₁.heap →
      codeAny (model P w) callerA (.call (.ref fa) ⟨[.ref a], []⟩) (fun r s' => r = .ok (.ret (.bool true)) ∧ OldK s₁.heap s'.heap ∧ s'.os = s₁.os ∧ AllBare s'.gens) s₁ := by
    intro H hA hS hok
    have base_of : ∀ {b : Addr} {o : Obj}, s₁.heap.get? b = some o → H b = none → (hidT s₁.heap H).get? b = some o := fun e n => hidT_get e n
    have noD : ∀ {b : Addr} {o : Obj} {es : Array DictEntry} {ep : Nat}, s₁.heap.get? b = some o → o.data = .dict es ep → H b = none := fun {b o es ep} e d => by
      cases q : H b with
      | none => rfl
      | some u =>
        have e' := (hA b u q).1; subst e'; rw [ha] at e; cases e; have d' : Data.seq vs.toArray _ = Data.dict es ep := d; cases d'
    have nsK : ∀ {b : Addr} {m : Str → Option Value}, s₁.heap.Ns b m → (hidT s₁.heap H).Ns b m := fun {b m} ⟨o, es, ep, e, d, r⟩ => ⟨o, es, ep, base_of e (noD e d), d, r⟩
    have hKb : K.In (hidT s₁.heap H) := fun b o e => base_of (KX b o e) (by
      cases q : H b with
      | none => rfl
      | some u => have z := hA b u q; rw [z.1, z.2.1] at e; cases e)
    have hM : Mod K mg (hidT s₁.heap H) := ⟨hKb, nsK hns, ⟨mb, nsK hb, hbb⟩, let ⟨mc, h1, h2⟩ := hlim; ⟨mc, nsK h1, h2⟩⟩
    have hS1 : ∃ o, (hidT s₁.heap H).get? sysModules = some o := by
      obtain ⟨mm, hm⟩ := hsys; obtain ⟨o, es, ep, e, _⟩ := nsK hm; exact ⟨o, e⟩
    have e0 : Env0 P w K mg (hidT s₁.heap H) callerA [] s₁ H := ⟨rfl, hM, fun b o e => of_hidT e, Nat.le_of_eq (hidT_size _ _), trivial, fun b hb => absurd (show b ∈ ([] : List Addr) from hb) (by simp), hok, .of_eq hg⟩
    refine codeAny_mono ((F _ hKb (nsK hns) hS1).run callerA [] s₁ H ⟨[.ref a], []⟩ [.ref a] [.ref a] _ _ rfl hr e0 (hbind s₁ (.ref a)) (.cons rfl .nil) (hsp H hS)) fun r s' h => ?_
    cases r with
    | error e => exact False.elim h
    | ok fl =>
      cases fl with
      | next => exact False.elim h
      | brk => exact False.elim h
      | cont => exact False.elim h
      | ret u =>
        obtain ⟨v, H', os, bare, un, hok', r', q⟩ := h; have q' : v = .bl true := q; subst q'; obtain rfl : u = Value.bool true := r'
        refine ⟨rfl, OldK.of_keep fun b o e => ?_, os, bare⟩
        cases q : H b with
        | none => exact un.keep b o e q (by intro z; exact absurd (show b ∈ ([] : List Addr) from z) (by simp)) (by simp)
        | some u =>
          obtain ⟨_, _, ob, xs, z⟩ := hA b u q; subst z; have z2 := un.frzs b ob _ q; obtain ⟨e1, _⟩ := hok b _ q; obtain ⟨e2, _⟩ := hok' b _ z2
          rw [e] at e1; cases e1; exact e2
  cases hk : K.lookup a with
  | some o =>
    have e := KX a o hk; rw [ha] at e; cases e
    exact core (fun _ => none) (fun b u z => nomatch (show (none : Option HO) = some u from z)) (.inr ⟨_, vs.toArray, _, hk, rfl, rfl, rfl, by (rw [List.size_toArray, lenV]; exact hl), by simpa using rv⟩) (fun b u z => nomatch (show (none : Option HO) = some u from z))
  | none =>
    refine core (fun b => if b = a then some (.frz { cls := .type "list", data := .seq vs.toArray } (.lst (ns.map V.int))) else none) (fun b u z => ?_) (.inl (.inr ⟨{ cls := .type "list", data := .seq vs.toArray }, if_pos rfl⟩)) (fun b u z => ?_)
    · by_cases hb : b = a
      · exact ⟨hb, hk, _, _, (Option.some.inj ((if_pos hb).symm.trans z)).symm⟩
      · exact nomatch ((if_neg hb).symm.trans z)
    · by_cases hb : b = a
      · have z' := Option.some.inj ((if_pos hb).symm.trans z); subst z'; subst hb; exact ⟨ha, by (rw [List.length_map]; exact hl), vs, _, rv, ha⟩
      · exact nomatch ((if_neg hb).symm.trans z)
theorem walkG {l : PySem.W.OpenLaw} {n k : Nat} {q : Program} {loose : List Str} {XP : (Str → Option Value) → Heap → Prop} {YP : World → Heap → Prop} {d : DefRec} {K : Params → PySem.W.Frag} {sp : PySem.W.Frag → Sp} {x : Str} (hn : l.most = some n) (hn2 : n ≤ sizeLine) (hdf : d.params.defaults = []) (hr : Room k callerA)
    (hq : importsNone q = true) (hY : ∀ (w : World) (h : Heap), YP w h → (K w.params).In h)
    (F : ∀ (w : World) (mg : Str → Option Value) (fa : Addr) (h : Heap), (K w.params).In h → h.Ns mainGlobals mg → mg d.name = some (.ref fa) →
      ∃ fd : FuncData, (∀ (s : Shared) (u : Value), BindsTo s fd ⟨[u], []⟩ [(x, u)]) ∧ ∀ base : Heap, (K w.params).In base → base.Ns mainGlobals mg → (∃ o, base.get? sysModules = some o) → FnG l.prog w (K w.params) mg base k fa fd [x] (sp (K w.params)))
    (hsp : ∀ (K : PySem.W.Frag) (H : Hp) (a : Addr) (ns : List Int), ns.length ≤ n → SqL K H a (ns.map V.int) → sp K [.ref a] H (fun v _ => v = .bl true) fun _ _ _ => False) : PySem.W.WalkO q loose XP YP l.row.toRowW d [] (fun f vs => PySem.call f vs) := by
  refine Att.attach_call hn hdf fun w s₀ s₁ mg mb fa o pm cd doc a vs ns G Y ho hd hcd hmg hobj hints hlen hg => ?_
  have KX := hY w _ Y; obtain ⟨fd, hb, hF⟩ := F w mg fa _ KX G.T.g hmg; have hs := (G.T.seer hq).mods
  exact law_callG KX G.T.g G.T.b G.T.builtins G.T.nolimit (let ⟨mm, h, _⟩ := hs; ⟨mm, h⟩) hg hobj hints (Nat.le_trans hlen hn2) hr hF hb fun H hS => hsp _ H a ns hlen hS
end Ox

namespace Rd
open PySem PySem.Spec PyProof.Rows L2 Tq Dn Dc Ox
/-! ### repr of any data -/
def Shows (H : Hp) (v : V) (t : Str) : Prop :=
  (v = .non ∧ t = "None") ∨ (∃ b, v = .bl b ∧ t = if b then "True" else "False") ∨ (∃ i : Int, v = .int i ∧ i.natAbs.log2 < 1920 ∧ t = toString i) ∨ (∃ x, v = .str x ∧ (reprText x).length ≤ sizeLine ∧ t = reprText x) ∨
    (∃ a d, v = .ref a ∧ Dq H v d ∧ d.showable = true ∧ d.depth ≤ 50 ∧ d.shown.length ≤ sizeLine ∧ t = d.shown)
theorem Shows.up {H H' : Hp} {v : V} {t : Str} (h : Shows H v t) (s : Same H H') : Shows H' v t := by
  rcases h with h | h | h | h | ⟨a, d, e, hd, r⟩
  · exact .inl h
  · exact .inr (.inl h)
  · exact .inr (.inr (.inl h))
  · exact .inr (.inr (.inr (.inl h)))
  · exact .inr (.inr (.inr (.inr ⟨a, d, e, hd.keeps s, r⟩)))
def rShow : List V → Hp → VK → Prop := fun xs H Q => ∃ v t, xs = [v] ∧ Shows H v t ∧ Q (.str t) H
theorem call_show {X : Cx} (hg : X.A.guards = some []) (hu : X.A.units + 64 < cLine) (hs : ∃ o, X.base.get? sysModules = some o) : CallR X (.builtin "repr") rShow := by
  intro pins s σ H xs us Q I r h
  obtain ⟨v, t, rfl, h, q⟩ := h
  rcases h with ⟨rfl, rfl⟩ | ⟨b, rfl, rfl⟩ | ⟨i, rfl, hz, rfl⟩ | ⟨x, rfl, hz, rfl⟩ | ⟨a, d, rfl, hd, h1, h2, h3, rfl⟩
  · obtain ⟨u, rfl, ru⟩ := vals1 r
    cases (show u = Value.none from ru)
    exact PySem.P.repr_of_none ⟨.str _, H, I.tok _, ⟨_, rfl⟩, q⟩
  · obtain ⟨u, rfl, ru⟩ := vals1 r
    cases (show u = Value.bool b from ru)
    exact PySem.P.repr_of_bool ⟨.str _, H, I.tok _, ⟨_, by cases b <;> rfl⟩, q⟩
  · obtain ⟨u, rfl, tk, rfl⟩ := vals1 r
    exact PySem.P.repr_of_int hz ⟨.str _, H, I.tok _, ⟨_, rfl⟩, q⟩
  · obtain ⟨u, rfl, tk, rfl⟩ := vals1 r
    exact PySem.P.repr_of_str ⟨.str _, H, I.tok _, ⟨_, rfl⟩, q⟩ hz
  · exact call_reprD hg hu hs pins s σ H _ us Q I r ⟨a, d, rfl, hd, h1, h2, h3, q⟩
/-! ### what may raise -/
theorem passN0 {X : Cx} {σ : L2.St} : PassesAt (L2N.CX X.prog X.w) X σ E0 := fun pins H s e s' I c => by
  obtain ⟨_, _, _, _, _, _, _, _, _, _, _, _, z⟩ := c; exact z.elim
theorem okN {P : Program} {w : World} {K : PySem.W.Frag} {mg : Str → Option Value} {base : Heap} {x qual : Str} {st : Stmt} {f : Addr} {fd : FuncData} {N ps : List Str} {k : Nat} {sp : Sp} (F : Fun K x qual st f fd) (S : FnScope N ps (defScope st)) (len : ∀ vs H Q E, sp vs H Q E → vs.length = ps.length)
    (hbody : ∀ (cdv : Value) (A : Around) (outer : List Env) (s : Shared) (H : Hp) (vs : List V) (Q : VK) (E : XK), Room k (A.deeper (envOfC qual (defScope st) s.heap.objs.size f cdv)) → sp vs H Q E →
      ∃ t, PSs (cxOf (L2N.CX P w) P w K mg base N qual (defScope st) f cdv A outer s H E) (defBody st) t ∧ t { nx := fun _ H' => Q .non H', rt := Q } (start N vs) H) : FnOk P w K mg base (L2N.CX P w) (k + 1) f fd ps sp := by
  obtain ⟨oc, od, kV, doc, pm, an, cdv, ct, osl, rfl, lk, hcd⟩ := F.ex
  exact fn_of lk hcd S len fun A outer s H vs Q E hr hsp => hbody cdv A outer s H vs Q E hr hsp
def spNeed (K : PySem.W.Frag) (C CN : Addr) : Sp := fun vs H Q E => ∃ (r : Addr) (rs : RowsL) (v : V) (d : PyData), vs = [.ref r, v] ∧ RdAt K C H r rs ∧ Dp K H v d ∧
  ((numD d ((rs.length : Int) - 1) = true ∧ Q .non H) ∨ (numD d ((rs.length : Int) - 1) = false ∧ ∀ dd, H dd = none → E (.ref CN) (some dd) (upd H dd (.xd [("value", v)]))))
def spGet (K : PySem.W.Frag) (C CN : Addr) : Sp := fun vs H Q E => ∃ (r : Addr) (rs : RowsL) (v : V) (d : PyData), vs = [.ref r, v] ∧ RdAt K C H r rs ∧ Dp K H v d ∧
  ((∃ n q, v = .int ((n : Nat) : Int) ∧ rs[n]? = some q ∧ Q (.ref q.1) H) ∨ (numD d ((rs.length : Int) - 1) = false ∧ ∀ dd, H dd = none → E (.ref CN) (some dd) (upd H dd (.xd [("value", v)]))))
structure TxG (K : PySem.W.Frag) (mg : Str → Option Value) (P : Program) (w : World) (base : Heap) (C CN : Addr) : Prop extends TxR0 K mg P w base C where
  gN : mg "InvalidNumber" = some (.ref CN)
  oN : ∃ J, PySem.Mk0.OTxt K CN J "value" "InvalidNumber.__init__" "IndexError" "IndexError.__new__" PySem.Mk0.bIx
section
variable {P : Program} {w : World} {K : PySem.W.Frag} {mg : Str → Option Value} {base : Heap}
theorem scNe : FnScope ["self", "at"] ["self", "at"] (defScope sNeed) := ⟨rfl, rfl, rfl, by decide +kernel, rfl, by decide +kernel, by decide +kernel⟩
theorem ok_need {C CN f : Addr} {fd : FuncData} (F : Fun K "_need_line" "Reader._need_line" sNeed f fd) (T : TxG K mg P w base C CN) : FnOk P w K mg base (L2N.CX P w) 4 f fd ["self", "at"] (spNeed K C CN) := by
  obtain ⟨g, gd, mG, kG, bG, GG⟩ := T.within_
  obtain ⟨J, oN⟩ := T.oN
  refine okN F scNe (fun vs H Q E h => ?_) (fun cdv A outer s H vs Q E hr h => ?_)
  · obtain ⟨r, rs, v, d, rfl, _⟩ := h; rfl
  · obtain ⟨r, rs, v, d, rfl, ⟨dx, L, TT, ps, e, hL, _⟩, hd, k⟩ := h
    refine ⟨_, pss_one (ps_if (pt_not (pt_val (pe_call GG hr (by rfl) mG kG bG .nil pass0 (pa_cons (pv 1) (pa_cons (pe_op op_sub (pe_callB call_lenT (by rfl) T.len PySem.boot_len (pa_cons (pe_fld (pv 0) rfl) pa_nil)) pe_int) pa_nil)))))
      (pss_one (L2N.ps_raise rfl (L2N.takes_of rfl rfl rfl rfl) (pmk_oi oN T.gN hr (pa_cons (pv 1) pa_nil)))) pss_nil), ?_⟩
    refine ⟨_, rfl, _, rfl, r, C, dx, _, _, rfl, e, T.cl, T.nL, rd_lines L TT, L, _, rfl, hL.1, _, _, rfl, rfl, v, d, _, rfl, hd, ?_⟩
    rw [List.length_map]
    refine ⟨_, rfl, ?_⟩
    rcases k with ⟨hn, k⟩ | ⟨hn, k⟩
    · rw [hn]; exact iteF k
    · rw [hn]; exact iteT ⟨_, rfl, _, rfl, fun dd nd => k dd nd⟩
structure TxG2 (K : PySem.W.Frag) (mg : Str → Option Value) (P : Program) (w : World) (base : Heap) (C CN : Addr) : Prop extends TxG K mg P w base C CN where
  need : ∃ f fd, Meth K C "_need_line" f ∧ Binds K fd ["self", "at"] [] ∧ FnOk P w K mg base (L2N.CX P w) 4 f fd ["self", "at"] (spNeed K C CN)
theorem scGe : FnScope ["self", "at"] ["self", "at"] (defScope sGet) := ⟨rfl, rfl, rfl, by decide +kernel, rfl, by decide +kernel, by decide +kernel⟩
theorem rd_no {L T : Addr} {m : Str} (h1 : m ≠ "_lines") (h2 : m ≠ "_tested") : (rdF L T).lookup m = none := by
  rw [← rd_flds, lookup_putF, if_neg h2, lookup_putF, if_neg h1]; rfl
theorem ok_get {C CN f : Addr} {fd : FuncData} (F : Fun K "__getitem__" "Reader.__getitem__" sGet f fd) (T : TxG2 K mg P w base C CN) : FnOk P w K mg base (L2N.CX P w) 5 f fd ["self", "at"] (spGet K C CN) := by
  obtain ⟨g, gd, M, bG, GG⟩ := T.need
  refine okN F scGe (fun vs H Q E h => ?_) (fun cdv A outer s H vs Q E hr h => ?_)
  · obtain ⟨r, rs, v, d, rfl, _⟩ := h; rfl
  · obtain ⟨r, rs, v, d, rfl, hR, hd, k⟩ := h
    obtain ⟨dx, L, TT, ps, e, hL, _⟩ := id hR
    refine ⟨_, pss_cons (ps_expr (pe_meth (pv 0) T.cl M GG hr bG .nil (L2N.passes_call (L2N.takes_of rfl rfl rfl rfl) (fun _ _ _ _ h => h)) (pa_cons (pv 1) pa_nil)))
      (pss_one (ps_ret (pe_ix ix_tup (pe_fld (pv 0) rfl) (pv 1) (fun _ _ => rfl)))), ?_⟩
    refine ⟨_, rfl, r, dx, _, rfl, e, rd_no (by decide +kernel) (by decide +kernel), _, rfl, r, rs, v, d, rfl, hR, hd, ?_⟩
    rcases k with ⟨n, q, rfl, hq, k⟩ | ⟨hn, k⟩
    · cases hd
      have hn : n < rs.length := (List.getElem?_eq_some_iff.mp hq).1
      refine .inl ⟨?_, ?_⟩
      · show (decide (0 ≤ (n : Int)) && decide ((n : Int) ≤ (rs.length : Int) - 1)) = true
        simp; omega
      · exact ⟨_, rfl, r, C, dx, _, _, rfl, e, T.cl, T.nL, rd_lines L TT, _, rfl, L, _, _, .ref q.1, rfl, rfl, hL.1, atI_nat (by rw [List.getElem?_map, hq]; rfl), k⟩
    · exact .inr ⟨hn, k⟩
end
end Rd

namespace Rd
open PySem PySem.Spec PyProof.Rows L2 Tq Dn Dc Ox
/-- table and part of the lines that read -/
def rdOf : Ln → Option (Str × Str)
  | .read t p => some (t, p)
  | _ => none
def rps (ls : List Ln) : List (Str × Str) := ls.filterMap rdOf
def partsOf (t : Str) (ls : List Ln) : List Str := ((rps ls).filter fun x => decide (x.1 = t)).map Prod.snd
/-- tables and their parts, in a dict of which these are the pairs -/
structure ReadsD (H : Hp) (kvs : List (Key × V)) (ls : List Ln) : Prop where
  ex : ∃ es : List (Str × Addr), kvs = es.map (fun e => (Sum.inr e.1, V.ref e.2)) ∧ AscS ((rps ls).map Prod.fst) (es.map Prod.fst) ∧ ∀ e ∈ es, H e.2 = some (.tup ((partsOf e.1 ls).map V.str))
def spReadings (K : PySem.W.Frag) (C : Addr) : Sp := fun vs H Q _ => ∃ (r : Addr) (rs : RowsL), vs = [.ref r] ∧ RdAt K C H r rs ∧ RdOk rs ∧ ∀ H' D kvs, Same H H' → H D = none → H' D = some (.dK kvs) → ReadsD H' kvs (lnsOf rs) → Q (.ref D) H'
def rTupOf (K : PySem.W.Frag) : List V → Hp → VK → Prop := fun xs H Q => ∃ p ys, xs = [.ref p] ∧ SqL K H p ys ∧ ∀ l, H l = none → Q (.ref l) (upd H l (.tup ys))
theorem call_tupOf {X : Cx} : CallR X (.type "tuple") (rTupOf X.K) := by
  intro pins s σ H xs us Q I r h
  obtain ⟨p, ys, e, h1, h2⟩ := h
  exact call_tuple_of pins s σ H xs us Q I r ⟨p, ys, e, .inl ⟨h1, h2⟩⟩
theorem rp_read {l : Ln} (h : l.word = "read") : ∃ t p, l = .read t p := by
  cases l with
  | go n => exact absurd (show ("go" : Str) = "read" from h) (by decide +kernel)
  | ift t p n => exact absurd (show ("if" : Str) = "read" from h) (by decide +kernel)
  | look t p => exact absurd (show ("look" : Str) = "read" from h) (by decide +kernel)
  | read t p => exact ⟨t, p, rfl⟩
theorem rdOf_none {l : Ln} (h : l.word ≠ "read") : rdOf l = none := by
  cases l <;> first | rfl | exact absurd rfl h
abbrev isRd (r : Addr × Ln) : Bool := decide (r.2.word = ("read" : Str))
theorem rps_rows : ∀ rs : RowsL, (rs.filter isRd).map (fun r => rdOf r.2) = (rps (lnsOf rs)).map some
  | [] => rfl
  | r :: rs => by
    have ih := rps_rows rs
    by_cases h : r.2.word = "read"
    · obtain ⟨t, p, e⟩ := rp_read h
      rw [List.filter_cons_of_pos (by exact decide_eq_true h), List.map_cons, ih]
      show _ = ((r.2 :: lnsOf rs).filterMap rdOf).map some
      rw [List.filterMap_cons, e]; rfl
    · rw [List.filter_cons_of_neg (by simp [h]), ih]
      show _ = ((r.2 :: lnsOf rs).filterMap rdOf).map some
      rw [List.filterMap_cons, rdOf_none h]; rfl
def tabOf (l : Ln) : Str := ((rdOf l).map Prod.fst).getD Str.empty
def parOf (l : Ln) : Str := ((rdOf l).map Prod.snd).getD Str.empty
theorem some_map {α β γ : Type} {f : α → Option β} {g : Option β → γ} {l : List α} {m : List β} (h : l.map f = m.map some) : l.map (fun a => g (f a)) = m.map fun b => g (some b) := by
  have := congrArg (List.map g) h
  rw [List.map_map, List.map_map] at this
  exact this
theorem tabs_rows (rs : RowsL) : (rs.filter isRd).map (fun r => tabOf r.2) = (rps (lnsOf rs)).map Prod.fst :=
  some_map (g := fun o => (o.map Prod.fst).getD Str.empty) (rps_rows rs)
theorem some_filter {α β γ : Type} {f : α → Option β} {p : Option β → Bool} {g : Option β → γ} : ∀ {l : List α} {m : List β}, l.map f = m.map some → (l.filter fun a => p (f a)).map (fun a => g (f a)) = (m.filter fun b => p (some b)).map fun b => g (some b)
  | [], [], _ => rfl
  | [], _ :: _, h => nomatch h
  | _ :: _, [], h => nomatch h
  | a :: l, b :: m, h => by
    have h1 : f a = some b := (List.cons.inj h).1
    have ih := some_filter (p := p) (g := g) (List.cons.inj h).2
    by_cases c : p (some b) = true
    · rw [List.filter_cons_of_pos (by rw [h1]; exact c), List.filter_cons_of_pos (p := fun b => p (some b)) (a := b) c, List.map_cons, List.map_cons, ih, h1]
    · rw [List.filter_cons_of_neg (by rw [h1]; exact c), List.filter_cons_of_neg (p := fun b => p (some b)) (a := b) c, ih]
theorem parts_rows (t : Str) (rs : RowsL) : ((rs.filter isRd).filter fun r => decide (tabOf r.2 = t)).map (fun r => parOf r.2) = partsOf t (lnsOf rs) :=
  some_filter (p := fun o => decide ((o.map Prod.fst).getD Str.empty = t)) (g := fun o => (o.map Prod.snd).getD Str.empty) (rps_rows rs)
abbrev prE (e : Str × Addr) : Key × V := (Sum.inr e.1, V.ref e.2)
theorem put_new {es : List (Str × Addr)} {t : Str} {v : V} (h : t ∉ es.map Prod.fst) : putK (es.map prE) (Sum.inr t : Key) v = es.map prE ++ [(Sum.inr t, v)] := by
  unfold putK
  rw [if_neg]
  rw [List.any_map]
  intro z
  obtain ⟨e, he, q⟩ := List.any_eq_true.mp z
  have q' : (Sum.inr e.1 : Key) = Sum.inr t := of_decide_eq_true q
  exact h (by rw [← Sum.inr.inj q']; exact List.mem_map_of_mem he)
theorem scRg : FnScope ["self", "reads", "tables", "line", "table"] ["self"] (defScope sReadings) := ⟨rfl, rfl, rfl, by decide +kernel, rfl, by decide +kernel, by decide +kernel⟩
section
variable {P : Program} {w : World} {K : PySem.W.Frag} {mg : Str → Option Value} {base : Heap}
theorem ok_readings {C f : Addr} {fd : FuncData} (F : Fun K "readings" "Reader.readings" sReadings f fd) (T : TxR0 K mg P w base C) : FnOk P w K mg base CX0 2 f fd ["self"] (spReadings K C) := by
  obtain ⟨g, gd, mG, kG, bG, GG⟩ := T.ascS
  refine F.ok scRg (fun vs H Q E h => ?_) (fun cdv A outer s H vs Q E hr h => ?_)
  · obtain ⟨r, rs, rfl, _⟩ := h; rfl
  · obtain ⟨r, rs, rfl, ⟨dx, L, TT, ps, e, hL, _⟩, ok, k⟩ := h
    refine ⟨_, pss_cons (ps_set (i := 1) scRg.nd rfl (Or.inr rfl) (pe_lc (own := [("line", 3)]) (g := gName 3) (tt := tTest (tOp rEq (tOp (rIxT K) (tVar 3) (tC (.int 0))) (tC (.str "read")))) (te := tVar 3) rfl scRg.nd (pi_tup (pe_fld (pv 0) rfl))
        (blkOk_by (N := ["self", "reads", "tables", "line", "table"]) (sc := defScope sReadings) (by decide +kernel)) (fun _ _ _ _ _ => pg_name (i := 3) scRg.nd rfl (Or.inl rfl))
        (fun _ _ _ _ _ => pts_one (pt_cmpR op_eq (pe_ix ix_tup (pv 3) pe_int (fun _ _ => rfl)) pe_str (nomark _))) (fun _ _ _ _ _ => pv 3)))
      (pss_cons (ps_set (i := 2) scRg.nd rfl (Or.inl rfl) (pe_call GG hr (by rfl) mG kG bG .nil pass0 (pa_cons (pe_lc (own := [("line", 3)]) (g := gName 3) (tt := tYes) (te := tOp (rIxT K) (tVar 3) (tC (.int 1))) rfl scRg.nd (pi_list (pv 1))
        (blkOk_by (N := ["self", "reads", "tables", "line", "table"]) (sc := defScope sReadings) (by decide +kernel)) (fun _ _ _ _ _ => pg_name (i := 3) scRg.nd rfl (Or.inl rfl)) (fun _ _ _ _ _ => pts_nil)
        (fun _ _ _ _ _ => pe_ix ix_tup (pv 3) pe_int (fun _ _ => rfl))) pa_nil)))
      (pss_one (ps_ret (pe_dc (own := [("table", 4)]) (g := gName 4) (tt := tYes) (tk := tVar 4)
        (tv := tCB (rTupOf K) (tCons (tLc (iList K (tVar 1)) (gName 3) (tTest (tOp rEq (tOp (rIxT K) (tVar 3) (tC (.int 1))) (tVar 4))) (tOp (rIxT K) (tVar 3) (tC (.int 2))) [3]) tNil)) rfl scRg.nd (pi_tup (pv 2))
        (blkOk_by (N := ["self", "reads", "tables", "line", "table"]) (sc := defScope sReadings) (by decide +kernel)) (fun _ _ _ _ _ => pg_name (i := 4) scRg.nd rfl (Or.inr rfl)) (fun _ _ _ _ _ => pts_nil) (fun _ _ _ _ _ => pv 4)
        (fun _ _ _ _ _ => pe_callTy call_tupOf (by rfl) T.tuple PyProof.Rows.boot_tuple (pa_cons (pe_lc (own := [("line", 3)]) (g := gName 3) (tt := tTest (tOp rEq (tOp (rIxT K) (tVar 3) (tC (.int 1))) (tVar 4))) (te := tOp (rIxT K) (tVar 3) (tC (.int 2))) rfl scRg.nd (pi_list (pv 1))
          (blkOk_by (N := ["self", "reads", "tables", "line", "table"]) (by rfl)) (fun _ _ _ _ _ => pg_name (i := 3) scRg.nd rfl (Or.inl rfl))
          (fun _ _ _ _ _ => pts_one (pt_cmpR op_eq (pe_ix ix_tup (pv 3) pe_int (fun _ _ => rfl)) (pv 4) (nomark _))) (fun _ _ _ _ _ => pe_ix ix_tup (pv 3) pe_int (fun _ _ => rfl))) pa_nil)))))), ?_⟩
    have take_filter : ∀ (i : Nat) (q : Addr × Ln), rs[i]? = some q → (rs.take (i + 1)).filter isRd = (rs.take i).filter isRd ++ (if isRd q then [q] else []) := fun i q hq => by
      rw [List.take_add_one, hq, List.filter_append]
      congr 1
      by_cases h : isRd q
      · rw [if_pos h]; exact List.filter_cons_of_pos h
      · rw [if_neg h]; exact List.filter_cons_of_neg h
    refine ⟨_, rfl, r, C, dx, _, _, rfl, e, T.cl, T.nL, rd_lines L TT, L, rfl, ⟨_, hL.1⟩, fun D hD => ?_⟩
    have off : Off D (fun i acc (_ : Hp) => acc = ((rs.take i).filter isRd).map fun r => V.ref r.1) := fun _ _ _ _ _ _ _ z => z
    refine lc_fil walk_tup hD (fun i acc _ => acc = ((rs.take i).filter isRd).map fun r => V.ref r.1) rfl (fun H' s' => sqT_up hL.1 s') ?_ ?_
    · rintro i v acc H2 H3 hi s2 e2 rfl ⟨rfl, hv⟩
      rw [List.getElem?_map] at hv
      obtain ⟨q, hq, rfl⟩ := Option.map_eq_some_iff.mp hv
      have hr := sqT_up (hL.2 q (List.mem_of_getElem? hq)) s2
      refine ⟨rfl, ?_⟩
      refine ⟨_, rfl, q.1, _, _, _, rfl, rfl, hr, atI_nat (j := 0) (ln_word q.2), rfl, _, rfl, ?_⟩
      have ed : decide (V.str q.2.word = V.str "read") = isRd q := by unfold isRd; simp
      refine ite2 (fun c => ?_) (fun c => ?_)
      · refine ⟨_, rfl, put_of hD off s2 e2 (Same.refl _) ?_ ?_⟩
        · rw [List.length_map, sizeLine_eq]
          have := List.length_filter_le isRd (rs.take i)
          rw [List.length_take] at this
          have := ok.few
          omega
        · rw [take_filter i q hq, if_pos (by rw [← ed]; exact c), List.map_append]; rfl
      · refine fil_of s2 e2 (Same.refl _) ?_
        rw [take_filter i q hq, if_neg (by rw [← ed]; exact c), List.append_nil]
    · rintro acc H2 s2 e2 rfl
      rw [List.length_map, List.take_length] at e2
      generalize hrr : rs.filter isRd = rr at e2
      have ar : ∀ q ∈ rr, ∃ t p, q.2 = .read t p := fun q hq => by rw [← hrr] at hq; exact rp_read (of_decide_eq_true (List.mem_filter.mp hq).2)
      have qr : ∀ q ∈ rr, SqT K H2 q.1 q.2.vs := fun q hq => by rw [← hrr] at hq; exact sqT_up (hL.2 q (List.mem_filter.mp hq).1) s2
      have lr : rr.length ≤ 16 := by rw [← hrr]; exact Nat.le_trans (List.length_filter_le _ _) ok.few
      have at1 : ∀ q ∈ rr, q.2.vs[1]? = some (.str (tabOf q.2)) ∧ q.2.vs[2]? = some (.str (parOf q.2)) := fun q hq => by
        obtain ⟨t, p, e⟩ := ar q hq
        rw [e]; exact ⟨rfl, rfl⟩
      refine ⟨_, rfl, D, rfl, ⟨_, SqL.of e2⟩, fun D2 hD2 => ?_⟩
      have off2 : Off D2 (fun i acc (_ : Hp) => acc = (rr.take i).map fun r => V.str (tabOf r.2)) := fun _ _ _ _ _ _ _ z => z
      refine lc_fil walk_list hD2 (fun i acc _ => acc = (rr.take i).map fun r => V.str (tabOf r.2)) rfl (fun H' s' => sqL_up (SqL.of e2) s') ?_ ?_
      · rintro i v acc H3 H4 hi s3 e3 rfl ⟨rfl, hv⟩
        rw [List.getElem?_map] at hv
        obtain ⟨q, hq, rfl⟩ := Option.map_eq_some_iff.mp hv
        have hm := List.mem_of_getElem? hq
        refine ⟨rfl, tt_yes ⟨_, rfl, q.1, _, _, _, rfl, rfl, sqT_up (qr q hm) s3, atI_nat (j := 1) (at1 q hm).1, ?_⟩⟩
        refine put_of hD2 off2 s3 e3 (Same.refl _) (by rw [List.length_map, List.length_take, sizeLine_eq]; omega) ?_
        rw [List.take_add_one, hq, List.map_append]; rfl
      · rintro acc H3 s3 e3 rfl
        rw [List.length_map, List.take_length] at e3
        have e3' : H3 D2 = some (.lst ((rr.map fun r => tabOf r.2).map V.str)) := by rw [e3, List.map_map]; rfl
        refine ⟨D2, _, rfl, SqL.of e3', by rw [List.length_map]; omega, fun H4 p ts s4 np hA hn e4 => ?_⟩
        have hA' : AscS ((rps (lnsOf rs)).map Prod.fst) ts := by rw [← tabs_rows, hrr]; exact hA
        have nd : ts.Nodup := List.nodup_iff_pairwise_ne.mpr (hA.up.imp fun {x y} z e => by subst e; exact absurd z (List.lt_irrefl _))
        have hD4 : H4 D = some (.lst (rr.map fun r => V.ref r.1)) := s4 _ _ (s3 _ _ e2)
        refine ⟨_, rfl, p, rfl, ⟨_, SqT.of e4⟩, fun D3 hD3 => ?_⟩
        have base0 : Same H H4 := (s2.trans s3).trans s4
        refine dc_tup (xs := ts.map V.str) (fun i H' => Same H4 H' ∧ ∃ es : List (Str × Addr), es.map Prod.fst = ts.take i ∧ H' D3 = some (.dK (es.map prE)) ∧ ∀ x ∈ es, H' x.2 = some (.tup ((partsOf x.1 (lnsOf rs)).map V.str)))
          ⟨same_new hD3, [], rfl, upd_same, fun x hx => nomatch hx⟩ (fun i H' _ z => sqT_up (SqT.of e4) z.1) ?_ ?_
        · rintro i x H5 hx ⟨s5, es, ee, e5, hes⟩
          rw [List.getElem?_map] at hx
          obtain ⟨t, ht, rfl⟩ := Option.map_eq_some_iff.mp hx
          refine ⟨rfl, tt_yes ⟨_, rfl, ?_⟩⟩
          refine ⟨_, rfl, D, rfl, ⟨_, SqL.of (s5 _ _ hD4)⟩, fun D4 hD4' => ?_⟩
          have off4 : Off D4 (fun i acc (_ : Hp) => acc = ((rr.take i).filter fun r => decide (tabOf r.2 = t)).map fun r => V.str (parOf r.2)) := fun _ _ _ _ _ _ _ z => z
          refine lc_fil walk_list hD4' (fun i acc _ => acc = ((rr.take i).filter fun r => decide (tabOf r.2 = t)).map fun r => V.str (parOf r.2)) rfl (fun H' s' => sqL_up (SqL.of (s5 _ _ hD4)) s') ?_ ?_
          · rintro j v acc H6 H7 hj s6 e6 rfl ⟨rfl, hv⟩
            rw [List.getElem?_map] at hv
            obtain ⟨q, hq, rfl⟩ := Option.map_eq_some_iff.mp hv
            have hm := List.mem_of_getElem? hq
            have hq6 := sqT_up (qr q hm) ((s3.trans s4).trans (s5.trans s6))
            have nx : (rr.take (j + 1)).filter (fun r => decide (tabOf r.2 = t)) = (rr.take j).filter (fun r => decide (tabOf r.2 = t)) ++ [q].filter fun r => decide (tabOf r.2 = t) := by rw [List.take_add_one, hq, List.filter_append]; rfl
            refine ⟨rfl, ?_⟩
            refine ⟨_, rfl, q.1, _, _, _, rfl, rfl, hq6, atI_nat (j := 1) (at1 q hm).1, _, rfl, rfl, _, rfl, ?_⟩
            refine ite2 (fun c => ?_) (fun c => ?_)
            · have c' : tabOf q.2 = t := V.str.inj (of_decide_eq_true c)
              refine ⟨_, rfl, q.1, _, _, _, rfl, rfl, hq6, atI_nat (j := 2) (at1 q hm).2, ?_⟩
              refine put_of hD4' off4 s6 e6 (Same.refl _) ?_ ?_
              · rw [List.length_map, sizeLine_eq]
                have := List.length_filter_le (fun r : Addr × Ln => decide (tabOf r.2 = t)) (rr.take j)
                rw [List.length_take] at this
                omega
              · rw [nx, List.filter_cons_of_pos (by exact decide_eq_true c'), List.map_append]; rfl
            · have c' : ¬ tabOf q.2 = t := fun z => c (by rw [z]; simp)
              refine fil_of s6 e6 (Same.refl _) ?_
              rw [nx, List.filter_cons_of_neg (by simp [c'])]; simp
          · rintro acc H6 s6 e6 rfl
            rw [List.length_map, List.take_length] at e6
            have e6' : H6 D4 = some (.lst ((partsOf t (lnsOf rs)).map V.str)) := by rw [e6, ← parts_rows, hrr, List.map_map]; rfl
            refine ⟨D4, _, rfl, SqL.of e6', fun l nl => ?_⟩
            have s7 := s6.trans (same_new (o := HO.tup ((partsOf t (lnsOf rs)).map V.str)) nl)
            have el : es.length = i := by
              have := congrArg List.length ee
              rw [List.length_map, List.length_take] at this
              have := (List.getElem?_eq_some_iff.mp ht).1
              omega
            have tn : t ∉ es.map Prod.fst := by
              rw [ee]
              intro z
              obtain ⟨k, hk, hk2⟩ := List.getElem_of_mem z
              rw [List.length_take] at hk
              obtain ⟨h1, h2⟩ := List.getElem?_eq_some_iff.mp ht
              rw [List.getElem_take] at hk2
              exact (List.pairwise_iff_getElem.mp (List.nodup_iff_pairwise_ne.mp nd)) k i (by omega) h1 (by omega) (hk2.trans h2.symm)
            refine ⟨es.map prE, Sum.inr t, rfl, s7 _ _ e5, ?_, ?_⟩
            · rw [List.length_map, el, sizeLine_eq]
              have := (List.getElem?_eq_some_iff.mp ht).1
              rw [List.length_map] at hn
              omega
            · rw [put_new tn]
              have nD3 : H4 D3 = none := hD3
              refine ⟨same_to nD3 (s5.trans s7), es ++ [(t, l)], by rw [List.map_append, ee, List.take_add_one, ht]; rfl, by rw [upd_same, List.map_append]; rfl, fun x hx => ?_⟩
              have ne : ∀ a o, upd H6 l (HO.tup ((partsOf t (lnsOf rs)).map V.str)) a = some (.tup o) → a ≠ D3 := fun a o q z => by
                subst z
                rw [s7 _ _ e5] at q
                cases q
              rcases List.mem_append.mp hx with z | z
              · have q := s7 _ _ (hes x z)
                rw [upd_ne (ne _ _ q)]; exact q
              · rw [List.mem_singleton.mp z]
                rw [upd_ne (ne l _ upd_same)]; exact upd_same
        · rintro H5 ⟨s5, es, ee, e5, hes⟩
          rw [List.length_map, List.take_length] at ee
          exact k H5 D3 _ (base0.trans s5) (base0.free hD3) e5 ⟨es, rfl, by rw [ee]; exact hA', hes⟩
end
end Rd

namespace Rd
open PySem PySem.Spec PyProof.Rows L2 Tq Dn Dc Ox
abbrev sLn : Stmt := top 50
abbrev sLns : Stmt := top 51
def T3 : List Str := ["item", "order", "buyer"]
def P2 : List Str := ["live", "arch"]
/-- a drawn line -/
def Ln.drawn (m : Nat) : Ln → Prop
  | .go n => n ≤ m
  | .ift t p n => t ∈ T3 ∧ p ∈ P2 ∧ n ≤ m
  | .look t p => t ∈ T3 ∧ p ∈ P2
  | .read t p => t ∈ T3 ∧ p ∈ P2
theorem names_t : ∀ t ∈ T3, nameS t = true := by decide +kernel
theorem names_p : ∀ p ∈ P2, nameS p = true := by decide +kernel
theorem drawn_fine {l : Ln} {m : Nat} (h : l.drawn m) : l.fine m = true := by
  cases l with
  | go n => exact decide_eq_true h
  | ift t p n => show (nameS t && (nameS p && decide (n ≤ m))) = true; rw [names_t t h.1, names_p p h.2.1, decide_eq_true h.2.2]; rfl
  | look t p => show (nameS t && nameS p) = true; rw [names_t t h.1, names_p p h.2]; rfl
  | read t p => show (nameS t && nameS p) = true; rw [names_t t h.1, names_p p h.2]; rfl
theorem sub_len {α : Type} [DecidableEq α] : ∀ {xs ys : List α}, xs.Nodup → (∀ x ∈ xs, x ∈ ys) → xs.length ≤ ys.length
  | [], _, _, _ => Nat.zero_le _
  | x :: xs, ys, nd, h => by
    obtain ⟨n1, n2⟩ := List.nodup_cons.mp nd
    have hx := h x List.mem_cons_self
    have ih := sub_len (xs := xs) (ys := ys.erase x) n2 fun z hz => by
      have hz2 := h z (.tail _ hz)
      exact (List.mem_erase_of_ne (fun e => n1 (by rw [← e]; exact hz))).mpr hz2
    rw [List.length_erase_of_mem hx] at ih
    have : 0 < ys.length := List.length_pos_of_mem hx
    rw [List.length_cons]; omega
def six : List (List Str) := [["item", "live"], ["item", "arch"], ["order", "live"], ["order", "arch"], ["buyer", "live"], ["buyer", "arch"]]
theorem in_six : ∀ t ∈ T3, ∀ p ∈ P2, [t, p] ∈ six := by decide +kernel
theorem drawn_ok {rs : RowsL} (h : ∀ r ∈ rs, r.2.drawn rs.length) (few : rs.length ≤ 16) : RdOk rs := by
  refine ⟨few, fun r hr => drawn_fine (h r hr), fun ps hA => ?_⟩
  refine Nat.le_trans (sub_len (up_nodup hA.up) (ys := six) fun k hk => ?_) (by decide)
  obtain ⟨l, hl, rfl⟩ := List.mem_map.mp ((hA.mem k).mp hk)
  obtain ⟨h1, h2⟩ := List.mem_filter.mp hl
  obtain ⟨r, hr, rfl⟩ := List.mem_map.mp h1
  have hd := h r hr
  cases e : r.2 with
  | go n => rw [e] at h2; exact absurd h2 (by show ¬ ([("if" : Str)].contains ("go" : Str)) = true; decide +kernel)
  | ift t p n => rw [e] at hd; exact in_six t hd.1 p hd.2.1
  | look t p => rw [e] at hd; exact in_six t hd.1 p hd.2
  | read t p => rw [e] at hd; exact in_six t hd.1 p hd.2
structure TxE2 (K : PySem.W.Frag) (mg : Str → Option Value) (P : Program) (w : World) (base : Heap) : Prop extends TxM K mg where
  roll : Has P w K mg base "_law_roll" 1 ["_law_dice_here", "_law_total"] spRoll
  one : Has P w K mg base "_law_one_of" 2 ["_law_dice_here", "_law_items"] spOne
def spLn : Sp := fun vs H Q _ => ∃ (p : Addr) (m : Nat), vs = [.ref p, .int (m : Int)] ∧ DiceAt H p ∧ m ≤ 16 ∧ ∀ a l H', Keep p H H' → DiceAt H' p → H a = none → H' a = some (.tup l.vs) → Ln.drawn m l → Q (.ref a) H'
def sizes : List Nat := [0, 1, 2, 3, 4, 5, 7, 9, 16]
def spLns (K : PySem.W.Frag) : Sp := fun vs H Q _ => ∃ (p : Addr) (mm : Nat), vs = [.ref p, .int (mm : Int)] ∧ mm ≤ 16 ∧ DiceAt H p ∧ ∀ (L : Addr) (rs : RowsL) (H' : Hp), Keep p H H' → DiceAt H' p → H L = none → H' L = some (.tup (rs.map fun r => .ref r.1)) → (∀ r ∈ rs, H' r.1 = some (.tup r.2.vs)) → (∀ r ∈ rs, r.2.drawn rs.length) → rs.length ≤ mm → Q (.ref L) H'
section
variable {P : Program} {w : World} {K : PySem.W.Frag} {mg : Str → Option Value} {base : Heap}
theorem scLn : FnScope ["_law_dice_here", "_law_size", "_law_way", "_law_table", "_law_part"] ["_law_dice_here", "_law_size"] (defScope sLn) := ⟨rfl, rfl, rfl, by decide +kernel, rfl, by decide +kernel, by decide +kernel⟩
theorem pick_s {xs : List Str} {i : Nat} {x : V} (h : (xs.map V.str)[i]? = some x) : ∃ s ∈ xs, x = .str s := by
  rw [List.getElem?_map] at h
  obtain ⟨s, hs, rfl⟩ := Option.map_eq_some_iff.mp h
  exact ⟨s, List.mem_of_getElem? hs, rfl⟩
theorem keep_free {p q : Addr} {H H' : Hp} (k : Keep p H H') (hD : DiceAt H' p) (n : H' q = none) : H q = none := by
  obtain ⟨a, b, c, hp, _⟩ := hD
  cases e : H q with
  | none => rfl
  | some o =>
    have hq : q ≠ p := fun z => by rw [z, hp] at n; cases n
    rw [k q o hq e] at n; cases n
/-- what is new stands apart from the dice -/
theorem dice_ne {p q : Addr} {H : Hp} (hD : DiceAt H p) (n : H q = none) : q ≠ p := fun e => by
  obtain ⟨a, b, c, hp, _⟩ := hD
  rw [e, hp] at n; cases n
theorem dice_upd {p q : Addr} {H : Hp} {o : HO} (hD : DiceAt H p) (n : q ≠ p) : DiceAt (upd H q o) p := by
  obtain ⟨a, b, c, hp, h⟩ := hD
  exact ⟨a, b, c, by rw [upd_ne (Ne.symm n)]; exact hp, h⟩
theorem ok_ln {f : Addr} {fd : FuncData} (F : Fun K "_law_line" "_law_line" sLn f fd) (T : TxE2 K mg P w base) : FnOk P w K mg base CX0 3 f fd ["_law_dice_here", "_law_size"] spLn := by
  obtain ⟨fR, fdR, mR, kR, bR, GR⟩ := T.roll
  obtain ⟨fO, fdO, mO, kO, bO, GO⟩ := T.one
  refine F.ok scLn (fun vs H Q E h => ?_) (fun cdv A outer s H vs Q E hr h => ?_)
  · obtain ⟨p, m, rfl, _⟩ := h; rfl
  · obtain ⟨p, m, rfl, hD, hm, k⟩ := h
    have hr1 : Room 1 _ := hr.mono (by decide)
    refine ⟨_, pss_cons (ps_par (i := 2) (j := 3) rfl scLn.nd rfl rfl (by decide) rfl rfl (pa_cons (pe_call GR hr1 (by rfl) mR kR bR .nil pass0 (pa_cons (pv 0) (pa_cons pe_int pa_nil))) (pa_cons (pe_call GO hr (by rfl) mO kO bO .nil pass0 (pa_cons (pv 0) (pa_cons (pe_lst (pa_cons pe_str (pa_cons pe_str (pa_cons pe_str pa_nil)))) pa_nil))) pa_nil)) (by rfl))
      (pss_cons (ps_set (i := 4) scLn.nd rfl (Or.inl rfl) (pe_call GO hr (by rfl) mO kO bO .nil pass0 (pa_cons (pv 0) (pa_cons (pe_lst (pa_cons pe_str (pa_cons pe_str pa_nil))) pa_nil))))
      (pss_cons (ps_if (pt_cmpR op_eq (pv 2) pe_int (nomark _)) (pss_one (ps_ret (pe_tup (pa_cons pe_str (pa_cons (pe_call GR hr1 (by rfl) mR kR bR .nil pass0 (pa_cons (pv 0) (pa_cons (pe_op op_add (pv 1) pe_int) pa_nil))) pa_nil))))) pss_nil)
      (pss_cons (ps_if (pt_cmpR op_lt (pv 2) pe_int (nomark _)) (pss_one (ps_ret (pe_tup (pa_cons pe_str (pa_cons (pv 3) (pa_cons (pv 4) (pa_cons (pe_call GR hr1 (by rfl) mR kR bR .nil pass0 (pa_cons (pv 0) (pa_cons (pe_op op_add (pv 1) pe_int) pa_nil))) pa_nil))))))) pss_nil)
      (pss_one (ps_ret (pe_ifExp (pt_cmpR op_eq (pv 2) pe_int (nomark _)) (pe_tup (pa_cons pe_str (pa_cons (pv 3) (pa_cons (pv 4) pa_nil)))) (pe_tup (pa_cons pe_str (pa_cons (pv 3) (pa_cons (pv 4) pa_nil)))))))))), ?_⟩
    obtain ⟨a, b, c, hp, ha⟩ := id hD
    refine ⟨_, rfl, p, 8, a, b, c, rfl, hp, ha, by decide, by decide, fun r x1 y1 z1 h1 h2 h3 => ?_⟩
    have k1 : Keep p H (upd H p (.lst [.int x1, .int y1, .int z1])) := keep_upd
    have d1 : DiceAt (upd H p (.lst [.int x1, .int y1, .int z1])) p := .upd h3
    generalize upd H p (HO.lst [V.int x1, V.int y1, V.int z1]) = H1 at k1 d1 ⊢
    refine ⟨_, rfl, (by show 3 ≤ sizeLine; decide), fun l1 n1 => ?_⟩
    have e1 := dice_ne d1 n1
    refine ⟨p, l1, _, rfl, dice_upd d1 e1, upd_same, e1, (by show 0 < 3; decide), (by show 3 < 1000; decide), fun i1 v1 a1 b1 c1 hv1 ha1 => ?_⟩
    obtain ⟨t, ht, rfl⟩ := pick_s (xs := T3) hv1
    have k2 : Keep p H (upd (upd H1 l1 (.lst [.str "item", .str "order", .str "buyer"])) p (.lst [.int a1, .int b1, .int c1])) := (k1.trans (keep_new n1)).trans keep_upd
    have d2 : DiceAt (upd (upd H1 l1 (.lst [.str "item", .str "order", .str "buyer"])) p (.lst [.int a1, .int b1, .int c1])) p := .upd ha1
    generalize upd (upd H1 l1 (HO.lst [V.str "item", V.str "order", V.str "buyer"])) p (HO.lst [V.int a1, V.int b1, V.int c1]) = H2 at k2 d2 ⊢
    refine ⟨_, _, rfl, ?_⟩
    refine ⟨_, rfl, (by show 2 ≤ sizeLine; decide), fun l2 n2 => ?_⟩
    have e2 := dice_ne d2 n2
    refine ⟨p, l2, _, rfl, dice_upd d2 e2, upd_same, e2, (by show 0 < 2; decide), (by show 2 < 1000; decide), fun i2 v2 a2 b2 c2 hv2 ha2 => ?_⟩
    obtain ⟨q, hq, rfl⟩ := pick_s (xs := P2) hv2
    have k3 : Keep p H (upd (upd H2 l2 (.lst [.str "live", .str "arch"])) p (.lst [.int a2, .int b2, .int c2])) := (k2.trans (keep_new n2)).trans keep_upd
    have d3 : DiceAt (upd (upd H2 l2 (.lst [.str "live", .str "arch"])) p (.lst [.int a2, .int b2, .int c2])) p := .upd ha2
    generalize upd (upd H2 l2 (HO.lst [V.str "live", V.str "arch"])) p (HO.lst [V.int a2, V.int b2, V.int c2]) = H3 at k3 d3 ⊢
    obtain ⟨a3, b3, c3, hp3, ha3⟩ := id d3
    have fin : ∀ (l : Ln) (H4 : Hp), Keep p H H4 → DiceAt H4 p → l.drawn m → ∀ u, H4 u = none → Q (.ref u) (upd H4 u (.tup l.vs)) := fun l H4 k4 d4 dr u nu =>
      k u l _ (k4.trans (keep_new nu)) (dice_upd d4 (dice_ne d4 nu)) (keep_free k4 d4 nu) upd_same dr
    refine ⟨_, rfl, rfl, _, rfl, ite2 (fun c0 => ?_) (fun c0 => ?_)⟩
    · refine ⟨_, rfl, _, rfl, _, _, rfl, rfl, p, _, a3, b3, c3, rfl, hp3, ha3, by omega, by omega, fun n x y z g1 g2 g3 => ?_⟩
      refine ⟨(by show 2 ≤ sizeLine; decide), fun u nu => ?_⟩
      have := fin (.go n.toNat) _ (k3.trans keep_upd) (.upd g3) (by show n.toNat ≤ m; omega) u nu
      rw [show ((Ln.go n.toNat).vs) = [.str "go", .int n] by show [V.str "go", V.int (n.toNat : Int)] = _; rw [Int.toNat_of_nonneg g1]] at this
      exact this
    refine ⟨_, rfl, _, _, rfl, rfl, _, rfl, ite2 (fun c1' => ?_) (fun c1' => ?_)⟩
    · refine ⟨_, rfl, _, rfl, _, rfl, _, rfl, _, _, rfl, rfl, p, _, a3, b3, c3, rfl, hp3, ha3, by omega, by omega, fun n x y z g1 g2 g3 => ?_⟩
      refine ⟨(by show 4 ≤ sizeLine; decide), fun u nu => ?_⟩
      have := fin (.ift t q n.toNat) _ (k3.trans keep_upd) (.upd g3) ⟨ht, hq, by omega⟩ u nu
      rw [show ((Ln.ift t q n.toNat).vs) = [.str "if", .str t, .str q, .int n] by show [V.str "if", V.str t, V.str q, V.int (n.toNat : Int)] = _; rw [Int.toNat_of_nonneg g1]] at this
      exact this
    refine ⟨_, rfl, rfl, _, rfl, ite2 (fun c2' => ?_) (fun c2' => ?_)⟩
    · exact ⟨_, rfl, _, rfl, (by show 3 ≤ sizeLine; decide), fun u nu => fin (.look t q) _ k3 d3 ⟨ht, hq⟩ u nu⟩
    · exact ⟨_, rfl, _, rfl, (by show 3 ≤ sizeLine; decide), fun u nu => fin (.read t q) _ k3 d3 ⟨ht, hq⟩ u nu⟩
end
end Rd

namespace Rd
open PySem PySem.Spec PyProof.Rows L2 Tq Dn Dc Ox
structure TxE3 (K : PySem.W.Frag) (mg : Str → Option Value) (P : Program) (w : World) (base : Heap) : Prop extends TxE2 K mg P w base where
  ln : Has P w K mg base "_law_line" 3 ["_law_dice_here", "_law_size"] spLn
theorem scLns : FnScope ["_law_dice_here", "_law_most", "_law_size", "_law_one", "_law_turn"] ["_law_dice_here", "_law_most"] (defScope sLns) := ⟨rfl, rfl, rfl, by decide +kernel, rfl, by decide +kernel, by decide +kernel⟩
abbrev vN (n : Nat) : V := .int (n : Int)
theorem sizes_le : ∀ n ∈ sizes, n ≤ 16 := by decide
section
variable {P : Program} {w : World} {K : PySem.W.Frag} {mg : Str → Option Value} {base : Heap}
theorem ok_lns {f : Addr} {fd : FuncData} (F : Fun K "_law_lines" "_law_lines" sLns f fd) (T : TxE3 K mg P w base) : FnOk P w K mg base CX0 4 f fd ["_law_dice_here", "_law_most"] (spLns K) := by
  obtain ⟨fL, fdL, mL, kL, bL, GL⟩ := T.ln
  obtain ⟨fO, fdO, mO, kO, bO, GO⟩ := T.one
  refine F.ok scLns (fun vs H Q E h => ?_) (fun cdv A outer s H vs Q E hr h => ?_)
  · obtain ⟨p, mm, rfl, _⟩ := h; rfl
  · obtain ⟨p, mm, rfl, hmm, hDi, k⟩ := h
    have hr2 : Room 2 _ := hr.mono (by decide)
    refine ⟨_, pss_cons (ps_set (i := 2) scLns.nd rfl (Or.inr rfl) (pe_call GO hr2 (by rfl) mO kO bO .nil pass0 (pa_cons (pv 0) (pa_cons (pe_lc (own := [("_law_one", 3)]) (g := gName 3) (tt := tTest (tOp (rI0 fun i j => .bl (decide (i ≤ j))) (tVar 3) (tVar 1))) (te := tVar 3) rfl scLns.nd
          (pi_tup (pe_tup (pa_cons pe_int (pa_cons pe_int (pa_cons pe_int (pa_cons pe_int (pa_cons pe_int (pa_cons pe_int (pa_cons pe_int (pa_cons pe_int (pa_cons pe_int pa_nil)))))))))))
          (blkOk_by (N := ["_law_dice_here", "_law_most", "_law_size", "_law_one", "_law_turn"]) (sc := defScope sLns) (by decide +kernel)) (fun _ _ _ _ _ => pg_name (i := 3) scLns.nd rfl (Or.inl rfl))
          (fun _ _ _ _ _ => pts_one (pt_cmpR op_le (pv 3) (pv 1) (nomark _))) (fun _ _ _ _ _ => pv 3)) pa_nil))))
      (pss_one (ps_ret (pe_callTy call_tupOf (by rfl) T.tuple PyProof.Rows.boot_tuple (pa_cons (pe_lc (own := [("_law_turn", 4)]) (g := gName 4) (tt := tYes) rfl scLns.nd (pi_range1 (by rfl) T.range (pa_cons (pv 2) pa_nil))
          (blkOk_by (N := ["_law_dice_here", "_law_most", "_law_size", "_law_one", "_law_turn"]) (sc := defScope sLns) (by decide +kernel)) (fun _ _ _ _ _ => pg_name (i := 4) scLns.nd rfl (Or.inl rfl)) (fun _ _ _ _ _ => pts_nil)
          (fun _ _ _ _ _ => pe_call GL hr (by rfl) mL kL bL .nil pass0 (pa_cons (pv 0) (pa_cons (pv 2) pa_nil)))) pa_nil)))), ?_⟩
    refine ⟨_, rfl, (by show 9 ≤ sizeLine; decide), fun t nt => ⟨t, rfl, ⟨_, SqT.of upd_same⟩, fun D hD => ?_⟩⟩
    have st := same_new (o := HO.tup (sizes.map vN)) nt
    have ht : upd H t (HO.tup (sizes.map vN)) t = some (.tup (sizes.map vN)) := upd_same
    change upd H t (HO.tup (sizes.map vN)) D = none at hD
    show ∃ W : Nat → Nat → Hp → Prop, (∃ m, W 0 m (upd (upd H t (HO.tup (sizes.map vN))) D (.lst []))) ∧ _
    have off : Off D (fun i acc (_ : Hp) => acc = ((sizes.take i).filter fun n => decide (n ≤ mm)).map vN) := fun _ _ _ _ _ _ _ z => z
    refine lc_fil (walk_tup (xs := sizes.map vN)) hD (fun i acc _ => acc = ((sizes.take i).filter fun n => decide (n ≤ mm)).map vN) rfl (fun H' s' => sqT_up (SqT.of ht) s') ?_ ?_
    · rintro i v acc H2 H3 hi s2 e2 rfl ⟨rfl, hv⟩
      rw [List.getElem?_map] at hv
      obtain ⟨n, hn, rfl⟩ := Option.map_eq_some_iff.mp hv
      refine ⟨rfl, ?_⟩
      refine ⟨_, rfl, _, rfl, _, _, rfl, rfl, _, rfl, ?_⟩
      have nx : (sizes.take (i + 1)).filter (fun n => decide (n ≤ mm)) = (sizes.take i).filter (fun n => decide (n ≤ mm)) ++ [n].filter fun n => decide (n ≤ mm) := by rw [List.take_add_one, hn, List.filter_append]; rfl
      refine ite2 (fun c => ?_) (fun c => ?_)
      · have c' : n ≤ mm := by have := of_decide_eq_true c; omega
        refine ⟨_, rfl, put_of hD off s2 e2 (Same.refl _) ?_ ?_⟩
        · rw [List.length_map, sizeLine_eq]
          have := List.length_filter_le (fun n => decide (n ≤ mm)) (sizes.take i)
          rw [List.length_take] at this
          have : sizes.length = 9 := rfl
          omega
        · rw [nx, List.filter_cons_of_pos (by exact decide_eq_true c'), List.map_append]; rfl
      · have c' : ¬ n ≤ mm := fun h => c (decide_eq_true (by omega))
        refine fil_of s2 e2 (Same.refl _) ?_
        rw [nx, List.filter_cons_of_neg (by simpa using c')]; simp
    · rintro acc H2 s2 e2 rfl
      rw [List.length_map, List.take_length] at e2
      have s02 := st.trans s2
      have d2 : DiceAt H2 p := let ⟨a, b, c, hp, ha⟩ := hDi; ⟨a, b, c, s02 _ _ hp, ha⟩
      have nDp : D ≠ p := fun z => by
        obtain ⟨a, b, c, hp, ha⟩ := hDi
        rw [z, st _ _ hp] at hD; cases hD
      have h0 : (0 : Nat) ∈ sizes.filter fun n => decide (n ≤ mm) := List.mem_filter.mpr ⟨by decide, decide_eq_true (Nat.zero_le _)⟩
      have hlen : (sizes.filter fun n => decide (n ≤ mm)).length ≤ 9 := List.length_filter_le _ _
      refine ⟨p, D, _, rfl, d2, e2, nDp, (by rw [List.length_map]; exact List.length_pos_of_mem h0), (by rw [List.length_map]; omega), fun i v a b c hv ha => ?_⟩
      rw [List.getElem?_map] at hv
      obtain ⟨n, hn, rfl⟩ := Option.map_eq_some_iff.mp hv
      have hnm : n ≤ mm := of_decide_eq_true (List.mem_filter.mp (List.mem_of_getElem? hn)).2
      have h16 : n ≤ 16 := by omega
      have k3 : Keep p H (upd H2 p (.lst [.int a, .int b, .int c])) := (same_keep s02).trans keep_upd
      have d3 : DiceAt (upd H2 p (.lst [.int a, .int b, .int c])) p := .upd ha
      generalize upd H2 p (HO.lst [V.int a, V.int b, V.int c]) = H3 at k3 d3 ⊢
      refine ⟨_, rfl, (n : Int), rfl, by omega, by omega, fun D2 hD2 => ?_⟩
      have n2p : D2 ≠ p := dice_ne d3 hD2
      refine lc_range (n := n) (fun i H' => Keep p H3 H' ∧ DiceAt H' p ∧ ∃ rs : RowsL, H' D2 = some (.lst (rs.map fun r => .ref r.1)) ∧ (∀ r ∈ rs, H' r.1 = some (.tup r.2.vs)) ∧ rs.length = i ∧ ∀ r ∈ rs, r.2.drawn n)
        ⟨keep_new hD2, dice_upd d3 n2p, [], upd_same, (fun r hr => nomatch hr), rfl, fun r hr => nomatch hr⟩ ?_ ?_
      · rintro i H4 hi ⟨k4, d4, rs, e4, hrs, el, dr⟩
        refine ⟨rfl, tt_yes ?_⟩
        refine ⟨_, rfl, _, rfl, p, n, rfl, d4, h16, fun u l H5 k5 d5 nu eu hl => ?_⟩
        have e5 : H5 D2 = some (.lst (rs.map fun r => .ref r.1)) := k5 _ _ n2p e4
        refine ⟨_, e5, by rw [List.length_map, sizeLine_eq]; omega, fun x o hx e => ?_, dice_upd d5 n2p, rs ++ [(u, l)], by rw [upd_same, List.map_append]; rfl, fun r hr => ?_, by simp [el], fun r hr => ?_⟩
        · rw [upd_ne (fun z => by rw [z, hD2] at e; cases e)]
          exact k5 x o hx (k4 x o hx e)
        · have ne : ∀ a o, H5 a = some (.tup o) → a ≠ D2 := fun a o q z => by
            subst z; rw [e5] at q; cases q
          rcases List.mem_append.mp hr with z | z
          · obtain ⟨a', b', c', hp', _⟩ := d4
            have q := k5 r.1 _ (fun z' => by have := hrs r z; rw [z', hp'] at this; cases this) (hrs r z)
            rw [upd_ne (ne _ _ q)]; exact q
          · rw [List.mem_singleton.mp z]
            rw [upd_ne (ne u _ eu)]; exact eu
        · rcases List.mem_append.mp hr with z | z
          · exact dr r z
          · rw [List.mem_singleton.mp z]; exact hl
      · rintro H4 ⟨k4, d4, rs, e4, hrs, el, dr⟩
        refine ⟨D2, _, rfl, SqL.of e4, fun l nl => ?_⟩
        have kk := (k3.trans k4).trans (keep_new (o := HO.tup (rs.map fun r => V.ref r.1)) nl)
        have dd := dice_upd (o := HO.tup (rs.map fun r => V.ref r.1)) d4 (dice_ne d4 nl)
        refine k l rs _ kk dd (keep_free (k3.trans k4) d4 nl) upd_same (fun r hr => ?_) (fun r hr => by rw [el]; exact dr r hr) (by omega)
        exact same_new nl _ _ (hrs r hr)
end
end Rd

/-! A reader that is not made: InvalidReader -/
namespace Rd
open PySem PySem.Spec PyProof.Rows L2 Tq Dn Dc Ox
abbrev bVe : List Value := [.type "ValueError", .type "Exception", .type "BaseException", .type "object"]
theorem upN {P : Program} {w : World} : StX.CXUp (L2N.CX P w) := fun outer s H s2 H2 E e s' un kp ho c => by
  obtain ⟨a, B, H', cls, d, ea, fl, hok, ub, na, os, ag, he⟩ := c
  refine ⟨a, B, H', cls, d, ea, fl, hok, ?_, na, os.trans ho, ag, he⟩
  exact { keep := fun b o q n hb => ub.keep b o (kp b o q) (un.free b o q n (by simp)) hb
          slot := fun b o q hb => ub.slot b o (kp b o q) hb
          free := fun b o q n => ub.free b o (kp b o q) (un.free b o q n (by simp))
          there := fun b o q hb => ub.there b o (kp b o q) hb
          tups := fun b xs q => ub.tups b xs (un.tups b xs q)
          frzs := fun b o xs q => ub.frzs b o xs (un.frzs b o xs q)
          tbls := fun b ps q => by
            obtain ⟨m1, e1⟩ := un.tbls b ps q
            obtain ⟨m2, e2⟩ := ub.tbls b _ e1
            exact ⟨m1 ++ m2, e2.trans (by rw [Array.append_assoc])⟩ }
section
variable {P : Program} {w : World} {K : PySem.W.Frag} {mg : Str → Option Value} {base : Heap}
theorem okStarN {x qual : Str} {st : Stmt} {f : Addr} {fd : FuncData} {N ps : List Str} {pv : Str} {k : Nat} {sp : Sp} (F : Fun K x qual st f fd) (S : FnScope N (ps ++ [pv]) (defScope st))
    (hb : ∀ (kV doc pm : Value) (an : Option Addr) (cdv ct : Value) (us rest : List Value), us.length = ps.length → bindArgs (PySem.W.fnOf x qual (defArgs st) (defBody st) (defScope st) .none kV doc pm an cdv ct) ⟨us ++ rest, []⟩ = (newTuple rest >>= fun t => pure (ps.zip us ++ [(pv, t)])))
    (hbody : ∀ (cdv : Value) (A : Around) (outer : List Env) (s : Shared) (H : Hp) (vs : List V) (Q : VK) (E : XK), Room k (A.deeper (envOfC qual (defScope st) s.heap.objs.size f cdv)) → sp vs H Q E →
      ∃ t, PSs (cxOf (L2N.CX P w) P w K mg base N qual (defScope st) f cdv A outer s H E) (defBody st) t ∧ t { nx := fun _ H' => Q .non H', rt := Q } (start N vs) H) : FnR P w K mg base (L2N.CX P w) (k + 1) f (spStar ps.length sp) := by
  obtain ⟨oc, od, kV, doc, pm, an, cdv, ct, osl, rfl, lk, hcd⟩ := F.ex
  exact StX.fn_star lk hcd S upN (hb kV doc pm an cdv ct) fun A outer s H vs Q E hr hsp => hbody cdv A outer s H vs Q E hr hsp
/-- the error of readers, and what raising it asks -/
structure TxX (K : PySem.W.Frag) (mg : Str → Option Value) (P : Program) (w : World) (base : Heap) (C CR : Addr) : Prop extends TxR0 K mg P w base C where
  gR : mg "InvalidReader" = some (.ref CR)
  xR : PySem.W.excIn K CR bVe "ValueError.__new__" = true
  kR : PySem.W.keepIn K (.ref CR) = true
  bR : PySem.W.subIn K (.ref CR) (.type "BaseException") = some true
  tR : PySem.W.typeIn K (.ref CR) = some (.type "type")
/-- values of which one is no line of so many -/
def Spoilt (K : PySem.W.Frag) (H : Hp) (xs : List V) : Prop := ∃ ds, DpAll K H xs ds ∧ (∀ d ∈ ds, SeqAt.shaped d = true ∧ Mod_ d) ∧ ds.length ≤ 16 ∧ ∃ d ∈ ds, lineD d ds.length = false
theorem Spoilt.up {K : PySem.W.Frag} {H H' : Hp} {xs : List V} (h : Spoilt K H xs) (s : Same H H') : Spoilt K H' xs := let ⟨ds, a, b⟩ := h; ⟨ds, dpAll_up s a, b⟩
def spInitX (K : PySem.W.Frag) (C CR : Addr) : Sp := fun vs H Q E => ∃ (x dx L : Addr) (xs : List V), vs = [.ref x, .ref L] ∧ H x = some (.ins C dx []) ∧ SqT K H L xs ∧ Spoilt K H xs ∧ ∀ H', Same H H' → E (.ref CR) none H'
def spOfX (K : PySem.W.Frag) (C CR : Addr) : Sp := fun vs H Q E => ∃ (L : Addr) (xs : List V), vs = [.ref C, .ref L] ∧ SqT K H L xs ∧ Spoilt K H xs ∧ ∀ H', Same H H' → E (.ref CR) none H'
theorem ok_initX {C CR f : Addr} {fd : FuncData} (F : Fun K "__init__" "Reader.__init__" sInit f fd) (T : TxX K mg P w base C CR) : FnR P w K mg base (L2N.CX P w) 5 f (spStar 1 (spInitX K C CR)) := by
  obtain ⟨g, gd, mG, kG, bG, GG⟩ := T.line
  obtain ⟨q, qd, mQ, kQ, bQ, GQ⟩ := T.pairs
  obtain ⟨tl, mL⟩ := T.mxL
  obtain ⟨tt, mT⟩ := T.mxT
  refine okStarN (ps := ["self"]) (pv := "lines") F scIn (fun kV doc pm an cdv ct => StX.bind_star1 (B := fun us => bindArgs _ ⟨us, []⟩) (p1 := "self") (pv := "lines") (fun a => rfl) (fun a r rs => rfl)) (fun cdv A outer s H vs Q E hr h => ?_)
  obtain ⟨x, dx, L, xs, rfl, hx, hL, ⟨ds, hds, hsm, few, hbad⟩, k⟩ := h
  have hr2 := hr.mono (show 2 ≤ 4 by decide)
  have len := dpAll_len hds
  refine ⟨_, pss_cons (ps_if (pt_cmpR op_gt (pe_callB call_lenT (by rfl) T.len PySem.boot_len (pa_cons (pv 1) pa_nil)) (pe_glob (v := .int 16) (by rfl) mL ⟨_, rfl⟩) (nomark _)) (pss_one (L2N.ps_raise rfl (L2N.takes_of rfl rfl rfl rfl) (L2N.pmk_own PySem.F.excBase_ValueError T.xR T.gR T.kR (raises_own T.bR T.tR) (by rfl)))) pss_nil)
    (pss_cons (ps_if (pt_not (pt_val (pe_callB (cr_all rfl) (by rfl) T.all PyProof.Rows.boot_all (pa_cons (pe_lc (own := [("line", 2)]) (g := gName 2) (tt := tYes) (te := tCall (spLine K) [] E0 (tCons (tVar 2) (tCons (tCB (rLenT K) (tCons (tVar 1) tNil)) tNil))) rfl scIn.nd (pi_tup (pv 1))
        (blkOk_by (N := ["self", "lines", "line"]) (sc := defScope sInit) (by decide +kernel)) (fun _ _ _ _ _ => pg_name (i := 2) scIn.nd rfl (Or.inl rfl)) (fun _ _ _ _ _ => pts_nil)
        (fun _ _ _ _ _ => pe_call GG hr (by rfl) mG kG bG .nil pass0 (pa_cons (pv 2) (pa_cons (pe_callB call_lenT (by rfl) T.len PySem.boot_len (pa_cons (pv 1) pa_nil)) pa_nil)))) pa_nil)))) (pss_one (L2N.ps_raise rfl (L2N.takes_of rfl rfl rfl rfl) (L2N.pmk_own PySem.F.excBase_ValueError T.xR T.gR T.kR (raises_own T.bR T.tR) (by rfl)))) pss_nil)
    (pss_cons (ps_fld (pv 0) (pv 1) rfl)
    (pss_cons (ps_fld (pv 0) (pe_call GQ hr2 (by rfl) mQ kQ bQ .nil pass0 (pa_cons (pv 1) (pa_cons (pe_tup (pa_cons pe_str pa_nil)) pa_nil))) rfl)
    (pss_one (ps_if (pt_cmpR op_gt (pe_callB call_lenT (by rfl) T.len PySem.boot_len (pa_cons (pe_fld (pv 0) rfl) pa_nil)) (pe_glob (v := .int 6) (by rfl) mT ⟨_, rfl⟩) (nomark _)) (pss_one (L2N.ps_raise rfl (L2N.takes_of rfl rfl rfl rfl) (L2N.pmk_own PySem.F.excBase_ValueError T.xR T.gR T.kR (raises_own T.bR T.tR) (by rfl)))) pss_nil))))), ?_⟩
  refine ⟨_, rfl, L, _, rfl, hL, _, _, rfl, rfl, _, rfl, ?_⟩
  refine ite2 (fun z => absurd (of_decide_eq_true z) (by omega)) (fun _ => ?_)
  refine ⟨_, rfl, L, rfl, ⟨_, hL⟩, fun D hD => ?_⟩
  have off : Off D (fun i acc (_ : Hp) => acc = (ds.take i).map fun d => V.bl (lineD d ds.length)) := fun _ _ _ _ _ _ _ z => z
  refine lc_fil walk_tup hD (fun i acc _ => acc = (ds.take i).map fun d => V.bl (lineD d ds.length)) (by simp) (fun H' s' => sqT_up hL s') ?_ ?_
  · rintro i v acc H2 H3 hi s2 e2 rfl ⟨rfl, hv⟩
    obtain ⟨d, hd, dv⟩ := dpAll_get hds hv
    obtain ⟨sh, md⟩ := hsm d (List.mem_of_getElem? hd)
    refine ⟨rfl, tt_yes ?_⟩
    refine ⟨_, rfl, _, rfl, L, _, rfl, sqT_up hL s2, _, _, rfl, .inl ⟨d, dp_up s2 dv, sh, md, fun H4 s4 => ?_⟩⟩
    refine put_of hD off s2 e2 s4 ?_ ?_
    · rw [List.length_map, List.length_take, sizeLine_eq]; omega
    · rw [len, List.take_add_one, hd, List.map_append]; rfl
  · rintro acc H2 s2 e2 rfl
    have hl : (ds.take xs.length) = ds := by rw [len, List.take_length]
    refine ⟨D, ds.map fun d => lineD d ds.length, rfl, SqL.of (by rw [e2, hl, List.map_map]; rfl), ?_⟩
    refine ⟨_, rfl, ?_⟩
    show (if (!((ds.map fun d => lineD d ds.length).all id)) = true then _ else _)
    rw [show ((ds.map fun d => lineD d ds.length).all id) = false by
      rw [List.all_eq_false]
      obtain ⟨d, hm, hn⟩ := hbad
      exact ⟨_, List.mem_map_of_mem hm, by rw [hn]; decide⟩]
    exact iteT (k H2 s2)
structure TxX1 (K : PySem.W.Frag) (mg : Str → Option Value) (P : Program) (w : World) (base : Heap) (C CR : Addr) : Prop extends TxX K mg P w base C CR where
  madeX : ∃ f, Mk K C f ∧ FnR P w K mg base (L2N.CX P w) 5 f (spStar 1 (spInitX K C CR))
theorem ok_ofX {C CR f : Addr} {fd : FuncData} (F : Fun K "of" "Reader.of" sOf f fd) (T : TxX1 K mg P w base C CR) : FnOk P w K mg base (L2N.CX P w) 7 f fd ["cls", "lines"] (spOfX K C CR) := by
  obtain ⟨g, M, G⟩ := T.madeX
  refine okN F scOf (fun vs H Q E h => ?_) (fun cdv A outer s H vs Q E hr h => ?_)
  · obtain ⟨L, xs, rfl, _⟩ := h; rfl
  · obtain ⟨L, xs, rfl, hL, hb, k⟩ := h
    refine ⟨_, pss_cons (ps_if (pt_not (pt_val (pe_callB call_isi (by rfl) T.isi PyProof.Rows.boot_isinstance (pa_cons (pv 1) (pa_cons (pe_bltn (v := .ty "tuple") (by rfl) T.tuple PyProof.Rows.boot_tuple rfl) pa_nil))))) (pss_one (L2N.ps_raise rfl (L2N.takes_of rfl rfl rfl rfl) (L2N.pmk_own PySem.F.excBase_ValueError T.xR T.gR T.kR (raises_own T.bR T.tR) (by rfl)))) pss_nil)
      (pss_one (ps_ret (pe_makeS (i := 0) (E := E) M G hr (L2N.passes_call (L2N.takes_of rfl rfl rfl rfl) (fun _ _ _ _ h => h)) rfl (Or.inl rfl) (pv 1)))), ?_⟩
    obtain ⟨ds, hds, r⟩ := id hb
    refine ⟨_, rfl, .ref L, .ty "tuple", .type "tuple", .type "tuple", true, rfl, .ty _, dp_ty (Dp.tup hL hds), kit_ty (by decide +kernel), _, rfl, iteF ?_⟩
    refine ⟨rfl, _, rfl, L, _, rfl, .inl hL, fun x dx nx nd ne => ?_⟩
    have s1 : Same H (upd (upd H dx (.own x)) x (.ins C dx [])) := same_to nx (same_new nd)
    refine ⟨[.ref x], xs, rfl, rfl, by rw [dpAll_len hds, sizeLine_eq]; have := r.2.1; omega, fun p np => ?_⟩
    have s2 := same_new (o := HO.tup xs) np
    exact ⟨x, dx, p, xs, rfl, s2 _ _ upd_same, SqT.of upd_same, hb.up (s1.trans s2), fun H' s' => k H' ((s1.trans s2).trans s')⟩
end
end Rd

/-! Lines put in and taken out -/
namespace Rd
open PySem PySem.Spec PyProof.Rows L2 Tq Dn Dc Ox
abbrev sWn : Stmt := top 43
abbrev sWith : Stmt := inClass cReader 9
abbrev sWout : Stmt := inClass cReader 10
/-- the line with another number if it has one above the limit -/
def Ln.mv (lim up : Int) : Ln → Ln
  | .go n => if (n : Int) > lim then .go ((n : Int) + up).toNat else .go n
  | .ift t p n => if (n : Int) > lim then .ift t p ((n : Int) + up).toNat else .ift t p n
  | .look t p => .look t p
  | .read t p => .read t p
theorem mv_go {lim up : Int} {n : Nat} : (Ln.go n).mv lim up = if (n : Int) > lim then Ln.go ((n : Int) + up).toNat else Ln.go n := rfl
theorem mv_ift {lim up : Int} {t p : Str} {n : Nat} : (Ln.ift t p n).mv lim up = if (n : Int) > lim then Ln.ift t p ((n : Int) + up).toNat else Ln.ift t p n := rfl
def spWn (K : PySem.W.Frag) : Sp := fun vs H Q _ => ∃ (a : Addr) (l : Ln) (lim up : Int), vs = [.ref a, .int lim, .int up] ∧ SqT K H a l.vs ∧ (∀ n : Nat, (n : Int) > lim → 0 ≤ (n : Int) + up) ∧ ∀ H' b, Same H H' → SqT K H' b (l.mv lim up).vs → Q (.ref b) H'
section
variable {P : Program} {w : World} {K : PySem.W.Frag} {mg : Str → Option Value} {base : Heap}
theorem scWn : FnScope ["line", "limit", "by"] ["line", "limit", "by"] (defScope sWn) := ⟨rfl, rfl, rfl, by decide +kernel, rfl, by decide +kernel, by decide +kernel⟩
theorem ok_wn {f : Addr} {fd : FuncData} (F : Fun K "with_numbers" "with_numbers" sWn f fd) (T : TxM K mg) : FnOk P w K mg base CX0 1 f fd ["line", "limit", "by"] (spWn K) := by
  refine F.ok scWn (fun vs H Q E h => ?_) (fun cdv A outer s H vs Q E hr h => ?_)
  · obtain ⟨a, l, lim, up, rfl, _⟩ := h; rfl
  · obtain ⟨a, l, lim, up, rfl, hl, hn, k⟩ := h
    refine ⟨_, pss_cons (ps_if (PW.pt (pw_and (pt_cmpR op_in_seq (pe_ix ix_tup (pv 0) pe_int (fun _ _ => rfl)) (pe_tup (pa_cons pe_str (pa_cons pe_str pa_nil))) (by rfl)) (pw_and1 (pt_cmpR op_gt (pe_ix ix_tup (pv 0) (pe_un un_neg pe_int) (fun _ _ => rfl)) (pv 1) (nomark _)))))
        (pss_one (ps_ret (pe_tup (StX.pa_star (pe_slice sl_tup (pv 0) po_none (po_some (pe_un un_neg pe_int))) (pa_cons (pe_op op_add (pe_ix ix_tup (pv 0) (pe_un un_neg pe_int) (fun _ _ => rfl)) (pv 2)) pa_nil))))) pss_nil)
      (pss_one (ps_ret (pv 0))), ?_⟩
    refine ⟨_, rfl, a, _, _, _, rfl, rfl, hl, atI_nat (j := 0) (ln_word l), ?_⟩
    refine ⟨(by show 2 ≤ sizeLine; decide), fun t nt => ?_⟩
    have st := same_new (o := HO.tup [V.str "if", V.str "go"]) nt
    cases l with
    | go n =>
      refine ⟨t, _, rfl, .inr (SqT.of upd_same), rfl, rfl, _, rfl, ?_⟩
      rw [show inV (V.str (Ln.word (Ln.go n))) [V.str "if", V.str "go"] = true from (by decide +kernel : inV (V.str "go") [V.str "if", V.str "go"] = true)]
      refine iteT ?_
      have e0 : atI (Ln.vs (Ln.go n)) (-1) = some (V.int ((n : Nat) : Int)) := atI_last [V.str "go"] _
      refine ⟨_, rfl, _, rfl, a, _, _, _, rfl, rfl, sqT_up hl st, e0, _, rfl, _, _, rfl, rfl, _, rfl, ite2 (fun c => ?_) (fun c => ?_)⟩
      · have c' : ((n : Nat) : Int) > lim := of_decide_eq_true c
        refine ⟨_, rfl, _, rfl, _, rfl, a, _, rfl, sqT_up hl st, fun h => absurd (show HT.sIx 2 2 (some (-1)) = 2 from h.2) (by decide), fun z nz => ?_⟩
        rw [show cutV (Ln.vs (Ln.go n)) none (some (-1)) = [V.str "go"] from rfl]
        have sz := same_new (o := HO.tup [V.str "go"]) nz
        refine ⟨z, _, rfl, .inl (SqT.of upd_same), _, rfl, _, rfl, a, _, _, _, rfl, rfl, sqT_up hl (st.trans sz), e0, _, rfl, _, _, rfl, rfl, ?_⟩
        refine ⟨(by show 2 ≤ sizeLine; decide), fun b nb => ?_⟩
        refine k _ b ((st.trans sz).trans (same_new nb)) (SqT.of ?_)
        rw [mv_go, if_pos c', upd_same]
        show _ = some (HO.tup ([V.str "go"] ++ [V.int (((n : Int) + up).toNat : Int)]))
        rw [Int.toNat_of_nonneg (hn n c')]
      · have c' : ¬ (((n : Nat) : Int) > lim) := of_decide_eq_false (Bool.not_eq_true _ |>.mp c)
        refine ⟨_, rfl, ?_⟩
        exact k _ a st (sqT_up (by rw [mv_go, if_neg c']; exact hl) st)
    | ift t' p' n =>
      refine ⟨t, _, rfl, .inr (SqT.of upd_same), rfl, rfl, _, rfl, ?_⟩
      rw [show inV (V.str (Ln.word (Ln.ift t' p' n))) [V.str "if", V.str "go"] = true from (by decide +kernel : inV (V.str "if") [V.str "if", V.str "go"] = true)]
      refine iteT ?_
      have e0 : atI (Ln.vs (Ln.ift t' p' n)) (-1) = some (V.int ((n : Nat) : Int)) := atI_last [V.str "if", V.str t', V.str p'] _
      refine ⟨_, rfl, _, rfl, a, _, _, _, rfl, rfl, sqT_up hl st, e0, _, rfl, _, _, rfl, rfl, _, rfl, ite2 (fun c => ?_) (fun c => ?_)⟩
      · have c' : ((n : Nat) : Int) > lim := of_decide_eq_true c
        refine ⟨_, rfl, _, rfl, _, rfl, a, _, rfl, sqT_up hl st, fun h => absurd (show HT.sIx 4 4 (some (-1)) = 4 from h.2) (by decide), fun z nz => ?_⟩
        rw [show cutV (Ln.vs (Ln.ift t' p' n)) none (some (-1)) = [V.str "if", V.str t', V.str p'] from rfl]
        have sz := same_new (o := HO.tup [V.str "if", V.str t', V.str p']) nz
        refine ⟨z, _, rfl, .inl (SqT.of upd_same), _, rfl, _, rfl, a, _, _, _, rfl, rfl, sqT_up hl (st.trans sz), e0, _, rfl, _, _, rfl, rfl, ?_⟩
        refine ⟨(by show 4 ≤ sizeLine; decide), fun b nb => ?_⟩
        refine k _ b ((st.trans sz).trans (same_new nb)) (SqT.of ?_)
        rw [mv_ift, if_pos c', upd_same]
        show _ = some (HO.tup ([V.str "if", V.str t', V.str p'] ++ [V.int (((n : Int) + up).toNat : Int)]))
        rw [Int.toNat_of_nonneg (hn n c')]
      · have c' : ¬ (((n : Nat) : Int) > lim) := of_decide_eq_false (Bool.not_eq_true _ |>.mp c)
        refine ⟨_, rfl, ?_⟩
        exact k _ a st (sqT_up (by rw [mv_ift, if_neg c']; exact hl) st)
    | look t' p' =>
      refine ⟨t, _, rfl, .inr (SqT.of upd_same), rfl, rfl, _, rfl, ?_⟩
      rw [show inV (V.str (Ln.word (Ln.look t' p'))) [V.str "if", V.str "go"] = false from (by decide +kernel : inV (V.str "look") [V.str "if", V.str "go"] = false)]
      exact iteF (iteF ⟨_, rfl, k _ a st (sqT_up hl st)⟩)
    | read t' p' =>
      refine ⟨t, _, rfl, .inr (SqT.of upd_same), rfl, rfl, _, rfl, ?_⟩
      rw [show inV (V.str (Ln.word (Ln.read t' p'))) [V.str "if", V.str "go"] = false from (by decide +kernel : inV (V.str "read") [V.str "if", V.str "go"] = false)]
      exact iteF (iteF ⟨_, rfl, k _ a st (sqT_up hl st)⟩)
end
end Rd

namespace Rd
open PySem PySem.Spec PyProof.Rows L2 Tq Dn Dc Ox
section
variable {P : Program} {w : World} {K : PySem.W.Frag} {mg : Str → Option Value} {base : Heap}
/-- what never raises keeps its promise wherever something may -/
theorem calmR {CX : CXT} {k : Nat} {f : Addr} {sp : Sp} (F : FnR P w K mg base CX0 k f sp) : FnR P w K mg base CX k f sp := fun A outer s H us vs Q E hr e0 r h => by
  refine codeAny_mono (F A outer s H us vs Q E hr e0 r h) fun r s' hq => ?_
  cases r with
  | ok fl => cases fl <;> exact hq
  | error e => exact False.elim hq
theorem orR {CX : CXT} {k : Nat} {f : Addr} {sp sq : Sp} (F : FnR P w K mg base CX k f sp) (G : FnR P w K mg base CX k f sq) : FnR P w K mg base CX k f (fun vs H Q E => sp vs H Q E ∨ sq vs H Q E) := fun A outer s H us vs Q E hr e0 r h =>
  h.elim (F A outer s H us vs Q E hr e0 r) (G A outer s H us vs Q E hr e0 r)
theorem dpAll_app {H : Hp} : ∀ {xs ys : List V} {ds es : List PyData}, DpAll K H xs ds → DpAll K H ys es → DpAll K H (xs ++ ys) (ds ++ es)
  | _, _, _, _, .nil, h => h
  | _, _, _, _, .cons a b, h => .cons a (dpAll_app b h)
def spOfB (K : PySem.W.Frag) (C CR : Addr) : Sp := fun vs H Q E => spOf K C vs H Q E ∨ spOfX K C CR vs H Q E
/-- the lines with one more -/
def putL (n : Nat) (l : Ln) (ls : List Ln) : List Ln := (ls.map (Ln.mv n 1)).take n ++ [l] ++ (ls.map (Ln.mv n 1)).drop n
/-- .. with one less -/
def cutL (n : Nat) (ls : List Ln) : List Ln := (ls.map (Ln.mv n (-1))).eraseIdx n
theorem fine_put {l : Ln} {m n : Nat} (h : l.fine m = true) : (l.mv n 1).fine (m + 1) = true := by
  cases l with
  | go k =>
    have h' : k ≤ m := of_decide_eq_true h
    rw [mv_go]
    split
    · show decide (((k : Int) + 1).toNat ≤ m + 1) = true
      exact decide_eq_true (by omega)
    · exact decide_eq_true (by omega)
  | ift t p k =>
    have h2 : (nameS t && (nameS p && decide (k ≤ m))) = true := h
    simp only [Bool.and_eq_true, decide_eq_true_eq] at h2
    obtain ⟨h3, h4, h5⟩ := h2
    rw [mv_ift]
    split
    · show (nameS t && (nameS p && decide (((k : Int) + 1).toNat ≤ m + 1))) = true
      rw [h3, h4, decide_eq_true (by omega)]; rfl
    · show (nameS t && (nameS p && decide (k ≤ m + 1))) = true
      rw [h3, h4, decide_eq_true (by omega)]; rfl
  | look t p => exact h
  | read t p => exact h
theorem fine_cut {l : Ln} {m n : Nat} (h : l.fine m = true) (hn : n < m) : (l.mv n (-1)).fine (m - 1) = true := by
  cases l with
  | go k =>
    have h' : k ≤ m := of_decide_eq_true h
    rw [mv_go]
    split
    · show decide (((k : Int) + (-1)).toNat ≤ m - 1) = true
      exact decide_eq_true (by omega)
    · exact decide_eq_true (by omega)
  | ift t p k =>
    have h2 : (nameS t && (nameS p && decide (k ≤ m))) = true := h
    simp only [Bool.and_eq_true, decide_eq_true_eq] at h2
    obtain ⟨h3, h4, h5⟩ := h2
    rw [mv_ift]
    split
    · show (nameS t && (nameS p && decide (((k : Int) + (-1)).toNat ≤ m - 1))) = true
      rw [h3, h4, decide_eq_true (by omega)]; rfl
    · show (nameS t && (nameS p && decide (k ≤ m - 1))) = true
      rw [h3, h4, decide_eq_true (by omega)]; rfl
  | look t p => exact h
  | read t p => exact h
structure TxB3 (K : PySem.W.Frag) (mg : Str → Option Value) (P : Program) (w : World) (base : Heap) (C CN CR : Addr) : Prop extends TxG2 K mg P w base C CN where
  wn : Has P w K mg base "with_numbers" 1 ["line", "limit", "by"] (spWn K)
  ofB : ∃ mc p g, ClX.CRead K C mc ∧ ClX.CMet K C mc "of" p g ∧ FnR P w K mg base (L2N.CX P w) 7 g (spOfB K C CR)
def spWith (K : PySem.W.Frag) (C CN CR : Addr) : Sp := fun vs H Q E => ∃ (r : Addr) (rs : RowsL) (v u : V) (d : PyData), vs = [.ref r, v, u] ∧ RdAt K C H r rs ∧ RdOk rs ∧ Dp K H v d ∧
  ((numD d rs.length = false ∧ ∀ dd, H dd = none → E (.ref CN) (some dd) (upd H dd (.xd [("value", v)]))) ∨
   (∃ n : Nat, v = .int n ∧ n ≤ rs.length ∧ rs.length < 16 ∧
     ((∃ a l, u = .ref a ∧ SqT K H a l.vs ∧ (∀ rs' : RowsL, rs'.map Prod.snd = putL n l (lnsOf rs) → RdOk rs') ∧ ∀ H' q rs', Same H H' → H q = none → rs'.map Prod.snd = putL n l (lnsOf rs) → RdAt K C H' q rs' → Q (.ref q) H') ∨
      (∃ e, Dp K H u e ∧ SeqAt.shaped e = true ∧ Mod_ e ∧ lineD e (rs.length + 1 : Nat) = false ∧ ∀ H', Same H H' → E (.ref CR) none H'))))
theorem scWt : FnScope ["self", "at", "line", "lines", "other"] ["self", "at", "line"] (defScope sWith) := ⟨rfl, rfl, rfl, by decide +kernel, rfl, by decide +kernel, by decide +kernel⟩
theorem ok_with {C CN CR f : Addr} {fd : FuncData} (F : Fun K "with_line" "Reader.with_line" sWith f fd) (T : TxB3 K mg P w base C CN CR) : FnOk P w K mg base (L2N.CX P w) 8 f fd ["self", "at", "line"] (spWith K C CN CR) := by
  obtain ⟨g, gd, mG, kG, bG, GG⟩ := T.within_
  obtain ⟨gW, gdW, mW, kW, bW, GW⟩ := T.wn
  obtain ⟨mc, p0, g0, cr, cm, G0⟩ := T.ofB
  obtain ⟨J, oN⟩ := T.oN
  refine okN F scWt (fun vs H Q E h => ?_) (fun cdv A outer s H vs Q E hr h => ?_)
  · obtain ⟨r, rs, v, u, d, rfl, _⟩ := h; rfl
  · obtain ⟨r, rs, v, u, d, rfl, hR, ok, hd, k⟩ := h
    have r1 := hr.mono (show 1 ≤ 7 by decide)
    have r3 := hr.mono (show 3 ≤ 7 by decide)
    refine ⟨_, pss_cons (ps_if (pt_not (pt_val (pe_call GG r3 (by rfl) mG kG bG .nil pass0 (pa_cons (pv 1) (pa_cons (pe_callB call_lenT (by rfl) T.len PySem.boot_len (pa_cons (pe_fld (pv 0) rfl) pa_nil)) pa_nil)))))
        (pss_one (L2N.ps_raise rfl (L2N.takes_of rfl rfl rfl rfl) (pmk_oi oN T.gN hr (pa_cons (pv 1) pa_nil)))) pss_nil)
      (pss_cons (ps_setLc (i := 3) (own := [("other", 4)]) (g := gName 4) (tt := tYes) (te := tCall (spWn K) [] E0 (tCons (tVar 4) (tCons (tVar 1) (tCons (tC (.int 1)) tNil)))) rfl scWt.nd rfl rfl (sw_true rfl rfl rfl rfl) (pi_tup (pe_fld (pv 0) rfl))
        (blkOk_by (N := ["self", "at", "line", "lines", "other"]) (sc := defScope sWith) (by decide +kernel)) (fun _ _ _ _ _ => pg_name (i := 4) scWt.nd rfl (Or.inl rfl)) (fun _ _ _ _ _ => pts_nil)
        (fun _ _ _ _ _ => pe_call GW r1 (by rfl) mW kW bW .nil pass0 (pa_cons (pv 4) (pa_cons (pv 1) (pa_cons pe_int pa_nil)))))
      (pss_cons (ps_expr (pe_bm PySem.F.plainAttrs_list PySem.F.slot_list_insert PySem.F.type_list_insert mt_insert (pv 3) (pa_cons (pv 1) (pa_cons (pv 2) pa_nil))))
      (pss_one (ps_ret (ClX.pe_cmeth (E := E) (pe_glob (v := .ref C) (by rfl) T.mgC rfl) cr cm G0 hr (L2N.passes_call (L2N.takes_of rfl rfl rfl rfl) (fun _ _ _ _ h => h)) (pa_cons (pe_callTy call_tupOf (by rfl) T.tuple PyProof.Rows.boot_tuple (pa_cons (pv 3) pa_nil)) pa_nil)))))), ?_⟩
    obtain ⟨dx, L, TT, ps, eR, hL, _⟩ := id hR
    refine ⟨_, rfl, _, rfl, r, C, dx, _, _, rfl, eR, T.cl, T.nL, rd_lines L TT, L, _, rfl, hL.1, v, d, _, rfl, hd, ?_⟩
    rw [List.length_map]
    refine ⟨_, rfl, ?_⟩
    rcases k with ⟨hn, k⟩ | ⟨n, rfl, hn, few, k⟩
    · rw [hn]
      exact iteT ⟨_, rfl, _, rfl, fun dd nd => k dd nd⟩
    have hn1 : numD d rs.length = true := by
      cases hd
      show (decide (0 ≤ (n : Int)) && decide ((n : Int) ≤ rs.length)) = true
      rw [decide_eq_true (by omega), decide_eq_true (by omega)]; rfl
    rw [hn1]
    refine iteF ?_
    refine ⟨_, rfl, r, C, dx, _, _, rfl, eR, T.cl, T.nL, rd_lines L TT, L, rfl, ⟨_, hL.1⟩, fun D hD => ?_⟩
    have off : Off D (fun i acc H' => ∃ ks : RowsL, acc = (ks.map fun r => V.ref r.1) ∧ (∀ r ∈ ks, SqT K H' r.1 r.2.vs) ∧ ks.map Prod.snd = ((lnsOf rs).take i).map (Ln.mv n 1)) :=
      fun i acc l H2 H3 e kp ⟨ks, z1, z2, z3⟩ => ⟨ks, z1, fun r hr => off_seq e kp (z2 r hr), z3⟩
    refine lc_fil walk_tup hD (fun i acc H' => ∃ ks : RowsL, acc = (ks.map fun r => V.ref r.1) ∧ (∀ r ∈ ks, SqT K H' r.1 r.2.vs) ∧ ks.map Prod.snd = ((lnsOf rs).take i).map (Ln.mv n 1)) ⟨[], rfl, fun r z => (by cases z), rfl⟩ (fun H' s' => sqT_up hL.1 s') ?_ ?_
    · rintro i v acc H2 H3 hi s2 e2 ⟨ks, rfl, hk, ek⟩ ⟨rfl, hv⟩
      rw [List.getElem?_map] at hv
      obtain ⟨q, hq, rfl⟩ := Option.map_eq_some_iff.mp hv
      refine ⟨rfl, tt_yes ?_⟩
      refine ⟨_, rfl, _, rfl, q.1, q.2, n, 1, rfl, sqT_up (hL.2 q (List.mem_of_getElem? hq)) s2, fun m h => by omega, fun H4 b s4 hb => ?_⟩
      have hl2 : (lnsOf rs)[i]? = some q.2 := by rw [List.getElem?_map, hq]; rfl
      refine put_of hD off s2 e2 s4 ?_ ⟨ks ++ [(b, q.2.mv n 1)], by rw [List.map_append]; rfl, fun r hr => ?_, ?_⟩
      · have h1 := congrArg List.length ek
        rw [List.length_map, List.length_map, List.length_take, List.length_map] at h1
        rw [List.length_map, sizeLine_eq]; have := ok.few; omega
      · rcases List.mem_append.mp hr with z | z
        · exact sqT_up (hk r z) s4
        · rw [List.mem_singleton.mp z]; exact hb
      · rw [List.map_append, ek, List.take_add_one, hl2, List.map_append]; rfl
    rintro acc H2 s2 e2 ⟨ks, rfl, hk, ek⟩
    have ek' : ks.map Prod.snd = (lnsOf rs).map (Ln.mv n 1) := by rw [ek, List.length_map, ← List.length_map (as := rs) (f := Prod.snd), List.take_length]
    have lk : ks.length = rs.length := by have := congrArg List.length ek'; simpa using this
    refine ⟨_, rfl, Or.inl ⟨rfl, _, SqL.of e2⟩, _, rfl, _, rfl, D, _, n, u, rfl, rfl, e2, (by rw [List.length_map, sizeLine_eq]; omega), by omega, by omega, ?_⟩
    rw [Int.toNat_natCast]
    have s3 : Same H (upd H2 D (.lst ((ks.map fun r => V.ref r.1).take n ++ [u] ++ (ks.map fun r => V.ref r.1).drop n))) := same_to hD s2
    have e3 : upd H2 D (.lst ((ks.map fun r => V.ref r.1).take n ++ [u] ++ (ks.map fun r => V.ref r.1).drop n)) D = some (.lst ((ks.map fun r => V.ref r.1).take n ++ [u] ++ (ks.map fun r => V.ref r.1).drop n)) := upd_same
    have hk3 : ∀ r ∈ ks, SqT K (upd H2 D (.lst ((ks.map fun r => V.ref r.1).take n ++ [u] ++ (ks.map fun r => V.ref r.1).drop n))) r.1 r.2.vs := fun r hr => off_seq e2 keep_upd (hk r hr)
    generalize upd H2 D (HO.lst ((ks.map fun r => V.ref r.1).take n ++ [u] ++ (ks.map fun r => V.ref r.1).drop n)) = H3 at s3 e3 hk3 ⊢
    refine ⟨rfl, _, rfl, D, _, rfl, SqL.of e3, fun l nl => ?_⟩
    have s4 := same_new (o := HO.tup ((ks.map fun r => V.ref r.1).take n ++ [u] ++ (ks.map fun r => V.ref r.1).drop n)) nl
    have e4 : upd H3 l (HO.tup ((ks.map fun r => V.ref r.1).take n ++ [u] ++ (ks.map fun r => V.ref r.1).drop n)) l = some (HO.tup ((ks.map fun r => V.ref r.1).take n ++ [u] ++ (ks.map fun r => V.ref r.1).drop n)) := upd_same
    generalize upd H3 l (HO.tup ((ks.map fun r => V.ref r.1).take n ++ [u] ++ (ks.map fun r => V.ref r.1).drop n)) = H4 at s4 e4 ⊢
    have s04 := s3.trans s4
    rcases k with ⟨a, ln, rfl, ha, ok', k⟩ | ⟨e, he, she, mde, hbad, k⟩
    · have er : (ks.take n ++ [(a, ln)] ++ ks.drop n).map Prod.snd = putL n ln (lnsOf rs) := by
        unfold putL
        rw [← ek', List.map_append, List.map_append, List.map_take, List.map_drop]; rfl
      have ev : (ks.map fun r => V.ref r.1).take n ++ [V.ref a] ++ (ks.map fun r => V.ref r.1).drop n = (ks.take n ++ [(a, ln)] ++ ks.drop n).map fun r => V.ref r.1 := by
        rw [List.map_append, List.map_append, List.map_take, List.map_drop]; rfl
      rw [ev] at e4
      refine .inl ⟨l, ks.take n ++ [(a, ln)] ++ ks.drop n, rfl, ⟨SqT.of e4, fun r hr => ?_⟩, ok' _ er, fun H' q s' nq hq => k H' q _ (s04.trans s') (s04.free nq) er hq⟩
      rcases List.mem_append.mp hr with hr | hr
      · rcases List.mem_append.mp hr with hr | hr
        · exact sqT_up (hk3 r (List.mem_of_mem_take hr)) s4
        · rw [List.mem_singleton.mp hr]; exact sqT_up ha s04
      · exact sqT_up (hk3 r (List.mem_of_mem_drop hr)) s4
    · have hka : DpAll K H4 (ks.map fun r => V.ref r.1) ((ks.map Prod.snd).map Ln.d) := lns_dp fun r hr => sqT_up (hk3 r hr) s4
      refine .inr ⟨l, _, rfl, SqT.of e4, ⟨((ks.map Prod.snd).map Ln.d).take n ++ [e] ++ ((ks.map Prod.snd).map Ln.d).drop n, ?_, ?_, ?_, e, ?_, ?_⟩, fun H' s' => k H' (s04.trans s')⟩
      · exact dpAll_app (dpAll_app (dpAll_take n hka) (.cons (dp_up s04 he) .nil)) (dpAll_drop n hka)
      · intro x hx
        have hm : x = e ∨ x ∈ (ks.map Prod.snd).map Ln.d := by
          rcases List.mem_append.mp hx with hx | hx
          · rcases List.mem_append.mp hx with hx | hx
            · exact .inr (List.mem_of_mem_take hx)
            · exact .inl (List.mem_singleton.mp hx)
          · exact .inr (List.mem_of_mem_drop hx)
        rcases hm with rfl | hm
        · exact ⟨she, mde⟩
        · rw [ek', List.map_map] at hm
          obtain ⟨y, hy, rfl⟩ := List.mem_map.mp hm
          obtain ⟨q, hq, rfl⟩ := List.mem_map.mp hy
          have fn := fine_put (n := n) (ok.fine q hq)
          exact ⟨fine_shaped fn, fine_mod fn⟩
      · simp; omega
      · simp
      · have hln : (((ks.map Prod.snd).map Ln.d).take n ++ [e] ++ ((ks.map Prod.snd).map Ln.d).drop n).length = rs.length + 1 := by simp; omega
        rw [hln]; exact hbad
end
end Rd

namespace Rd
open PySem PySem.Spec PyProof.Rows L2 Tq Dn Dc Ox
def spWout (K : PySem.W.Frag) (C CN : Addr) : Sp := fun vs H Q E => ∃ (r : Addr) (rs : RowsL) (v : V) (d : PyData), vs = [.ref r, v] ∧ RdAt K C H r rs ∧ RdOk rs ∧ Dp K H v d ∧
  ((numD d ((rs.length : Int) - 1) = false ∧ ∀ dd, H dd = none → E (.ref CN) (some dd) (upd H dd (.xd [("value", v)]))) ∨
   (∃ n : Nat, v = .int n ∧ n < rs.length ∧ (∀ rs' : RowsL, rs'.map Prod.snd = cutL n (lnsOf rs) → RdOk rs') ∧ ∀ H' q rs', Same H H' → H q = none → rs'.map Prod.snd = cutL n (lnsOf rs) → RdAt K C H' q rs' → Q (.ref q) H'))
section
variable {P : Program} {w : World} {K : PySem.W.Frag} {mg : Str → Option Value} {base : Heap}
theorem scWu : FnScope ["self", "at", "lines", "other"] ["self", "at"] (defScope sWout) := ⟨rfl, rfl, rfl, by decide +kernel, rfl, by decide +kernel, by decide +kernel⟩
theorem erase_map {α β : Type} (f : α → β) : ∀ (xs : List α) (n : Nat), (xs.eraseIdx n).map f = (xs.map f).eraseIdx n
  | [], _ => rfl
  | x :: xs, 0 => rfl
  | x :: xs, n + 1 => by rw [List.eraseIdx_cons_succ, List.map_cons, List.map_cons, List.eraseIdx_cons_succ, erase_map f xs n]
theorem ok_wout {C CN CR f : Addr} {fd : FuncData} (F : Fun K "without_line" "Reader.without_line" sWout f fd) (T : TxB3 K mg P w base C CN CR) : FnOk P w K mg base (L2N.CX P w) 8 f fd ["self", "at"] (spWout K C CN) := by
  obtain ⟨gW, gdW, mW, kW, bW, GW⟩ := T.wn
  obtain ⟨gN, gdN, MN, bN, GN⟩ := T.need
  obtain ⟨mc, p0, g0, cr, cm, G0⟩ := T.ofB
  refine okN F scWu (fun vs H Q E h => ?_) (fun cdv A outer s H vs Q E hr h => ?_)
  · obtain ⟨r, rs, v, d, rfl, _⟩ := h; rfl
  · obtain ⟨r, rs, v, d, rfl, hR, ok, hd, k⟩ := h
    have r1 := hr.mono (show 1 ≤ 7 by decide)
    have r4 := hr.mono (show 4 ≤ 7 by decide)
    have r5 := hr.mono (show 5 ≤ 7 by decide)
    refine ⟨_, pss_cons (ps_expr (pe_meth (pv 0) T.cl MN GN r4 bN .nil (L2N.passes_call (L2N.takes_of rfl rfl rfl rfl) (fun _ _ _ _ h => h)) (pa_cons (pv 1) pa_nil)))
      (pss_cons (ps_setLc (i := 2) (own := [("other", 3)]) (g := gName 3) (tt := tYes) (te := tCall (spWn K) [] E0 (tCons (tVar 3) (tCons (tVar 1) (tCons (tUn (rU fun i => .int (-i)) (tC (.int 1))) tNil)))) rfl scWu.nd rfl rfl (sw_true rfl rfl rfl rfl) (pi_tup (pe_fld (pv 0) rfl))
        (blkOk_by (N := ["self", "at", "lines", "other"]) (sc := defScope sWout) (by decide +kernel)) (fun _ _ _ _ _ => pg_name (i := 3) scWu.nd rfl (Or.inl rfl)) (fun _ _ _ _ _ => pts_nil)
        (fun _ _ _ _ _ => pe_call GW r1 (by rfl) mW kW bW .nil pass0 (pa_cons (pv 3) (pa_cons (pv 1) (pa_cons (pe_un un_neg pe_int) pa_nil)))))
      (pss_cons (ps_delL (pv 2) (pv 1))
      (pss_one (ps_ret (ClX.pe_cmeth (E := E) (pe_glob (v := .ref C) (by rfl) T.mgC rfl) cr cm G0 hr (L2N.passes_call (L2N.takes_of rfl rfl rfl rfl) (fun _ _ _ _ h => h)) (pa_cons (pe_callTy call_tupOf (by rfl) T.tuple PyProof.Rows.boot_tuple (pa_cons (pv 2) pa_nil)) pa_nil)))))), ?_⟩
    obtain ⟨dx, L, TT, ps, eR, hL, _⟩ := id hR
    refine ⟨_, rfl, r, dx, _, rfl, eR, rd_no (by decide +kernel) (by decide +kernel), _, rfl, r, rs, v, d, rfl, hR, hd, ?_⟩
    rcases k with ⟨hn, k⟩ | ⟨n, rfl, hn, ok', k⟩
    · exact .inr ⟨hn, fun dd nd => k dd nd⟩
    have hn1 : numD d ((rs.length : Int) - 1) = true := by
      cases hd
      show (decide (0 ≤ (n : Int)) && decide ((n : Int) ≤ (rs.length : Int) - 1)) = true
      rw [decide_eq_true (by omega), decide_eq_true (by omega)]; rfl
    refine .inl ⟨hn1, ?_⟩
    refine ⟨_, rfl, r, C, dx, _, _, rfl, eR, T.cl, T.nL, rd_lines L TT, L, rfl, ⟨_, hL.1⟩, fun D hD => ?_⟩
    have off : Off D (fun i acc H' => ∃ ks : RowsL, acc = (ks.map fun r => V.ref r.1) ∧ (∀ r ∈ ks, SqT K H' r.1 r.2.vs) ∧ ks.map Prod.snd = ((lnsOf rs).take i).map (Ln.mv n (-1))) :=
      fun i acc l H2 H3 e kp ⟨ks, z1, z2, z3⟩ => ⟨ks, z1, fun r hr => off_seq e kp (z2 r hr), z3⟩
    refine lc_fil walk_tup hD (fun i acc H' => ∃ ks : RowsL, acc = (ks.map fun r => V.ref r.1) ∧ (∀ r ∈ ks, SqT K H' r.1 r.2.vs) ∧ ks.map Prod.snd = ((lnsOf rs).take i).map (Ln.mv n (-1))) ⟨[], rfl, fun r z => (by cases z), rfl⟩ (fun H' s' => sqT_up hL.1 s') ?_ ?_
    · rintro i v acc H2 H3 hi s2 e2 ⟨ks, rfl, hk, ek⟩ ⟨rfl, hv⟩
      rw [List.getElem?_map] at hv
      obtain ⟨q, hq, rfl⟩ := Option.map_eq_some_iff.mp hv
      refine ⟨rfl, tt_yes ?_⟩
      refine ⟨_, rfl, _, rfl, _, rfl, q.1, q.2, n, -1, rfl, sqT_up (hL.2 q (List.mem_of_getElem? hq)) s2, fun m h => by omega, fun H4 b s4 hb => ?_⟩
      have hl2 : (lnsOf rs)[i]? = some q.2 := by rw [List.getElem?_map, hq]; rfl
      refine put_of hD off s2 e2 s4 ?_ ⟨ks ++ [(b, q.2.mv n (-1))], by rw [List.map_append]; rfl, fun r hr => ?_, ?_⟩
      · have h1 := congrArg List.length ek
        rw [List.length_map, List.length_map, List.length_take, List.length_map] at h1
        rw [List.length_map, sizeLine_eq]; have := ok.few; omega
      · rcases List.mem_append.mp hr with z | z
        · exact sqT_up (hk r z) s4
        · rw [List.mem_singleton.mp z]; exact hb
      · rw [List.map_append, ek, List.take_add_one, hl2, List.map_append]; rfl
    rintro acc H2 s2 e2 ⟨ks, rfl, hk, ek⟩
    have ek' : ks.map Prod.snd = (lnsOf rs).map (Ln.mv n (-1)) := by rw [ek, List.length_map, ← List.length_map (as := rs) (f := Prod.snd), List.take_length]
    have lk : ks.length = rs.length := by have := congrArg List.length ek'; simpa using this
    refine ⟨_, rfl, _, rfl, D, _, n, n, rfl, rfl, e2, by omega, by have := ok.few; omega, (by rw [List.length_map]; exact (PySem.seqIndex_of (k := (n : Int)) (by omega) (by omega)).trans (by rw [Int.toNat_natCast])), ?_⟩
    have ev : (ks.map fun r => V.ref r.1).eraseIdx n = (ks.eraseIdx n).map fun r => V.ref r.1 := (erase_map _ _ _).symm
    rw [ev]
    have s3 : Same H (upd H2 D (.lst ((ks.eraseIdx n).map fun r => V.ref r.1))) := same_to hD s2
    have e3 : upd H2 D (.lst ((ks.eraseIdx n).map fun r => V.ref r.1)) D = some (.lst ((ks.eraseIdx n).map fun r => V.ref r.1)) := upd_same
    have hk3 : ∀ r ∈ ks, SqT K (upd H2 D (.lst ((ks.eraseIdx n).map fun r => V.ref r.1))) r.1 r.2.vs := fun r hr => off_seq e2 keep_upd (hk r hr)
    generalize upd H2 D (HO.lst ((ks.eraseIdx n).map fun r => V.ref r.1)) = H3 at s3 e3 hk3 ⊢
    refine ⟨rfl, _, rfl, D, _, rfl, SqL.of e3, fun l nl => ?_⟩
    have s4 := same_new (o := HO.tup ((ks.eraseIdx n).map fun r => V.ref r.1)) nl
    have e4 : upd H3 l (HO.tup ((ks.eraseIdx n).map fun r => V.ref r.1)) l = some (HO.tup ((ks.eraseIdx n).map fun r => V.ref r.1)) := upd_same
    generalize upd H3 l (HO.tup ((ks.eraseIdx n).map fun r => V.ref r.1)) = H4 at s4 e4 ⊢
    have s04 := s3.trans s4
    have er : (ks.eraseIdx n).map Prod.snd = cutL n (lnsOf rs) := by
      unfold cutL
      rw [← ek', erase_map]
    exact .inl ⟨l, ks.eraseIdx n, rfl, ⟨SqT.of e4, fun r hr => sqT_up (hk3 r (List.mem_of_mem_eraseIdx hr)) s4⟩, ok' _ er, fun H' q s' nq hq => k H' q _ (s04.trans s') (s04.free nq) er hq⟩
end
end Rd

/-! The law's own lines -/
namespace Rd
open PySem PySem.Spec PyProof.Rows L2 Tq Dn Dc Ox
abbrev sMv : Stmt := top 52
abbrev sPut : Stmt := top 53
abbrev sCut : Stmt := top 54
section
variable {P : Program} {w : World} {K : PySem.W.Frag} {mg : Str → Option Value} {base : Heap}
theorem scMv : FnScope ["_law_line_here", "_law_at", "_law_by"] ["_law_line_here", "_law_at", "_law_by"] (defScope sMv) := ⟨rfl, rfl, rfl, by decide +kernel, rfl, by decide +kernel, by decide +kernel⟩
theorem ok_mv {f : Addr} {fd : FuncData} (F : Fun K "_law_moved" "_law_moved" sMv f fd) (T : TxM K mg) : FnOk P w K mg base CX0 1 f fd ["_law_line_here", "_law_at", "_law_by"] (spWn K) := by
  refine F.ok scMv (fun vs H Q E h => ?_) (fun cdv A outer s H vs Q E hr h => ?_)
  · obtain ⟨a, l, lim, up, rfl, _⟩ := h; rfl
  · obtain ⟨a, l, lim, up, rfl, hl, hn, k⟩ := h
    refine ⟨_, pss_cons (ps_if (PW.pt (pw_and (pt_cmpR op_in_seq (pe_ix ix_tup (pv 0) pe_int (fun _ _ => rfl)) (pe_tup (pa_cons pe_str (pa_cons pe_str pa_nil))) (by rfl)) (pw_and1 (pt_cmpR op_gt (pe_ix ix_tup (pv 0) (pe_un un_neg pe_int) (fun _ _ => rfl)) (pv 1) (nomark _)))))
        (pss_one (ps_ret (pe_op op_catT (pe_slice sl_tup (pv 0) po_none (po_some (pe_un un_neg pe_int))) (pe_tup (pa_cons (pe_op op_add (pe_ix ix_tup (pv 0) (pe_un un_neg pe_int) (fun _ _ => rfl)) (pv 2)) pa_nil))))) pss_nil)
      (pss_one (ps_ret (pv 0))), ?_⟩
    refine ⟨_, rfl, a, _, _, _, rfl, rfl, hl, atI_nat (j := 0) (ln_word l), ?_⟩
    refine ⟨(by show 2 ≤ sizeLine; decide), fun t nt => ?_⟩
    have st := same_new (o := HO.tup [V.str "if", V.str "go"]) nt
    cases l with
    | go n =>
      refine ⟨t, _, rfl, .inr (SqT.of upd_same), rfl, rfl, _, rfl, ?_⟩
      rw [show inV (V.str (Ln.word (Ln.go n))) [V.str "if", V.str "go"] = true from (by decide +kernel : inV (V.str "go") [V.str "if", V.str "go"] = true)]
      refine iteT ?_
      have e0 : atI (Ln.vs (Ln.go n)) (-1) = some (V.int ((n : Nat) : Int)) := atI_last [V.str "go"] _
      refine ⟨_, rfl, _, rfl, a, _, _, _, rfl, rfl, sqT_up hl st, e0, _, rfl, _, _, rfl, rfl, _, rfl, ite2 (fun c => ?_) (fun c => ?_)⟩
      · have c' : ((n : Nat) : Int) > lim := of_decide_eq_true c
        refine ⟨_, rfl, _, rfl, _, rfl, a, _, rfl, sqT_up hl st, fun h => absurd (show HT.sIx 2 2 (some (-1)) = 2 from h.2) (by decide), fun z nz => ?_⟩
        rw [show cutV (Ln.vs (Ln.go n)) none (some (-1)) = [V.str "go"] from rfl]
        have sz := same_new (o := HO.tup [V.str "go"]) nz
        refine ⟨_, rfl, _, rfl, a, _, _, _, rfl, rfl, sqT_up hl (st.trans sz), e0, _, rfl, _, _, rfl, rfl, (by show 1 ≤ sizeLine; decide), fun y ny => ?_⟩
        have sy := same_new (o := HO.tup [V.int ((n : Int) + up)]) ny
        refine ⟨z, y, _, _, rfl, rfl, SqT.of (sy _ _ upd_same), SqT.of upd_same, (fun h => nomatch h), (by show 1 + 1 ≤ sizeLine; decide), (fun h => nomatch h), fun _ b nb => ?_⟩
        refine k _ b (((st.trans sz).trans sy).trans (same_new nb)) (SqT.of ?_)
        rw [mv_go, if_pos c', upd_same]
        show _ = some (HO.tup ([V.str "go"] ++ [V.int (((n : Int) + up).toNat : Int)]))
        rw [Int.toNat_of_nonneg (hn n c')]
      · have c' : ¬ (((n : Nat) : Int) > lim) := of_decide_eq_false (Bool.not_eq_true _ |>.mp c)
        refine ⟨_, rfl, ?_⟩
        exact k _ a st (sqT_up (by rw [mv_go, if_neg c']; exact hl) st)
    | ift t' p' n =>
      refine ⟨t, _, rfl, .inr (SqT.of upd_same), rfl, rfl, _, rfl, ?_⟩
      rw [show inV (V.str (Ln.word (Ln.ift t' p' n))) [V.str "if", V.str "go"] = true from (by decide +kernel : inV (V.str "if") [V.str "if", V.str "go"] = true)]
      refine iteT ?_
      have e0 : atI (Ln.vs (Ln.ift t' p' n)) (-1) = some (V.int ((n : Nat) : Int)) := atI_last [V.str "if", V.str t', V.str p'] _
      refine ⟨_, rfl, _, rfl, a, _, _, _, rfl, rfl, sqT_up hl st, e0, _, rfl, _, _, rfl, rfl, _, rfl, ite2 (fun c => ?_) (fun c => ?_)⟩
      · have c' : ((n : Nat) : Int) > lim := of_decide_eq_true c
        refine ⟨_, rfl, _, rfl, _, rfl, a, _, rfl, sqT_up hl st, fun h => absurd (show HT.sIx 4 4 (some (-1)) = 4 from h.2) (by decide), fun z nz => ?_⟩
        rw [show cutV (Ln.vs (Ln.ift t' p' n)) none (some (-1)) = [V.str "if", V.str t', V.str p'] from rfl]
        have sz := same_new (o := HO.tup [V.str "if", V.str t', V.str p']) nz
        refine ⟨_, rfl, _, rfl, a, _, _, _, rfl, rfl, sqT_up hl (st.trans sz), e0, _, rfl, _, _, rfl, rfl, (by show 1 ≤ sizeLine; decide), fun y ny => ?_⟩
        have sy := same_new (o := HO.tup [V.int ((n : Int) + up)]) ny
        refine ⟨z, y, _, _, rfl, rfl, SqT.of (sy _ _ upd_same), SqT.of upd_same, (fun h => nomatch h), (by show 3 + 1 ≤ sizeLine; decide), (fun h => nomatch h), fun _ b nb => ?_⟩
        refine k _ b (((st.trans sz).trans sy).trans (same_new nb)) (SqT.of ?_)
        rw [mv_ift, if_pos c', upd_same]
        show _ = some (HO.tup ([V.str "if", V.str t', V.str p'] ++ [V.int (((n : Int) + up).toNat : Int)]))
        rw [Int.toNat_of_nonneg (hn n c')]
      · have c' : ¬ (((n : Nat) : Int) > lim) := of_decide_eq_false (Bool.not_eq_true _ |>.mp c)
        refine ⟨_, rfl, ?_⟩
        exact k _ a st (sqT_up (by rw [mv_ift, if_neg c']; exact hl) st)
    | look t' p' =>
      refine ⟨t, _, rfl, .inr (SqT.of upd_same), rfl, rfl, _, rfl, ?_⟩
      rw [show inV (V.str (Ln.word (Ln.look t' p'))) [V.str "if", V.str "go"] = false from (by decide +kernel : inV (V.str "look") [V.str "if", V.str "go"] = false)]
      exact iteF (iteF ⟨_, rfl, k _ a st (sqT_up hl st)⟩)
    | read t' p' =>
      refine ⟨t, _, rfl, .inr (SqT.of upd_same), rfl, rfl, _, rfl, ?_⟩
      rw [show inV (V.str (Ln.word (Ln.read t' p'))) [V.str "if", V.str "go"] = false from (by decide +kernel : inV (V.str "read") [V.str "if", V.str "go"] = false)]
      exact iteF (iteF ⟨_, rfl, k _ a st (sqT_up hl st)⟩)
theorem cut_to (xs : List V) (n : Nat) : cutV xs none (some (n : Int)) = xs.take n := by
  unfold cutV
  rw [HT.sIx_nat, HT.sIx_none, List.drop_zero, Nat.sub_zero]
  by_cases h : n ≤ xs.length
  · rw [Nat.min_eq_left h]
  · rw [Nat.min_eq_right (by omega), List.take_length, List.take_of_length_le (by omega)]
theorem cut_from (xs : List V) (n : Nat) : cutV xs (some (n : Int)) none = xs.drop n := by
  unfold cutV
  rw [HT.sIx_nat, HT.sIx_none]
  by_cases h : n ≤ xs.length
  · rw [Nat.min_eq_left h, List.take_of_length_le (by rw [List.length_drop]; omega)]
  · rw [Nat.min_eq_right (by omega), Nat.sub_self, List.take_zero, List.drop_eq_nil_of_le (by omega)]
def spPut (K : PySem.W.Frag) : Sp := fun vs H Q _ => ∃ (L a : Addr) (rs : RowsL) (l : Ln) (n : Nat), vs = [.ref L, .int n, .ref a] ∧ LinesAt K H L rs ∧ SqT K H a l.vs ∧ n ≤ rs.length ∧ rs.length ≤ 16 ∧ ∀ H' q rs', Same H H' → LinesAt K H' q rs' → rs'.map Prod.snd = putL n l (lnsOf rs) → Q (.ref q) H'
def spCut (K : PySem.W.Frag) : Sp := fun vs H Q _ => ∃ (L : Addr) (rs : RowsL) (n : Nat), vs = [.ref L, .int n] ∧ LinesAt K H L rs ∧ n < rs.length ∧ rs.length ≤ 16 ∧ ∀ H' q rs', Same H H' → LinesAt K H' q rs' → rs'.map Prod.snd = cutL n (lnsOf rs) → Q (.ref q) H'
theorem scPut : FnScope ["_law_lines_here", "_law_at", "_law_line_here", "_law_found", "_law_one"] ["_law_lines_here", "_law_at", "_law_line_here"] (defScope sPut) := ⟨rfl, rfl, rfl, by decide +kernel, rfl, by decide +kernel, by decide +kernel⟩
theorem scCut : FnScope ["_law_lines_here", "_law_at", "_law_found", "_law_one"] ["_law_lines_here", "_law_at"] (defScope sCut) := ⟨rfl, rfl, rfl, by decide +kernel, rfl, by decide +kernel, by decide +kernel⟩
theorem ok_put {f : Addr} {fd : FuncData} (F : Fun K "_law_with" "_law_with" sPut f fd) (T : TxM K mg) (hw : Has P w K mg base "_law_moved" 1 ["_law_line_here", "_law_at", "_law_by"] (spWn K)) : FnOk P w K mg base CX0 2 f fd ["_law_lines_here", "_law_at", "_law_line_here"] (spPut K) := by
  obtain ⟨gW, gdW, mW, kW, bW, GW⟩ := hw
  refine F.ok scPut (fun vs H Q E h => ?_) (fun cdv A outer s H vs Q E hr h => ?_)
  · obtain ⟨L, a, rs, l, n, rfl, _⟩ := h; rfl
  · obtain ⟨L, a, rs, ln, n, rfl, hL, ha, hn, few, k⟩ := h
    refine ⟨_, pss_cons (ps_setLc (i := 3) (own := [("_law_one", 4)]) (g := gName 4) (tt := tYes) (te := tCall (spWn K) [] E0 (tCons (tVar 4) (tCons (tVar 1) (tCons (tC (.int 1)) tNil)))) rfl scPut.nd rfl rfl (sw_true rfl rfl rfl rfl) (pi_tup (pv 0))
        (blkOk_by (N := ["_law_lines_here", "_law_at", "_law_line_here", "_law_found", "_law_one"]) (sc := defScope sPut) (by decide +kernel)) (fun _ _ _ _ _ => pg_name (i := 4) scPut.nd rfl (Or.inl rfl)) (fun _ _ _ _ _ => pts_nil)
        (fun _ _ _ _ _ => pe_call GW hr (by rfl) mW kW bW .nil pass0 (pa_cons (pv 4) (pa_cons (pv 1) (pa_cons pe_int pa_nil)))))
      (pss_one (ps_ret (pe_callTy call_tupOf (by rfl) T.tuple PyProof.Rows.boot_tuple (pa_cons (pe_op op_cat (pe_op op_cat (pe_slice sl_list (pv 3) po_none (po_some (pv 1))) (pe_lst (pa_cons (pv 2) pa_nil))) (pe_slice sl_list (pv 3) (po_some (pv 1)) po_none)) pa_nil)))), ?_⟩
    refine ⟨_, rfl, L, rfl, ⟨_, hL.1⟩, fun D hD => ?_⟩
    have off : Off D (fun i acc H' => ∃ ks : RowsL, acc = (ks.map fun r => V.ref r.1) ∧ (∀ r ∈ ks, SqT K H' r.1 r.2.vs) ∧ ks.map Prod.snd = ((lnsOf rs).take i).map (Ln.mv n 1)) :=
      fun i acc l H2 H3 e kp ⟨ks, z1, z2, z3⟩ => ⟨ks, z1, fun r hr => off_seq e kp (z2 r hr), z3⟩
    refine lc_fil walk_tup hD (fun i acc H' => ∃ ks : RowsL, acc = (ks.map fun r => V.ref r.1) ∧ (∀ r ∈ ks, SqT K H' r.1 r.2.vs) ∧ ks.map Prod.snd = ((lnsOf rs).take i).map (Ln.mv n 1)) ⟨[], rfl, fun r z => (by cases z), rfl⟩ (fun H' s' => sqT_up hL.1 s') ?_ ?_
    · rintro i v acc H2 H3 hi s2 e2 ⟨ks, rfl, hk, ek⟩ ⟨rfl, hv⟩
      rw [List.getElem?_map] at hv
      obtain ⟨q, hq, rfl⟩ := Option.map_eq_some_iff.mp hv
      refine ⟨rfl, tt_yes ?_⟩
      refine ⟨_, rfl, _, rfl, q.1, q.2, n, 1, rfl, sqT_up (hL.2 q (List.mem_of_getElem? hq)) s2, fun m h => by omega, fun H4 b s4 hb => ?_⟩
      have hl2 : (lnsOf rs)[i]? = some q.2 := by rw [List.getElem?_map, hq]; rfl
      refine put_of hD off s2 e2 s4 ?_ ⟨ks ++ [(b, q.2.mv n 1)], by rw [List.map_append]; rfl, fun r hr => ?_, ?_⟩
      · have h1 := congrArg List.length ek
        rw [List.length_map, List.length_map, List.length_take, List.length_map] at h1
        rw [List.length_map, sizeLine_eq]; omega
      · rcases List.mem_append.mp hr with z | z
        · exact sqT_up (hk r z) s4
        · rw [List.mem_singleton.mp z]; exact hb
      · rw [List.map_append, ek, List.take_add_one, hl2, List.map_append]; rfl
    rintro acc H2 s2 e2 ⟨ks, rfl, hk, ek⟩
    have ek' : ks.map Prod.snd = (lnsOf rs).map (Ln.mv n 1) := by rw [ek, List.length_map, ← List.length_map (as := rs) (f := Prod.snd), List.take_length]
    have lk : ks.length = rs.length := by have := congrArg List.length ek'; simpa using this
    generalize hv : (ks.map fun r => V.ref r.1) = vs at e2
    have lv : vs.length = ks.length := by rw [← hv, List.length_map]
    refine ⟨_, rfl, _, rfl, _, rfl, D, _, rfl, SqL.of e2, fun p1 n1 => ?_⟩
    rw [cut_to]
    have q1 := same_new (o := HO.lst (vs.take n)) n1
    have h1 : upd H2 p1 (HO.lst (vs.take n)) p1 = some (HO.lst (vs.take n)) := upd_same
    generalize upd H2 p1 (HO.lst (vs.take n)) = I1 at q1 h1 ⊢
    refine ⟨_, rfl, (by show 1 ≤ sizeLine; decide), fun p2 n2 => ?_⟩
    have q2 := same_new (o := HO.lst [V.ref a]) n2
    have h2 : upd I1 p2 (HO.lst [V.ref a]) p2 = some (HO.lst [V.ref a]) := upd_same
    generalize upd I1 p2 (HO.lst [V.ref a]) = I2 at q2 h2 ⊢
    refine ⟨p1, p2, _, _, rfl, rfl, q2 _ _ h1, h2, (by rw [List.length_take, sizeLine_eq]; simp; omega), fun p3 n3 => ?_⟩
    have q3 := same_new (o := HO.lst (vs.take n ++ [V.ref a])) n3
    have h3 : upd I2 p3 (HO.lst (vs.take n ++ [V.ref a])) p3 = some (HO.lst (vs.take n ++ [V.ref a])) := upd_same
    generalize upd I2 p3 (HO.lst (vs.take n ++ [V.ref a])) = I3 at q3 h3 ⊢
    refine ⟨_, rfl, _, rfl, _, rfl, D, _, rfl, SqL.of ((q1.trans (q2.trans q3)) _ _ e2), fun p4 n4 => ?_⟩
    rw [cut_from]
    have q4 := same_new (o := HO.lst (vs.drop n)) n4
    have h4 : upd I3 p4 (HO.lst (vs.drop n)) p4 = some (HO.lst (vs.drop n)) := upd_same
    generalize upd I3 p4 (HO.lst (vs.drop n)) = I4 at q4 h4 ⊢
    refine ⟨p3, p4, _, _, rfl, rfl, q4 _ _ h3, h4, (by rw [List.length_append, List.length_take, List.length_drop, sizeLine_eq]; simp; omega), fun p5 n5 => ?_⟩
    have q5 := same_new (o := HO.lst (vs.take n ++ [V.ref a] ++ vs.drop n)) n5
    have h5 : upd I4 p5 (HO.lst (vs.take n ++ [V.ref a] ++ vs.drop n)) p5 = some (HO.lst (vs.take n ++ [V.ref a] ++ vs.drop n)) := upd_same
    generalize upd I4 p5 (HO.lst (vs.take n ++ [V.ref a] ++ vs.drop n)) = I5 at q5 h5 ⊢
    refine ⟨p5, _, rfl, SqL.of h5, fun l nl => ?_⟩
    have s25 : Same H2 I5 := q1.trans (q2.trans (q3.trans (q4.trans q5)))
    have s6 := same_new (o := HO.tup (vs.take n ++ [V.ref a] ++ vs.drop n)) nl
    have s26 := s25.trans s6
    have er : (ks.take n ++ [(a, ln)] ++ ks.drop n).map Prod.snd = putL n ln (lnsOf rs) := by
      unfold putL
      rw [← ek', List.map_append, List.map_append, List.map_take, List.map_drop]; rfl
    have ev : vs.take n ++ [V.ref a] ++ vs.drop n = (ks.take n ++ [(a, ln)] ++ ks.drop n).map fun r => V.ref r.1 := by
      rw [← hv, List.map_append, List.map_append, List.map_take, List.map_drop]; rfl
    refine k _ l _ (s2.trans s26) ⟨SqT.of (by rw [upd_same, ev]), fun r hr => ?_⟩ er
    rcases List.mem_append.mp hr with hr | hr
    · rcases List.mem_append.mp hr with hr | hr
      · exact sqT_up (hk r (List.mem_of_mem_take hr)) s26
      · rw [List.mem_singleton.mp hr]; exact sqT_up ha (s2.trans s26)
    · exact sqT_up (hk r (List.mem_of_mem_drop hr)) s26
theorem ok_cut {f : Addr} {fd : FuncData} (F : Fun K "_law_without" "_law_without" sCut f fd) (T : TxM K mg) (hw : Has P w K mg base "_law_moved" 1 ["_law_line_here", "_law_at", "_law_by"] (spWn K)) : FnOk P w K mg base CX0 2 f fd ["_law_lines_here", "_law_at"] (spCut K) := by
  obtain ⟨gW, gdW, mW, kW, bW, GW⟩ := hw
  refine F.ok scCut (fun vs H Q E h => ?_) (fun cdv A outer s H vs Q E hr h => ?_)
  · obtain ⟨L, rs, n, rfl, _⟩ := h; rfl
  · obtain ⟨L, rs, n, rfl, hL, hn, few, k⟩ := h
    refine ⟨_, pss_cons (ps_setLc (i := 2) (own := [("_law_one", 3)]) (g := gName 3) (tt := tYes) (te := tCall (spWn K) [] E0 (tCons (tVar 3) (tCons (tVar 1) (tCons (tUn (rU fun i => .int (-i)) (tC (.int 1))) tNil)))) rfl scCut.nd rfl rfl (sw_true rfl rfl rfl rfl) (pi_tup (pv 0))
        (blkOk_by (N := ["_law_lines_here", "_law_at", "_law_found", "_law_one"]) (sc := defScope sCut) (by decide +kernel)) (fun _ _ _ _ _ => pg_name (i := 3) scCut.nd rfl (Or.inl rfl)) (fun _ _ _ _ _ => pts_nil)
        (fun _ _ _ _ _ => pe_call GW hr (by rfl) mW kW bW .nil pass0 (pa_cons (pv 3) (pa_cons (pv 1) (pa_cons (pe_un un_neg pe_int) pa_nil)))))
      (pss_one (ps_ret (pe_callTy call_tupOf (by rfl) T.tuple PyProof.Rows.boot_tuple (pa_cons (pe_op op_cat (pe_slice sl_list (pv 2) po_none (po_some (pv 1))) (pe_slice sl_list (pv 2) (po_some (pe_op op_add (pv 1) pe_int)) po_none)) pa_nil)))), ?_⟩
    refine ⟨_, rfl, L, rfl, ⟨_, hL.1⟩, fun D hD => ?_⟩
    have off : Off D (fun i acc H' => ∃ ks : RowsL, acc = (ks.map fun r => V.ref r.1) ∧ (∀ r ∈ ks, SqT K H' r.1 r.2.vs) ∧ ks.map Prod.snd = ((lnsOf rs).take i).map (Ln.mv n (-1))) :=
      fun i acc l H2 H3 e kp ⟨ks, z1, z2, z3⟩ => ⟨ks, z1, fun r hr => off_seq e kp (z2 r hr), z3⟩
    refine lc_fil walk_tup hD (fun i acc H' => ∃ ks : RowsL, acc = (ks.map fun r => V.ref r.1) ∧ (∀ r ∈ ks, SqT K H' r.1 r.2.vs) ∧ ks.map Prod.snd = ((lnsOf rs).take i).map (Ln.mv n (-1))) ⟨[], rfl, fun r z => (by cases z), rfl⟩ (fun H' s' => sqT_up hL.1 s') ?_ ?_
    · rintro i v acc H2 H3 hi s2 e2 ⟨ks, rfl, hk, ek⟩ ⟨rfl, hv⟩
      rw [List.getElem?_map] at hv
      obtain ⟨q, hq, rfl⟩ := Option.map_eq_some_iff.mp hv
      refine ⟨rfl, tt_yes ?_⟩
      refine ⟨_, rfl, _, rfl, _, rfl, q.1, q.2, n, -1, rfl, sqT_up (hL.2 q (List.mem_of_getElem? hq)) s2, fun m h => by omega, fun H4 b s4 hb => ?_⟩
      have hl2 : (lnsOf rs)[i]? = some q.2 := by rw [List.getElem?_map, hq]; rfl
      refine put_of hD off s2 e2 s4 ?_ ⟨ks ++ [(b, q.2.mv n (-1))], by rw [List.map_append]; rfl, fun r hr => ?_, ?_⟩
      · have h1 := congrArg List.length ek
        rw [List.length_map, List.length_map, List.length_take, List.length_map] at h1
        rw [List.length_map, sizeLine_eq]; omega
      · rcases List.mem_append.mp hr with z | z
        · exact sqT_up (hk r z) s4
        · rw [List.mem_singleton.mp z]; exact hb
      · rw [List.map_append, ek, List.take_add_one, hl2, List.map_append]; rfl
    rintro acc H2 s2 e2 ⟨ks, rfl, hk, ek⟩
    have ek' : ks.map Prod.snd = (lnsOf rs).map (Ln.mv n (-1)) := by rw [ek, List.length_map, ← List.length_map (as := rs) (f := Prod.snd), List.take_length]
    have lk : ks.length = rs.length := by have := congrArg List.length ek'; simpa using this
    generalize hv : (ks.map fun r => V.ref r.1) = vs at e2
    have lv : vs.length = ks.length := by rw [← hv, List.length_map]
    refine ⟨_, rfl, _, rfl, _, rfl, D, _, rfl, SqL.of e2, fun p1 n1 => ?_⟩
    rw [cut_to]
    have q1 := same_new (o := HO.lst (vs.take n)) n1
    have h1 : upd H2 p1 (HO.lst (vs.take n)) p1 = some (HO.lst (vs.take n)) := upd_same
    generalize upd H2 p1 (HO.lst (vs.take n)) = I1 at q1 h1 ⊢
    refine ⟨_, rfl, _, rfl, _, _, rfl, rfl, _, rfl, D, _, rfl, SqL.of (q1 _ _ e2), fun p2 n2 => ?_⟩
    rw [show ((n : Int) + 1) = ((n + 1 : Nat) : Int) from rfl, cut_from]
    have q2 := same_new (o := HO.lst (vs.drop (n + 1))) n2
    have h2 : upd I1 p2 (HO.lst (vs.drop (n + 1))) p2 = some (HO.lst (vs.drop (n + 1))) := upd_same
    generalize upd I1 p2 (HO.lst (vs.drop (n + 1))) = I2 at q2 h2 ⊢
    refine ⟨p1, p2, _, _, rfl, rfl, q2 _ _ h1, h2, (by rw [List.length_take, List.length_drop, sizeLine_eq]; omega), fun p3 n3 => ?_⟩
    have q3 := same_new (o := HO.lst (vs.take n ++ vs.drop (n + 1))) n3
    have h3 : upd I2 p3 (HO.lst (vs.take n ++ vs.drop (n + 1))) p3 = some (HO.lst (vs.take n ++ vs.drop (n + 1))) := upd_same
    generalize upd I2 p3 (HO.lst (vs.take n ++ vs.drop (n + 1))) = I3 at q3 h3 ⊢
    refine ⟨p3, _, rfl, SqL.of h3, fun l nl => ?_⟩
    have s23 : Same H2 I3 := q1.trans (q2.trans q3)
    have s6 := same_new (o := HO.tup (vs.take n ++ vs.drop (n + 1))) nl
    have s26 := s23.trans s6
    have er : (ks.eraseIdx n).map Prod.snd = cutL n (lnsOf rs) := by
      unfold cutL
      rw [← ek', erase_map]
    have ev : vs.take n ++ vs.drop (n + 1) = (ks.eraseIdx n).map fun r => V.ref r.1 := by
      rw [erase_map, hv, List.eraseIdx_eq_take_drop_succ]
    exact k _ l _ (s2.trans s26) ⟨SqT.of (by rw [upd_same, ev]), fun r hr => sqT_up (hk r (List.mem_of_mem_eraseIdx hr)) s26⟩ er
end
end Rd

/-! The course of lines -/
namespace Rd
open PySem PySem.Spec PyProof.Rows L2 Tq Dn Dc Ox
abbrev sCrs : Stmt := top 55
/-- what so many turns add, from a line on, with so many answers told -/
def crs (ls : List Ln) (ans : List Bool) : Nat → Nat → Nat → List Ln → List PyData
  | 0, _, _, f => f.map Ln.d
  | t + 1, i, k, f => if i = ls.length then f.map Ln.d ++ [.str "end"] else
    match ls[i]? with
    | none => f.map Ln.d
    | some (.go n) => crs ls ans t n k f
    | some (.ift _ _ n) => match ans[k]? with
      | none => f.map Ln.d ++ [.str "asked"]
      | some b => crs ls ans t (if b = true then n else i + 1) (k + 1) f
    | some (.look a b) => crs ls ans t (i + 1) k (f ++ [.look a b])
    | some (.read a b) => crs ls ans t (i + 1) k (f ++ [.read a b])
abbrev course (ls : List Ln) (ans : List Bool) : List PyData := crs ls ans 200 0 0 []
def spCrs (K : PySem.W.Frag) : Sp := fun vs H Q _ => ∃ (L A : Addr) (rs : RowsL) (ans : List Bool), vs = [.ref L, .ref A] ∧ LinesAt K H L rs ∧ SqL K H A (ans.map V.bl) ∧ (∀ r ∈ rs, r.2.fine rs.length = true) ∧ ans.length ≤ 100 ∧
  ∀ H' q xs, Same H H' → H' q = some (.lst xs) → DpAll K H' xs (course (lnsOf rs) ans) → xs.length ≤ 201 → Q (.ref q) H'
theorem crs_end {ls : List Ln} {ans : List Bool} {t i k : Nat} {f : List Ln} (h : i = ls.length) : crs ls ans (t + 1) i k f = f.map Ln.d ++ [.str "end"] := by rw [crs, if_pos h]
theorem at_ne {ls : List Ln} {i : Nat} {l : Ln} (h : ls[i]? = some l) : ¬ i = ls.length := fun e => by
  have := (List.getElem?_eq_some_iff.mp h).1; omega
theorem crs_go {ls : List Ln} {ans : List Bool} {t i k n : Nat} {f : List Ln} (h : ls[i]? = some (.go n)) : crs ls ans (t + 1) i k f = crs ls ans t n k f := by rw [crs, if_neg (at_ne h), h]
theorem crs_asked {ls : List Ln} {ans : List Bool} {t i k n : Nat} {a b : Str} {f : List Ln} (h : ls[i]? = some (.ift a b n)) (hk : ans[k]? = none) : crs ls ans (t + 1) i k f = f.map Ln.d ++ [.str "asked"] := by
  rw [crs, if_neg (at_ne h), h]; dsimp only; rw [hk]
theorem crs_if {ls : List Ln} {ans : List Bool} {t i k n : Nat} {a b : Str} {c : Bool} {f : List Ln} (h : ls[i]? = some (.ift a b n)) (hk : ans[k]? = some c) : crs ls ans (t + 1) i k f = crs ls ans t (if c = true then n else i + 1) (k + 1) f := by
  rw [crs, if_neg (at_ne h), h]; dsimp only; rw [hk]
theorem crs_look {ls : List Ln} {ans : List Bool} {t i k : Nat} {a b : Str} {f : List Ln} (h : ls[i]? = some (.look a b)) : crs ls ans (t + 1) i k f = crs ls ans t (i + 1) k (f ++ [.look a b]) := by rw [crs, if_neg (at_ne h), h]
theorem crs_read {ls : List Ln} {ans : List Bool} {t i k : Nat} {a b : Str} {f : List Ln} (h : ls[i]? = some (.read a b)) : crs ls ans (t + 1) i k f = crs ls ans t (i + 1) k (f ++ [.read a b]) := by rw [crs, if_neg (at_ne h), h]
theorem w_gg {n : Nat} : decide (V.str (Ln.go n).word = V.str "go") = true := by simp [Ln.word]
theorem w_ig {a b : Str} {n : Nat} : decide (V.str (Ln.ift a b n).word = V.str "go") = false := by simp [Ln.word, ne1]
theorem w_ii {a b : Str} {n : Nat} : decide (V.str (Ln.ift a b n).word = V.str "if") = true := by simp [Ln.word]
theorem w_lg {a b : Str} : decide (V.str (Ln.look a b).word = V.str "go") = false := by simp [Ln.word, ne2]
theorem w_li {a b : Str} : decide (V.str (Ln.look a b).word = V.str "if") = false := by simp [Ln.word, ne4]
theorem w_rg {a b : Str} : decide (V.str (Ln.read a b).word = V.str "go") = false := by simp [Ln.word, ne3]
theorem w_ri {a b : Str} : decide (V.str (Ln.read a b).word = V.str "if") = false := by simp [Ln.word, ne5]
/-- values and lines that rows have -/
def OfRows (rs : RowsL) (vs : List V) (fs : List Ln) : Prop := ∃ ks : RowsL, vs = (ks.map fun r => V.ref r.1) ∧ (∀ r ∈ ks, r ∈ rs) ∧ fs = ks.map Prod.snd
theorem OfRows.dp {K : PySem.W.Frag} {H H' : Hp} {L : Addr} {rs : RowsL} {vs : List V} {fs : List Ln} (h : OfRows rs vs fs) (hL : LinesAt K H L rs) (s : Same H H') : DpAll K H' vs (fs.map Ln.d) := by
  obtain ⟨ks, rfl, h2, rfl⟩ := h
  exact lns_dp fun r hr => sqT_up (hL.2 r (h2 r hr)) s
section
variable {P : Program} {w : World} {K : PySem.W.Frag} {mg : Str → Option Value} {base : Heap}
theorem scCrs : FnScope ["_law_lines_here", "_law_answers", "_law_found", "_law_at", "_law_asked", "_law_turn", "_law_line_here"] ["_law_lines_here", "_law_answers"] (defScope sCrs) := ⟨rfl, rfl, rfl, by decide +kernel, rfl, by decide +kernel, by decide +kernel⟩
theorem ok_crs {f : Addr} {fd : FuncData} (F : Fun K "_law_course" "_law_course" sCrs f fd) (T : TxM K mg) : FnOk P w K mg base CX0 1 f fd ["_law_lines_here", "_law_answers"] (spCrs K) := by
  refine F.ok scCrs (fun vs H Q E h => ?_) (fun cdv A' outer s H vs Q E hr h => ?_)
  · obtain ⟨L, A, rs, ans, rfl, _⟩ := h; rfl
  · obtain ⟨L, A, rs, ans, rfl, hL, hA, fine, few, k⟩ := h
    refine ⟨_, (pss_cons (ps_par3 (i := 2) (j := 3) (l := 4) rfl scCrs.nd rfl rfl rfl (by decide) (by decide) (by decide) rfl rfl rfl (pa_cons (pe_lst pa_nil) (pa_cons pe_int (pa_cons pe_int pa_nil))) (by rfl))
      (pss_cons (ps_for PassesOwn.never rfl (pi_range1 (by rfl) T.range (pa_cons pe_int pa_nil)) (pg_name (i := 5) scCrs.nd rfl (.inl rfl)) (pss_cons (ps_if (pt_cmpR op_eq (pv 3) (pe_callB call_lenT (by rfl) T.len PySem.boot_len (pa_cons (pv 0) pa_nil)) (nomark _)) (pss_one (ps_ret (pe_op op_cat (pv 2) (pe_lst (pa_cons pe_str pa_nil))))) pss_nil)
      (pss_cons (ps_set (i := 6) scCrs.nd rfl (Or.inl rfl) (pe_ix ix_tup (pv 0) (pv 3) (fun _ _ => rfl)))
      (pss_cons (ps_set (i := 3) scCrs.nd rfl (Or.inl rfl) (pe_op op_add (pv 3) pe_int))
      (pss_one (ps_if (pt_cmpR op_eq (pe_ix ix_tup (pv 6) pe_int (fun _ _ => rfl)) pe_str (nomark _)) (pss_one (ps_set (i := 3) scCrs.nd rfl (Or.inl rfl) (pe_ix ix_tup (pv 6) pe_int (fun _ _ => rfl)))) (pss_one (ps_if (pt_cmpR op_eq (pe_ix ix_tup (pv 6) pe_int (fun _ _ => rfl)) pe_str (nomark _)) (pss_cons (ps_if (pt_cmpR op_eq (pv 4) (pe_callB call_len_seq (by rfl) T.len PySem.boot_len (pa_cons (pv 1) pa_nil)) (nomark _)) (pss_one (ps_ret (pe_op op_cat (pv 2) (pe_lst (pa_cons pe_str pa_nil))))) pss_nil)
      (pss_cons (ps_if (pt_val (pe_ix ix_list (pv 1) (pv 4) (fun _ _ => rfl))) (pss_one (ps_set (i := 3) scCrs.nd rfl (Or.inl rfl) (pe_ix ix_tup (pv 6) pe_int (fun _ _ => rfl)))) pss_nil)
      (pss_one (ps_set (i := 4) scCrs.nd rfl (Or.inl rfl) (pe_op op_add (pv 4) pe_int))))) (pss_one (ps_expr (pe_bm PySem.F.plainAttrs_list PySem.F.slot_list_append PySem.F.type_list_append mt_append (pv 2) (pa_cons (pv 6) pa_nil))))))))))))
      (pss_one (ps_ret (pv 2))))), ?_⟩
    refine ⟨(by show 0 ≤ sizeLine; decide), fun fd nd => ⟨_, _, _, rfl, ?_⟩⟩
    refine ⟨200, rfl, by decide, by decide, ?_⟩
    refine for_it walk_range (fun i σ H' => ∃ (p q : Nat) (fs : List Ln) (vs : List V) (a b : Option V), σ = [some (.ref L), some (.ref A), some (.ref fd), some (.int (p : Int)), some (.int (q : Int)), a, b] ∧ H' fd = some (.lst vs) ∧ OfRows rs vs fs ∧ vs.length ≤ i ∧ Same H H' ∧ p ≤ rs.length ∧ q ≤ ans.length ∧ course (lnsOf rs) ans = crs (lnsOf rs) ans (200 - i) p q fs)
      ⟨0, 0, [], [], _, _, rfl, upd_same, ⟨[], rfl, (fun _ h => nomatch h), rfl⟩, Nat.le_refl _, same_new nd, Nat.zero_le _, Nat.zero_le _, rfl⟩ (fun _ _ _ _ _ => trivial) ?_ ?_
    · rintro i y σ Ha Hb hi ⟨p, q, fs, vs, a, b, rfl, ev, dv, lv, sv, hp, hq, ec⟩ ⟨rfl, rfl⟩
      have hi' : i < 200 := hi
      have e1 : 200 - i = (200 - (i + 1)) + 1 := by omega
      rw [e1] at ec
      refine ⟨_, rfl, _, rfl, L, _, rfl, sqT_up hL.1 sv, rfl, _, rfl, ?_⟩
      rw [List.length_map]
      refine ite2 (fun c => ?_) (fun c => ?_)
      · have hpe : p = rs.length := by
          have := of_decide_eq_true c
          have := V.int.inj this
          omega
        refine ⟨_, rfl, (by show 1 ≤ sizeLine; decide), fun t nt => ?_⟩
        have st := same_new (o := HO.lst [V.str "end"]) nt
        refine ⟨fd, t, _, _, rfl, rfl, st _ _ ev, upd_same, (by rw [sizeLine_eq]; simp; omega), fun u nu => ?_⟩
        have su := st.trans (same_new (o := HO.lst (vs ++ [V.str "end"])) nu)
        refine k _ u _ (sv.trans su) upd_same ?_ (by rw [List.length_append]; simp; omega)
        rw [ec, crs_end (by rw [List.length_map]; exact hpe)]
        exact dpAll_app (dv.dp hL (sv.trans su)) (.cons (.str _) .nil)
      have hpl : p < rs.length := by
        have : ¬ (p = rs.length) := fun e => c (by rw [e]; simp)
        omega
      obtain ⟨⟨xa, xl⟩, hx⟩ : ∃ x, rs[p]? = some x := ⟨rs[p], by simp [hpl]⟩
      have hxm := List.mem_of_getElem? hx
      have hls : (lnsOf rs)[p]? = some xl := by rw [List.getElem?_map, hx]; rfl
      have hxl := sqT_up (hL.2 _ hxm) sv
      have hfine := fine _ hxm
      have hp1 : p + 1 ≤ rs.length := hpl
      refine ⟨_, rfl, _, rfl, L, _, _, _, rfl, rfl, sqT_up hL.1 sv, atI_nat (j := p) (by rw [List.getElem?_map, hx]; rfl), ?_⟩
      refine ⟨_, rfl, _, _, rfl, rfl, ?_⟩
      refine ⟨_, rfl, xa, _, _, _, rfl, rfl, hxl, atI_nat (j := 0) (ln_word _), rfl, _, rfl, ?_⟩
      cases xl with
      | go n =>
        rw [w_gg]
        refine iteT ?_
        refine ⟨_, rfl, xa, _, _, _, rfl, rfl, hxl, atI_nat (j := 1) rfl, ?_⟩
        exact ⟨n, q, fs, vs, _, _, rfl, ev, dv, by omega, sv, of_decide_eq_true hfine, hq, by rw [ec, crs_go hls]⟩
      | ift ta pa n =>
        have hf3 : n ≤ rs.length := by
          have h2 : (nameS ta && (nameS pa && decide (n ≤ rs.length))) = true := hfine
          simp only [Bool.and_eq_true, decide_eq_true_eq] at h2
          exact h2.2.2
        rw [w_ig]
        refine iteF ?_
        refine ⟨_, rfl, xa, _, _, _, rfl, rfl, hxl, atI_nat (j := 0) (ln_word _), rfl, _, rfl, ?_⟩
        rw [w_ii]
        refine iteT ?_
        refine ⟨_, rfl, _, rfl, A, _, rfl, .inl (sqL_up hA sv), rfl, _, rfl, ?_⟩
        rw [List.length_map]
        refine ite2 (fun c2 => ?_) (fun c2 => ?_)
        · have hqe : q = ans.length := by
            have := V.int.inj (of_decide_eq_true c2)
            omega
          refine ⟨_, rfl, (by show 1 ≤ sizeLine; decide), fun t nt => ?_⟩
          have st := same_new (o := HO.lst [V.str "asked"]) nt
          refine ⟨fd, t, _, _, rfl, rfl, st _ _ ev, upd_same, (by rw [sizeLine_eq]; simp; omega), fun u nu => ?_⟩
          have su := st.trans (same_new (o := HO.lst (vs ++ [V.str "asked"])) nu)
          refine k _ u _ (sv.trans su) upd_same ?_ (by rw [List.length_append]; simp; omega)
          rw [ec, crs_asked hls (by rw [hqe]; simp)]
          exact dpAll_app (dv.dp hL (sv.trans su)) (.cons (.str _) .nil)
        have hql : q < ans.length := by
          have : ¬ (q = ans.length) := fun e => c2 (by rw [e]; simp)
          omega
        obtain ⟨c3, hc3⟩ : ∃ c, ans[q]? = some c := ⟨ans[q], by simp [hql]⟩
        refine ⟨_, rfl, _, rfl, A, _, _, _, rfl, rfl, sqL_up hA sv, atI_nat (j := q) (by rw [List.getElem?_map, hc3]; rfl), _, rfl, ?_⟩
        cases c3 with
        | true =>
          refine iteT ?_
          refine ⟨_, rfl, xa, _, _, _, rfl, rfl, hxl, atI_nat (j := 3) rfl, ?_⟩
          refine ⟨_, rfl, _, _, rfl, rfl, ?_⟩
          exact ⟨n, q + 1, fs, vs, _, _, rfl, ev, dv, by omega, sv, hf3, hql, by rw [ec, crs_if hls hc3]; rfl⟩
        | false =>
          refine iteF ?_
          refine ⟨_, rfl, _, _, rfl, rfl, ?_⟩
          exact ⟨p + 1, q + 1, fs, vs, _, _, rfl, ev, dv, by omega, sv, hp1, hql, by rw [ec, crs_if hls hc3]; rfl⟩
      | look ta pa =>
        rw [w_lg]
        refine iteF ?_
        refine ⟨_, rfl, xa, _, _, _, rfl, rfl, hxl, atI_nat (j := 0) (ln_word _), rfl, _, rfl, ?_⟩
        rw [w_li]
        refine iteF ?_
        refine ⟨_, rfl, Or.inl ⟨rfl, _, SqL.of ev⟩, _, rfl, fd, _, _, rfl, rfl, ev, (by rw [sizeLine_eq]; omega), ?_⟩
        have sn : Same H (upd Hb fd (.lst (vs ++ [V.ref xa]))) := same_to nd sv
        refine ⟨p + 1, q, fs ++ [.look ta pa], vs ++ [V.ref xa], _, _, rfl, upd_same, ?_, by rw [List.length_append]; simp; omega, sn, hp1, hq, ?_⟩
        · obtain ⟨ks, z1, z2, z3⟩ := dv
          refine ⟨ks ++ [(xa, .look ta pa)], by rw [z1, List.map_append]; rfl, fun r hr => ?_, by rw [z3, List.map_append]; rfl⟩
          rcases List.mem_append.mp hr with h | h
          · exact z2 r h
          · rw [List.mem_singleton.mp h]; exact hxm
        · rw [ec, crs_look hls]
      | read ta pa =>
        rw [w_rg]
        refine iteF ?_
        refine ⟨_, rfl, xa, _, _, _, rfl, rfl, hxl, atI_nat (j := 0) (ln_word _), rfl, _, rfl, ?_⟩
        rw [w_ri]
        refine iteF ?_
        refine ⟨_, rfl, Or.inl ⟨rfl, _, SqL.of ev⟩, _, rfl, fd, _, _, rfl, rfl, ev, (by rw [sizeLine_eq]; omega), ?_⟩
        have sn : Same H (upd Hb fd (.lst (vs ++ [V.ref xa]))) := same_to nd sv
        refine ⟨p + 1, q, fs ++ [.read ta pa], vs ++ [V.ref xa], _, _, rfl, upd_same, ?_, by rw [List.length_append]; simp; omega, sn, hp1, hq, ?_⟩
        · obtain ⟨ks, z1, z2, z3⟩ := dv
          refine ⟨ks ++ [(xa, .read ta pa)], by rw [z1, List.map_append]; rfl, fun r hr => ?_, by rw [z3, List.map_append]; rfl⟩
          rcases List.mem_append.mp hr with h | h
          · exact z2 r h
          · rw [List.mem_singleton.mp h]; exact hxm
        · rw [ec, crs_read hls]
    · rintro σ H1 ⟨p, q, fs, vs, a, b, rfl, ev, dv, lv, sv, hp, hq, ec⟩
      refine ⟨_, rfl, ?_⟩
      refine k _ fd vs sv ev ?_ (by have h2 : vs.length ≤ 200 := lv; omega)
      rw [ec]; exact dv.dp hL sv
end
end Rd

/-! Two courses compared -/
namespace Rd
open PySem PySem.Spec PyProof.Rows L2 Tq Dn Dc Ox
abbrev sAl : Stmt := top 57
/-- a cut of any list, by the rule of slices -/
def cutG {α : Type} (xs : List α) (lo hi : Option Int) : List α := (xs.drop (HT.sIx xs.length 0 lo)).take (HT.sIx xs.length xs.length hi - HT.sIx xs.length 0 lo)
theorem dpAll_cut {K : PySem.W.Frag} {H : Hp} {xs : List V} {ds : List PyData} (h : DpAll K H xs ds) (lo hi : Option Int) : DpAll K H (cutV xs lo hi) (cutG ds lo hi) := by
  unfold cutV cutG
  rw [← dpAll_len h]
  exact dpAll_take _ (dpAll_drop _ h)
abbrev lastG (ds : List PyData) : List PyData := cutG ds (some (-1)) none
def endsB (ds : List PyData) : Bool := [PyData.list [.str "end"], PyData.list [.str "asked"]].any fun e => PyData.eqv e (.list (lastG ds))
def alikeB (a b : List PyData) : Bool :=
  if (endsB a || endsB b) = true then PyData.eqv (.list (lastG a)) (.list (lastG b)) && PyData.eqv (.list a) (.list b) else PyData.eqv (.list (a.take (min a.length b.length))) (.list (b.take (min a.length b.length)))
/-- what stands in a course -/
theorem crs_in {ls : List Ln} {ans : List Bool} : ∀ {t i k : Nat} {f : List Ln}, (∀ l ∈ f, l ∈ ls) → ∀ d ∈ crs ls ans t i k f, (∃ l ∈ ls, d = l.d) ∨ d = .str "end" ∨ d = .str "asked"
  | 0, i, k, f, hf, d, hd => by
    obtain ⟨l, hl, rfl⟩ := List.mem_map.mp (show d ∈ f.map Ln.d from hd)
    exact .inl ⟨l, hf l hl, rfl⟩
  | t + 1, i, k, f, hf, d, hd => by
    have base : ∀ d ∈ f.map Ln.d, (∃ l ∈ ls, d = l.d) ∨ d = .str "end" ∨ d = .str "asked" := fun d hd => by
      obtain ⟨l, hl, rfl⟩ := List.mem_map.mp hd
      exact .inl ⟨l, hf l hl, rfl⟩
    by_cases hi : i = ls.length
    · rw [crs_end hi] at hd
      rcases List.mem_append.mp hd with h | h
      · exact base d h
      · exact .inr (.inl (List.mem_singleton.mp h))
    · cases hl : ls[i]? with
      | none =>
        rw [crs, if_neg hi, hl] at hd
        exact base d hd
      | some l =>
        have hm := List.mem_of_getElem? hl
        have ext : ∀ x ∈ f ++ [l], x ∈ ls := fun x hx => (List.mem_append.mp hx).elim (hf x) fun h => by rw [List.mem_singleton.mp h]; exact hm
        cases l with
        | go n => rw [crs_go hl] at hd; exact crs_in hf d hd
        | ift a b n =>
          cases hk : ans[k]? with
          | none =>
            rw [crs_asked hl hk] at hd
            rcases List.mem_append.mp hd with h | h
            · exact base d h
            · exact .inr (.inr (List.mem_singleton.mp h))
          | some c => rw [crs_if hl hk] at hd; exact crs_in hf d hd
        | look a b => rw [crs_look hl] at hd; exact crs_in ext d hd
        | read a b => rw [crs_read hl] at hd; exact crs_in ext d hd
theorem all_shaped : ∀ {ds : List PyData}, (∀ d ∈ ds, d.canLay0 = true ∧ d.depth ≤ 1) → PyData.canLayAll0 ds = true ∧ PyData.depthAll ds ≤ 1
  | [], _ => ⟨by simp [PyData.canLayAll0], by simp [PyData.depthAll]⟩
  | d :: ds, h => by
    obtain ⟨a, b⟩ := all_shaped fun x hx => h x (.tail _ hx)
    obtain ⟨c, e⟩ := h d List.mem_cons_self
    exact ⟨by simp only [PyData.canLayAll0, a, c, Bool.and_true], by simp only [PyData.depthAll]; omega⟩
theorem sub_shaped {ls : List Ln} {ans : List Bool} (z : ∀ l ∈ ls, l.safe) {ds : List PyData} (h : ∀ d ∈ ds, d ∈ course ls ans) : SeqAt.shaped (.list ds) = true := by
  have w1 : PyData.strOk "end" = true := by decide +kernel
  have w2 : PyData.strOk "asked" = true := by decide +kernel
  obtain ⟨a, b⟩ := all_shaped (ds := ds) fun d hd => by
    rcases crs_in (fun l hl => absurd hl (List.not_mem_nil)) d (h d hd) with ⟨l, hl, rfl⟩ | rfl | rfl
    · exact ⟨ln_lay (z l hl), ln_depth l⟩
    · exact ⟨by simp [PyData.canLay0, w1], by simp [PyData.depth]⟩
    · exact ⟨by simp [PyData.canLay0, w2], by simp [PyData.depth]⟩
  show (PyData.canLay0 (.list ds) && decide (PyData.depth (.list ds) ≤ 64)) = true
  rw [Bool.and_eq_true]
  exact ⟨by simp only [PyData.canLay0]; exact a, decide_eq_true (by simp only [PyData.depth]; omega)⟩
theorem cut_sub {α : Type} {xs : List α} {lo hi : Option Int} : ∀ x ∈ cutG xs lo hi, x ∈ xs := fun x hx => List.mem_of_mem_drop (List.mem_of_mem_take hx)
theorem bne_t {b : Bool} (h : (b != false) = true) : b = true := by cases b <;> simp_all
theorem bne_f {b : Bool} (h : ¬ (b != false) = true) : b = false := by cases b <;> simp_all
def spAl (K : PySem.W.Frag) : Sp := fun vs H Q _ => ∃ (L M A : Addr) (rs ss : RowsL) (ans : List Bool), vs = [.ref L, .ref M, .ref A] ∧ LinesAt K H L rs ∧ LinesAt K H M ss ∧ SqL K H A (ans.map V.bl) ∧ (∀ r ∈ rs, r.2.fine rs.length = true) ∧ (∀ r ∈ ss, r.2.fine ss.length = true) ∧ ans.length ≤ 100 ∧
  ∀ H', Same H H' → Q (.bl (alikeB (course (lnsOf rs) ans) (course (lnsOf ss) ans))) H'
section
variable {P : Program} {w : World} {K : PySem.W.Frag} {mg : Str → Option Value} {base : Heap}
theorem scAl : FnScope ["_law_one", "_law_two", "_law_answers", "_law_first", "_law_second", "_law_many"] ["_law_one", "_law_two", "_law_answers"] (defScope sAl) := ⟨rfl, rfl, rfl, by decide +kernel, rfl, by decide +kernel, by decide +kernel⟩
theorem ok_al {f : Addr} {fd : FuncData} (F : Fun K "_law_alike" "_law_alike" sAl f fd) (T : TxM K mg) (hc : Has P w K mg base "_law_course" 1 ["_law_lines_here", "_law_answers"] (spCrs K)) : FnOk P w K mg base CX0 2 f fd ["_law_one", "_law_two", "_law_answers"] (spAl K) := by
  obtain ⟨gC, gdC, mC, kC, bC, GC⟩ := hc
  refine F.ok scAl (fun vs H Q E h => ?_) (fun cdv A' outer s H vs Q E hr h => ?_)
  · obtain ⟨L, M, A, rs, ss, ans, rfl, _⟩ := h; rfl
  · obtain ⟨L, M, A, rs, ss, ans, rfl, hL, hM, hA, f1, f2, few, k⟩ := h
    have hu := hr.units
    have hu65 : (A'.deeper (envOfC (Str.ofString "_law_alike") (defScope sAl) s.heap.objs.size f cdv)).units + 65 < cLine := by have := hr.un; omega
    refine ⟨_, (pss_cons (ps_par (i := 3) (j := 4) rfl scAl.nd rfl rfl (by decide) rfl rfl (pa_cons (pe_call GC hr (by rfl) mC kC bC .nil pass0 (pa_cons (pv 0) (pa_cons (pv 2) pa_nil))) (pa_cons (pe_call GC hr (by rfl) mC kC bC .nil pass0 (pa_cons (pv 1) (pa_cons (pv 2) pa_nil))) pa_nil)) (by rfl))
      (pss_cons (ps_if (PW.pt (pw_or (pt_cmpR (op_inDT hu65) (pe_slice sl_list (pv 3) (po_some (pe_un un_neg pe_int)) po_none) (pe_tup (pa_cons (pe_lst (pa_cons pe_str pa_nil)) (pa_cons (pe_lst (pa_cons pe_str pa_nil)) pa_nil))) (by rfl)) (pw_or1 (pt_cmpR (op_inDT hu65) (pe_slice sl_list (pv 4) (po_some (pe_un un_neg pe_int)) po_none) (pe_tup (pa_cons (pe_lst (pa_cons pe_str pa_nil)) (pa_cons (pe_lst (pa_cons pe_str pa_nil)) pa_nil))) (by rfl))))) (pss_one (ps_ret (pe_and (pe_cmpR (op_eqD hu) (pe_slice sl_list (pv 3) (po_some (pe_un un_neg pe_int)) po_none) (pe_slice sl_list (pv 4) (po_some (pe_un un_neg pe_int)) po_none) (nomark _)) (pe_one (pe_cmpR (op_eqD hu) (pv 3) (pv 4) (nomark _)))))) pss_nil)
      (pss_cons (ps_set (i := 5) scAl.nd rfl (Or.inl rfl) (pe_callB (call_min2 rfl) (by rfl) T.min PyProof.Rows.boot_min (pa_cons (pe_callB call_len_seq (by rfl) T.len PySem.boot_len (pa_cons (pv 3) pa_nil)) (pa_cons (pe_callB call_len_seq (by rfl) T.len PySem.boot_len (pa_cons (pv 4) pa_nil)) pa_nil))))
      (pss_one (ps_ret (pe_cmpR (op_eqD hu) (pe_slice sl_list (pv 3) po_none (po_some (pv 5))) (pe_slice sl_list (pv 4) po_none (po_some (pv 5))) (nomark _))))))), ?_⟩
    refine ⟨_, rfl, _, rfl, L, A, rs, ans, rfl, hL, hA, f1, few, fun H1 p1 xs s1 e1 d1 l1 => ?_⟩
    refine ⟨_, rfl, _, rfl, M, A, ss, ans, rfl, hM.up s1, sqL_up hA s1, f2, few, fun H2 p2 ys s2 e2 d2 l2 => ?_⟩
    have e1' := s2 _ _ e1
    have d1' := dpAll_up s2 d1
    have sf1 : ∀ l ∈ lnsOf rs, l.safe := fun l hl => by
      obtain ⟨r, hr, rfl⟩ := List.mem_map.mp hl
      exact fine_safe (f1 r hr)
    have sf2 : ∀ l ∈ lnsOf ss, l.safe := fun l hl => by
      obtain ⟨r, hr, rfl⟩ := List.mem_map.mp hl
      exact fine_safe (f2 r hr)
    have sh1 := sub_shaped (ans := ans) sf1 (fun d hd => hd)
    have sh2 := sub_shaped (ans := ans) sf2 (fun d hd => hd)
    have sl1 := sub_shaped (ans := ans) (ds := lastG (course (lnsOf rs) ans)) sf1 (fun d hd => cut_sub d hd)
    have sl2 := sub_shaped (ans := ans) (ds := lastG (course (lnsOf ss) ans)) sf2 (fun d hd => cut_sub d hd)
    have st1 := fun n => sub_shaped (ans := ans) (ds := (course (lnsOf rs) ans).take n) sf1 (fun d hd => List.mem_of_mem_take hd)
    have st2 := fun n => sub_shaped (ans := ans) (ds := (course (lnsOf ss) ans).take n) sf2 (fun d hd => List.mem_of_mem_take hd)
    have len1 := dpAll_len d1
    have len2 := dpAll_len d2
    have s02 := s1.trans s2
    clear e1 d1
    generalize course (lnsOf rs) ans = c1 at *
    generalize course (lnsOf ss) ans = c2 at *
    clear sf1 sf2 f1 f2 hL hM hA
    have fin : ∀ H', Same H2 H' → (if (endsB c1 || endsB c2) = true then PyData.eqv (.list (lastG c1)) (.list (lastG c2)) && PyData.eqv (.list c1) (.list c2) else PyData.eqv (.list (c1.take (min c1.length c2.length))) (.list (c2.take (min c1.length c2.length)))) = alikeB c1 c2 := fun _ _ => rfl
    refine ⟨_, _, rfl, ?_⟩
    refine ⟨_, rfl, _, rfl, _, rfl, p1, _, rfl, SqL.of e1', fun ta1 na1 => ?_⟩
    have qa1 := same_new (o := HO.lst (cutV xs (some (-1)) none)) na1
    have ha1 : upd H2 ta1 (HO.lst (cutV xs (some (-1)) none)) ta1 = some (HO.lst (cutV xs (some (-1)) none)) := upd_same
    generalize upd H2 ta1 (HO.lst (cutV xs (some (-1)) none)) = Ja1 at qa1 ha1 ⊢
    refine ⟨(by show 1 ≤ sizeLine; decide), fun ta2 na2 => ?_⟩
    have qa2 := same_new (o := HO.lst [V.str "end"]) na2
    have ha2 : upd Ja1 ta2 (HO.lst [V.str "end"]) ta2 = some (HO.lst [V.str "end"]) := upd_same
    generalize upd Ja1 ta2 (HO.lst [V.str "end"]) = Ja2 at qa2 ha2 ⊢
    refine ⟨(by show 1 ≤ sizeLine; decide), fun ta3 na3 => ?_⟩
    have qa3 := same_new (o := HO.lst [V.str "asked"]) na3
    have ha3 : upd Ja2 ta3 (HO.lst [V.str "asked"]) ta3 = some (HO.lst [V.str "asked"]) := upd_same
    generalize upd Ja2 ta3 (HO.lst [V.str "asked"]) = Ja3 at qa3 ha3 ⊢
    refine ⟨(by show 2 ≤ sizeLine; decide), fun ta4 na4 => ?_⟩
    have qa4 := same_new (o := HO.tup [V.ref ta2, V.ref ta3]) na4
    have ha4 : upd Ja3 ta4 (HO.tup [V.ref ta2, V.ref ta3]) ta4 = some (HO.tup [V.ref ta2, V.ref ta3]) := upd_same
    generalize upd Ja3 ta4 (HO.tup [V.ref ta2, V.ref ta3]) = Ja4 at qa4 ha4 ⊢
    refine ⟨.list (lastG c1), [.list [.str "end"], .list [.str "asked"]], .lst (SqL.of ((qa2.trans (qa3.trans qa4)) _ _ ha1)) (dpAll_cut (dpAll_up (qa1.trans (qa2.trans (qa3.trans qa4))) d1') _ _), .tup (SqT.of ha4) (.cons (.lst (SqL.of ((qa3.trans qa4) _ _ ha2)) (.cons (.str _) .nil)) (.cons (.lst (SqL.of (qa4 _ _ ha3)) (.cons (.str _) .nil)) .nil)), sl1, by decide +kernel, _, rfl, ?_⟩
    refine ite2 (fun b1 => ?_) (fun b1 => ?_)
    · refine ⟨_, rfl, _, rfl, _, rfl, p1, _, rfl, SqL.of ((qa1.trans (qa2.trans (qa3.trans qa4))) _ _ e1'), fun tb5 nb5 => ?_⟩
      have qb5 := same_new (o := HO.lst (cutV xs (some (-1)) none)) nb5
      have hb5 : upd Ja4 tb5 (HO.lst (cutV xs (some (-1)) none)) tb5 = some (HO.lst (cutV xs (some (-1)) none)) := upd_same
      generalize upd Ja4 tb5 (HO.lst (cutV xs (some (-1)) none)) = Jb5 at qb5 hb5 ⊢
      refine ⟨_, rfl, _, rfl, _, rfl, p2, _, rfl, SqL.of ((qa1.trans (qa2.trans (qa3.trans (qa4.trans qb5)))) _ _ e2), fun tb6 nb6 => ?_⟩
      have qb6 := same_new (o := HO.lst (cutV ys (some (-1)) none)) nb6
      have hb6 : upd Jb5 tb6 (HO.lst (cutV ys (some (-1)) none)) tb6 = some (HO.lst (cutV ys (some (-1)) none)) := upd_same
      generalize upd Jb5 tb6 (HO.lst (cutV ys (some (-1)) none)) = Jb6 at qb6 hb6 ⊢
      refine ⟨.list (lastG c1), .list (lastG c2), .lst (SqL.of (qb6 _ _ hb5)) (dpAll_cut (dpAll_up (qa1.trans (qa2.trans (qa3.trans (qa4.trans (qb5.trans qb6))))) d1') _ _), .lst (SqL.of hb6) (dpAll_cut (dpAll_up (qa1.trans (qa2.trans (qa3.trans (qa4.trans (qb5.trans qb6))))) d2) _ _), sl1, sl2, _, rfl, ?_⟩
      have hk := k _ (s02.trans (qa1.trans (qa2.trans (qa3.trans (qa4.trans (qb5.trans qb6))))))
      unfold alikeB at hk
      rw [if_pos (by rw [Bool.or_eq_true]; exact .inl (bne_t b1))] at hk
      refine ite2 (fun c => ?_) (fun c => ?_)
      · refine ⟨_, rfl, _, rfl, .list c1, .list c2, .lst (SqL.of ((qa1.trans (qa2.trans (qa3.trans (qa4.trans (qb5.trans qb6))))) _ _ e1')) (dpAll_up (qa1.trans (qa2.trans (qa3.trans (qa4.trans (qb5.trans qb6))))) d1'), .lst (SqL.of ((qa1.trans (qa2.trans (qa3.trans (qa4.trans (qb5.trans qb6))))) _ _ e2)) (dpAll_up (qa1.trans (qa2.trans (qa3.trans (qa4.trans (qb5.trans qb6))))) d2), sh1, sh2, ?_⟩
        rw [c, Bool.true_and] at hk
        exact hk
      · rw [Bool.not_eq_true _ |>.mp c, Bool.false_and] at hk
        exact hk
    refine ⟨_, rfl, _, rfl, _, rfl, p2, _, rfl, SqL.of ((qa1.trans (qa2.trans (qa3.trans qa4))) _ _ e2), fun tc5 nc5 => ?_⟩
    have qc5 := same_new (o := HO.lst (cutV ys (some (-1)) none)) nc5
    have hc5 : upd Ja4 tc5 (HO.lst (cutV ys (some (-1)) none)) tc5 = some (HO.lst (cutV ys (some (-1)) none)) := upd_same
    generalize upd Ja4 tc5 (HO.lst (cutV ys (some (-1)) none)) = Jc5 at qc5 hc5 ⊢
    refine ⟨(by show 1 ≤ sizeLine; decide), fun tc6 nc6 => ?_⟩
    have qc6 := same_new (o := HO.lst [V.str "end"]) nc6
    have hc6 : upd Jc5 tc6 (HO.lst [V.str "end"]) tc6 = some (HO.lst [V.str "end"]) := upd_same
    generalize upd Jc5 tc6 (HO.lst [V.str "end"]) = Jc6 at qc6 hc6 ⊢
    refine ⟨(by show 1 ≤ sizeLine; decide), fun tc7 nc7 => ?_⟩
    have qc7 := same_new (o := HO.lst [V.str "asked"]) nc7
    have hc7 : upd Jc6 tc7 (HO.lst [V.str "asked"]) tc7 = some (HO.lst [V.str "asked"]) := upd_same
    generalize upd Jc6 tc7 (HO.lst [V.str "asked"]) = Jc7 at qc7 hc7 ⊢
    refine ⟨(by show 2 ≤ sizeLine; decide), fun tc8 nc8 => ?_⟩
    have qc8 := same_new (o := HO.tup [V.ref tc6, V.ref tc7]) nc8
    have hc8 : upd Jc7 tc8 (HO.tup [V.ref tc6, V.ref tc7]) tc8 = some (HO.tup [V.ref tc6, V.ref tc7]) := upd_same
    generalize upd Jc7 tc8 (HO.tup [V.ref tc6, V.ref tc7]) = Jc8 at qc8 hc8 ⊢
    refine ⟨.list (lastG c2), [.list [.str "end"], .list [.str "asked"]], .lst (SqL.of ((qc6.trans (qc7.trans qc8)) _ _ hc5)) (dpAll_cut (dpAll_up (qa1.trans (qa2.trans (qa3.trans (qa4.trans (qc5.trans (qc6.trans (qc7.trans qc8))))))) d2) _ _), .tup (SqT.of hc8) (.cons (.lst (SqL.of ((qc7.trans qc8) _ _ hc6)) (.cons (.str _) .nil)) (.cons (.lst (SqL.of (qc8 _ _ hc7)) (.cons (.str _) .nil)) .nil)), sl2, by decide +kernel, _, rfl, ?_⟩
    refine ite2 (fun b2 => ?_) (fun b2 => ?_)
    · refine ⟨_, rfl, _, rfl, _, rfl, p1, _, rfl, SqL.of ((qa1.trans (qa2.trans (qa3.trans (qa4.trans (qc5.trans (qc6.trans (qc7.trans qc8))))))) _ _ e1'), fun td9 nd9 => ?_⟩
      have qd9 := same_new (o := HO.lst (cutV xs (some (-1)) none)) nd9
      have hd9 : upd Jc8 td9 (HO.lst (cutV xs (some (-1)) none)) td9 = some (HO.lst (cutV xs (some (-1)) none)) := upd_same
      generalize upd Jc8 td9 (HO.lst (cutV xs (some (-1)) none)) = Jd9 at qd9 hd9 ⊢
      refine ⟨_, rfl, _, rfl, _, rfl, p2, _, rfl, SqL.of ((qa1.trans (qa2.trans (qa3.trans (qa4.trans (qc5.trans (qc6.trans (qc7.trans (qc8.trans qd9)))))))) _ _ e2), fun td10 nd10 => ?_⟩
      have qd10 := same_new (o := HO.lst (cutV ys (some (-1)) none)) nd10
      have hd10 : upd Jd9 td10 (HO.lst (cutV ys (some (-1)) none)) td10 = some (HO.lst (cutV ys (some (-1)) none)) := upd_same
      generalize upd Jd9 td10 (HO.lst (cutV ys (some (-1)) none)) = Jd10 at qd10 hd10 ⊢
      refine ⟨.list (lastG c1), .list (lastG c2), .lst (SqL.of (qd10 _ _ hd9)) (dpAll_cut (dpAll_up (qa1.trans (qa2.trans (qa3.trans (qa4.trans (qc5.trans (qc6.trans (qc7.trans (qc8.trans (qd9.trans qd10))))))))) d1') _ _), .lst (SqL.of hd10) (dpAll_cut (dpAll_up (qa1.trans (qa2.trans (qa3.trans (qa4.trans (qc5.trans (qc6.trans (qc7.trans (qc8.trans (qd9.trans qd10))))))))) d2) _ _), sl1, sl2, _, rfl, ?_⟩
      have hk := k _ (s02.trans (qa1.trans (qa2.trans (qa3.trans (qa4.trans (qc5.trans (qc6.trans (qc7.trans (qc8.trans (qd9.trans qd10))))))))))
      unfold alikeB at hk
      rw [if_pos (by rw [Bool.or_eq_true]; exact .inr (bne_t b2))] at hk
      refine ite2 (fun c => ?_) (fun c => ?_)
      · refine ⟨_, rfl, _, rfl, .list c1, .list c2, .lst (SqL.of ((qa1.trans (qa2.trans (qa3.trans (qa4.trans (qc5.trans (qc6.trans (qc7.trans (qc8.trans (qd9.trans qd10))))))))) _ _ e1')) (dpAll_up (qa1.trans (qa2.trans (qa3.trans (qa4.trans (qc5.trans (qc6.trans (qc7.trans (qc8.trans (qd9.trans qd10))))))))) d1'), .lst (SqL.of ((qa1.trans (qa2.trans (qa3.trans (qa4.trans (qc5.trans (qc6.trans (qc7.trans (qc8.trans (qd9.trans qd10))))))))) _ _ e2)) (dpAll_up (qa1.trans (qa2.trans (qa3.trans (qa4.trans (qc5.trans (qc6.trans (qc7.trans (qc8.trans (qd9.trans qd10))))))))) d2), sh1, sh2, ?_⟩
        rw [c, Bool.true_and] at hk
        exact hk
      · rw [Bool.not_eq_true _ |>.mp c, Bool.false_and] at hk
        exact hk
    refine ⟨_, rfl, p1, _, rfl, .inl (SqL.of ((qa1.trans (qa2.trans (qa3.trans (qa4.trans (qc5.trans (qc6.trans (qc7.trans qc8))))))) _ _ e1')), _, rfl, p2, _, rfl, .inl (SqL.of ((qa1.trans (qa2.trans (qa3.trans (qa4.trans (qc5.trans (qc6.trans (qc7.trans qc8))))))) _ _ e2)), _, _, rfl, ?_⟩
    have em : (if ((ys.length : Nat) : Int) < ((xs.length : Nat) : Int) then ((ys.length : Nat) : Int) else ((xs.length : Nat) : Int)) = ((min c1.length c2.length : Nat) : Int) := by rw [← len1, ← len2]; split <;> omega
    rw [em]
    have ctexs : cutV xs none (some ((min c1.length c2.length : Nat) : Int)) = xs.take (min c1.length c2.length) := cut_to _ _
    refine ⟨_, rfl, _, rfl, _, rfl, p1, _, rfl, SqL.of ((qa1.trans (qa2.trans (qa3.trans (qa4.trans (qc5.trans (qc6.trans (qc7.trans qc8))))))) _ _ e1'), fun te9 ne9 => ?_⟩
    rw [ctexs]
    have qe9 := same_new (o := HO.lst (xs.take (min c1.length c2.length))) ne9
    have he9 : upd Jc8 te9 (HO.lst (xs.take (min c1.length c2.length))) te9 = some (HO.lst (xs.take (min c1.length c2.length))) := upd_same
    generalize upd Jc8 te9 (HO.lst (xs.take (min c1.length c2.length))) = Je9 at qe9 he9 ⊢
    have cteys : cutV ys none (some ((min c1.length c2.length : Nat) : Int)) = ys.take (min c1.length c2.length) := cut_to _ _
    refine ⟨_, rfl, _, rfl, _, rfl, p2, _, rfl, SqL.of ((qa1.trans (qa2.trans (qa3.trans (qa4.trans (qc5.trans (qc6.trans (qc7.trans (qc8.trans qe9)))))))) _ _ e2), fun te10 ne10 => ?_⟩
    rw [cteys]
    have qe10 := same_new (o := HO.lst (ys.take (min c1.length c2.length))) ne10
    have he10 : upd Je9 te10 (HO.lst (ys.take (min c1.length c2.length))) te10 = some (HO.lst (ys.take (min c1.length c2.length))) := upd_same
    generalize upd Je9 te10 (HO.lst (ys.take (min c1.length c2.length))) = Je10 at qe10 he10 ⊢
    refine ⟨.list (c1.take (min c1.length c2.length)), .list (c2.take (min c1.length c2.length)), .lst (SqL.of (qe10 _ _ he9)) (dpAll_take _ (dpAll_up (qa1.trans (qa2.trans (qa3.trans (qa4.trans (qc5.trans (qc6.trans (qc7.trans (qc8.trans (qe9.trans qe10))))))))) d1')), .lst (SqL.of he10) (dpAll_take _ (dpAll_up (qa1.trans (qa2.trans (qa3.trans (qa4.trans (qc5.trans (qc6.trans (qc7.trans (qc8.trans (qe9.trans qe10))))))))) d2)), st1 _, st2 _, ?_⟩
    have hk := k _ (s02.trans (qa1.trans (qa2.trans (qa3.trans (qa4.trans (qc5.trans (qc6.trans (qc7.trans (qc8.trans (qe9.trans qe10))))))))))
    unfold alikeB at hk
    rw [if_neg (by rw [show endsB c1 = false from bne_f b1, show endsB c2 = false from bne_f b2]; decide)] at hk
    exact hk
end
end Rd

/-! A line that only goes on with the next one changes no course -/
namespace Rd
open PySem PySem.Spec PyProof.Rows L2 Tq Dn Dc Ox
/-- lines done and the word at the end -/
def run (ls : List Ln) (ans : List Bool) : Nat → Nat → Nat → List Ln × Option Str
  | 0, _, _ => ([], none)
  | t + 1, i, k => if i = ls.length then ([], some "end") else
    match ls[i]? with
    | none => ([], none)
    | some (.go n) => run ls ans t n k
    | some (.ift _ _ n) => match ans[k]? with
      | none => ([], some "asked")
      | some b => run ls ans t (if b = true then n else i + 1) (k + 1)
    | some (.look a b) => (.look a b :: (run ls ans t (i + 1) k).1, (run ls ans t (i + 1) k).2)
    | some (.read a b) => (.read a b :: (run ls ans t (i + 1) k).1, (run ls ans t (i + 1) k).2)
section
variable {ls : List Ln} {ans : List Bool}
theorem run_end {t i k : Nat} (h : i = ls.length) : run ls ans (t + 1) i k = ([], some ("end" : Str)) := by rw [run, if_pos h]
theorem run_no {t i k : Nat} (h : ¬ i = ls.length) (hl : ls[i]? = none) : run ls ans (t + 1) i k = ([], none) := by rw [run, if_neg h, hl]
theorem run_go {t i k n : Nat} (h : ls[i]? = some (.go n)) : run ls ans (t + 1) i k = run ls ans t n k := by rw [run, if_neg (at_ne h), h]
theorem run_asked {t i k n : Nat} {a b : Str} (h : ls[i]? = some (.ift a b n)) (hk : ans[k]? = none) : run ls ans (t + 1) i k = ([], some ("asked" : Str)) := by rw [run, if_neg (at_ne h), h]; dsimp only; rw [hk]
theorem run_if {t i k n : Nat} {a b : Str} {c : Bool} (h : ls[i]? = some (.ift a b n)) (hk : ans[k]? = some c) : run ls ans (t + 1) i k = run ls ans t (if c = true then n else i + 1) (k + 1) := by rw [run, if_neg (at_ne h), h]; dsimp only; rw [hk]
theorem run_look {t i k : Nat} {a b : Str} (h : ls[i]? = some (.look a b)) : run ls ans (t + 1) i k = (.look a b :: (run ls ans t (i + 1) k).1, (run ls ans t (i + 1) k).2) := by rw [run, if_neg (at_ne h), h]
theorem run_read {t i k : Nat} {a b : Str} (h : ls[i]? = some (.read a b)) : run ls ans (t + 1) i k = (.read a b :: (run ls ans t (i + 1) k).1, (run ls ans t (i + 1) k).2) := by rw [run, if_neg (at_ne h), h]
theorem crs_run : ∀ {t i k : Nat} {f : List Ln}, crs ls ans t i k f = (f ++ (run ls ans t i k).1).map Ln.d ++ (run ls ans t i k).2.toList.map PyData.str
  | 0, i, k, f => by simp [crs, run]
  | t + 1, i, k, f => by
    by_cases hi : i = ls.length
    · rw [crs_end hi, run_end hi]; simp
    · cases hl : ls[i]? with
      | none => rw [crs, if_neg hi, hl, run_no hi hl]; simp
      | some l =>
        cases l with
        | go n => rw [crs_go hl, run_go hl, crs_run]
        | ift a b n =>
          cases hk : ans[k]? with
          | none => rw [crs_asked hl hk, run_asked hl hk]; simp
          | some c => rw [crs_if hl hk, run_if hl hk, crs_run]
        | look a b => rw [crs_look hl, run_look hl, crs_run]; simp
        | read a b => rw [crs_read hl, run_read hl, crs_run]; simp
/-- more turns change nothing behind the end, and add to what is done -/
theorem run_more : ∀ {t i k s : Nat}, (∀ e, (run ls ans t i k).2 = some e → run ls ans (t + s) i k = run ls ans t i k) ∧ (run ls ans t i k).1 <+: (run ls ans (t + s) i k).1
  | 0, i, k, s => ⟨fun e h => (by cases (show (none : Option Str) = some e from h)), List.nil_prefix⟩
  | t + 1, i, k, s => by
    rw [show t + 1 + s = (t + s) + 1 by omega]
    by_cases hi : i = ls.length
    · rw [run_end hi, run_end hi]; exact ⟨fun _ _ => rfl, List.prefix_refl _⟩
    · cases hl : ls[i]? with
      | none => rw [run_no hi hl, run_no hi hl]; exact ⟨fun _ _ => rfl, List.prefix_refl _⟩
      | some l =>
        cases l with
        | go n => rw [run_go hl, run_go hl]; exact run_more
        | ift a b n =>
          cases hk : ans[k]? with
          | none => rw [run_asked hl hk, run_asked hl hk]; exact ⟨fun _ _ => rfl, List.prefix_refl _⟩
          | some c => rw [run_if hl hk, run_if hl hk]; exact run_more
        | look a b =>
          rw [run_look hl, run_look hl]
          obtain ⟨h1, h2⟩ := run_more (t := t) (i := i + 1) (k := k) (s := s)
          exact ⟨fun e he => by rw [h1 e he], (List.cons_prefix_cons).mpr ⟨rfl, h2⟩⟩
        | read a b =>
          rw [run_read hl, run_read hl]
          obtain ⟨h1, h2⟩ := run_more (t := t) (i := i + 1) (k := k) (s := s)
          exact ⟨fun e he => by rw [h1 e he], (List.cons_prefix_cons).mpr ⟨rfl, h2⟩⟩
/-! ### no place is met twice ahead of an end -/
def stp (ls : List Ln) (ans : List Bool) (c : Nat × Nat) : Option (Nat × Nat) := if c.1 = ls.length then none else
  match ls[c.1]? with
  | none => none
  | some (.go n) => some (n, c.2)
  | some (.ift _ _ n) => match ans[c.2]? with
    | none => none
    | some b => some (if b = true then n else c.1 + 1, c.2 + 1)
  | some _ => some (c.1 + 1, c.2)
def nth (ls : List Ln) (ans : List Bool) : Nat → Nat × Nat → Option (Nat × Nat)
  | 0, c => some c
  | m + 1, c => (stp ls ans c).bind (nth ls ans m)
theorem nth_add : ∀ (a p : Nat) (c : Nat × Nat), nth ls ans (a + p) c = (nth ls ans a c).bind (nth ls ans p)
  | 0, p, c => by rw [Nat.zero_add]; rfl
  | a + 1, p, c => by
    rw [show a + 1 + p = (a + p) + 1 by omega]
    show (stp ls ans c).bind (nth ls ans (a + p)) = ((stp ls ans c).bind (nth ls ans a)).bind (nth ls ans p)
    cases stp ls ans c with
    | none => rfl
    | some d => exact nth_add a p d
theorem stop_one : ∀ {p q : Nat} {x c d : Nat × Nat}, nth ls ans p x = some c → stp ls ans c = none → nth ls ans q x = some d → stp ls ans d = none → p = q
  | 0, 0, _, _, _, _, _, _, _ => rfl
  | 0, q + 1, x, c, d, h1, h2, h3, h4 => by
    cases h1
    have h3' : (stp ls ans x).bind (nth ls ans q) = some d := h3
    rw [h2] at h3'; cases h3'
  | p + 1, 0, x, c, d, h1, h2, h3, h4 => by
    cases h3
    have h1' : (stp ls ans x).bind (nth ls ans p) = some c := h1
    rw [h4] at h1'; cases h1'
  | p + 1, q + 1, x, c, d, h1, h2, h3, h4 => by
    have h1' : (stp ls ans x).bind (nth ls ans p) = some c := h1
    have h3' : (stp ls ans x).bind (nth ls ans q) = some d := h3
    cases e : stp ls ans x with
    | none => rw [e] at h1'; cases h1'
    | some y =>
      rw [e] at h1' h3'
      rw [stop_one (p := p) (q := q) h1' h2 h3' h4]
theorem stp_in (fine : ∀ l ∈ ls, l.fine ls.length = true) {c d : Nat × Nat} (h : stp ls ans c = some d) (h1 : c.1 ≤ ls.length) (h2 : c.2 ≤ ans.length) : d.1 ≤ ls.length ∧ d.2 ≤ ans.length := by
  unfold stp at h
  by_cases hi : c.1 = ls.length
  · rw [if_pos hi] at h; cases h
  · rw [if_neg hi] at h
    cases hl : ls[c.1]? with
    | none => rw [hl] at h; cases h
    | some l =>
      have hf := fine l (List.mem_of_getElem? hl)
      have hp : c.1 + 1 ≤ ls.length := by omega
      rw [hl] at h
      cases l with
      | go n => cases h; exact ⟨of_decide_eq_true hf, h2⟩
      | ift a b n =>
        have h3 : (nameS a && (nameS b && decide (n ≤ ls.length))) = true := hf
        simp only [Bool.and_eq_true, decide_eq_true_eq] at h3
        cases hk : ans[c.2]? with
        | none => simp only [hk] at h; cases h
        | some e =>
          simp only [hk] at h
          have hk2 := (List.getElem?_eq_some_iff.mp hk).1
          cases e with
          | true => cases h; exact ⟨h3.2.2, hk2⟩
          | false => cases h; exact ⟨hp, hk2⟩
      | look a b => cases h; exact ⟨hp, h2⟩
      | read a b => cases h; exact ⟨hp, h2⟩
theorem nth_in (fine : ∀ l ∈ ls, l.fine ls.length = true) : ∀ {m : Nat} {c d : Nat × Nat}, nth ls ans m c = some d → c.1 ≤ ls.length → c.2 ≤ ans.length → d.1 ≤ ls.length ∧ d.2 ≤ ans.length
  | 0, c, d, h, h1, h2 => by cases h; exact ⟨h1, h2⟩
  | m + 1, c, d, h, h1, h2 => by
    have h' : (stp ls ans c).bind (nth ls ans m) = some d := h
    cases e : stp ls ans c with
    | none => rw [e] at h'; cases h'
    | some x =>
      rw [e] at h'
      obtain ⟨a, b⟩ := stp_in fine e h1 h2
      exact nth_in fine (m := m) h' a b
def places (n m : Nat) : List (Nat × Nat) := (List.range (n + 1)).flatMap fun i => (List.range (m + 1)).map fun k => (i, k)
theorem places_len (n m : Nat) : (places n m).length = (n + 1) * (m + 1) := by
  unfold places
  have : ∀ xs : List Nat, (xs.flatMap fun i => (List.range (m + 1)).map fun k => (i, k)).length = xs.length * (m + 1) := fun xs => by
    induction xs with
    | nil => simp
    | cons x xs ih => rw [List.flatMap_cons, List.length_append, ih, List.length_map, List.length_range, List.length_cons, Nat.add_mul, Nat.one_mul, Nat.add_comm]
  rw [this, List.length_range]
theorem in_places {n m i k : Nat} (h1 : i ≤ n) (h2 : k ≤ m) : (i, k) ∈ places n m := List.mem_flatMap.mpr ⟨i, List.mem_range.mpr (by omega), List.mem_map.mpr ⟨k, List.mem_range.mpr (by omega), rfl⟩⟩
theorem stop_soon (fine : ∀ l ∈ ls, l.fine ls.length = true) {m : Nat} {c d : Nat × Nat} (h1 : c.1 ≤ ls.length) (h2 : c.2 ≤ ans.length) (h : nth ls ans m c = some d) (hs : stp ls ans d = none) : m + 1 ≤ (ls.length + 1) * (ans.length + 1) := by
  have some_ : ∀ j ≤ m, ∃ x, nth ls ans j c = some x ∧ nth ls ans (m - j) x = some d := fun j hj => by
    have e := nth_add (ls := ls) (ans := ans) j (m - j) c
    rw [show j + (m - j) = m by omega, h] at e
    cases e2 : nth ls ans j c with
    | none => rw [e2] at e; cases e
    | some x => rw [e2] at e; exact ⟨x, rfl, e.symm⟩
  have := sub_len (xs := (List.range (m + 1)).map fun j => nth ls ans j c) (ys := (places ls.length ans.length).map some) ?_ ?_
  · rw [List.length_map, List.length_map, List.length_range, places_len] at this; exact this
  · rw [List.nodup_iff_pairwise_ne, List.pairwise_map]
    refine (List.nodup_iff_pairwise_ne.mp List.nodup_range).imp_of_mem ?_
    intro a b ha hb hne he
    obtain ⟨x, hx, hx2⟩ := some_ a (by have := List.mem_range.mp ha; omega)
    obtain ⟨y, hy, hy2⟩ := some_ b (by have := List.mem_range.mp hb; omega)
    rw [hx, hy] at he
    cases he
    have := stop_one hx2 hs hy2 hs
    have := List.mem_range.mp ha
    have := List.mem_range.mp hb
    omega
  · intro x hx
    obtain ⟨j, hj, rfl⟩ := List.mem_map.mp hx
    obtain ⟨y, hy, _⟩ := some_ j (by have := List.mem_range.mp hj; omega)
    obtain ⟨a, b⟩ := nth_in fine hy h1 h2
    rw [hy]
    exact List.mem_map_of_mem (in_places a b)
end
end Rd

namespace Rd
open PySem PySem.Spec PyProof.Rows L2 Tq Dn Dc Ox
section
variable {ls : List Ln} {ans : List Bool}
theorem run_stp {t i k : Nat} {x : Nat × Nat} (h : stp ls ans (i, k) = some x) : (run ls ans (t + 1) i k).2 = (run ls ans t x.1 x.2).2 := by
  unfold stp at h
  by_cases hi : i = ls.length
  · rw [if_pos (show (i, k).1 = ls.length from hi)] at h; cases h
  · rw [if_neg (show ¬ (i, k).1 = ls.length from hi)] at h
    dsimp only at h
    cases hl : ls[i]? with
    | none => rw [hl] at h; cases h
    | some l =>
      rw [hl] at h
      cases l with
      | go n => cases h; rw [run_go hl]
      | ift a b n =>
        cases hk : ans[k]? with
        | none => simp only [hk] at h; cases h
        | some c => simp only [hk] at h; cases h; rw [run_if hl hk]
      | look a b => cases h; rw [run_look hl]
      | read a b => cases h; rw [run_read hl]
theorem run_stop {t i k : Nat} (h : stp ls ans (i, k) = none) (hi : i ≤ ls.length) : ∃ e, (run ls ans (t + 1) i k).2 = some e := by
  unfold stp at h
  by_cases h0 : i = ls.length
  · rw [run_end h0]; exact ⟨_, rfl⟩
  · rw [if_neg (show ¬ (i, k).1 = ls.length from h0)] at h
    dsimp only at h
    have hl : ls[i]? = some ls[i] := List.getElem?_eq_getElem (by omega)
    generalize ls[i]'(by omega) = l at hl
    rw [hl] at h
    cases l with
    | go n => cases h
    | ift a b n =>
      cases hk : ans[k]? with
      | none => rw [run_asked hl hk]; exact ⟨_, rfl⟩
      | some c => simp only [hk] at h; cases h
    | look a b => cases h
    | read a b => cases h
theorem ended_nth : ∀ {t i k : Nat} {e : Str}, (run ls ans t i k).2 = some e → ∃ m d, nth ls ans m (i, k) = some d ∧ stp ls ans d = none
  | 0, i, k, e, h => by cases (show (none : Option Str) = some e from h)
  | t + 1, i, k, e, h => by
    cases hs : stp ls ans (i, k) with
    | none => exact ⟨0, _, rfl, hs⟩
    | some x =>
      rw [run_stp hs] at h
      obtain ⟨m, d, h1, h2⟩ := ended_nth h
      refine ⟨m + 1, d, ?_, h2⟩
      show (stp ls ans (i, k)).bind (nth ls ans m) = some d
      rw [hs]; exact h1
theorem nth_ended (fine : ∀ l ∈ ls, l.fine ls.length = true) : ∀ {m t i k : Nat} {d : Nat × Nat}, m < t → i ≤ ls.length → k ≤ ans.length → nth ls ans m (i, k) = some d → stp ls ans d = none → ∃ e, (run ls ans t i k).2 = some e
  | m, 0, _, _, _, h, _, _, _, _ => by omega
  | 0, t + 1, i, k, d, _, hi, hk, h1, h2 => by cases h1; exact run_stop h2 hi
  | m + 1, t + 1, i, k, d, h, hi, hk, h1, h2 => by
    have h1' : (stp ls ans (i, k)).bind (nth ls ans m) = some d := h1
    cases hs : stp ls ans (i, k) with
    | none => rw [hs] at h1'; cases h1'
    | some x =>
      rw [hs] at h1'
      obtain ⟨a, b⟩ := stp_in fine hs hi hk
      rw [run_stp hs]
      exact nth_ended fine (m := m) (by omega) a b h1' h2
/-- what ends at all ends within so many turns -/
theorem ends_soon (fine : ∀ l ∈ ls, l.fine ls.length = true) {t T i k : Nat} {e : Str} (hi : i ≤ ls.length) (hk : k ≤ ans.length) (hT : (ls.length + 1) * (ans.length + 1) ≤ T) (h : (run ls ans t i k).2 = some e) : ∃ e', (run ls ans T i k).2 = some e' := by
  obtain ⟨m, d, h1, h2⟩ := ended_nth h
  have := stop_soon fine (c := (i, k)) hi hk h1 h2
  exact nth_ended fine (by omega) hi hk h1 h2
/-! ### a line put in that goes on with the next one -/
theorem put_len {a : Nat} {l : Ln} (ha : a ≤ ls.length) : (putL a l ls).length = ls.length + 1 := by
  unfold putL
  simp; omega
theorem put_low {a j : Nat} {l : Ln} (ha : a ≤ ls.length) (hj : j < a) : (putL a l ls)[j]? = (ls[j]?).map (Ln.mv a 1) := by
  unfold putL
  have h1 : ((ls.map (Ln.mv (a : Int) 1)).take a).length = a := by simp; omega
  rw [List.append_assoc, List.getElem?_append_left (by omega), List.getElem?_take_of_lt hj, List.getElem?_map]
theorem put_at {a : Nat} {l : Ln} (ha : a ≤ ls.length) : (putL a l ls)[a]? = some l := by
  unfold putL
  have h1 : ((ls.map (Ln.mv (a : Int) 1)).take a).length = a := by simp; omega
  rw [List.append_assoc, List.getElem?_append_right (by omega), h1, Nat.sub_self]; rfl
theorem put_high {a j : Nat} {l : Ln} (ha : a ≤ ls.length) (hj : a ≤ j) : (putL a l ls)[j + 1]? = (ls[j]?).map (Ln.mv a 1) := by
  unfold putL
  have h1 : ((ls.map (Ln.mv (a : Int) 1)).take a).length = a := by simp; omega
  rw [List.append_assoc, List.getElem?_append_right (by omega), h1, show j + 1 - a = (j - a) + 1 by omega]
  show ((ls.map (Ln.mv (a : Int) 1)).drop a)[j - a]? = _
  rw [List.getElem?_drop, show a + (j - a) = j by omega, List.getElem?_map]
/-- the place of a line there -/
def Over (a i j : Nat) : Prop := (i ≤ a ∧ j = i) ∨ (a ≤ i ∧ j = i + 1)
def mvN (a n : Nat) : Nat := if (n : Int) > a then n + 1 else n
theorem over_mv (a n : Nat) : Over a n (mvN a n) := by
  unfold mvN Over
  split
  · exact .inr ⟨by omega, rfl⟩
  · exact .inl ⟨by omega, rfl⟩
theorem mv_go1 {a n : Nat} : (Ln.go n).mv a 1 = .go (mvN a n) := by
  rw [mv_go]; unfold mvN
  split
  · congr 1
  · rfl
theorem mv_ift1 {a n : Nat} {t p : Str} : (Ln.ift t p n).mv a 1 = .ift t p (mvN a n) := by
  rw [mv_ift]; unfold mvN
  split
  · congr 1
  · rfl
theorem run_over {a : Nat} (ha : a ≤ ls.length) (fine : ∀ l ∈ ls, l.fine ls.length = true) : ∀ {t i j k : Nat}, Over a i j → i ≤ ls.length → ∃ s, t ≤ s ∧ run (putL a (.go (a + 1)) ls) ans s j k = run ls ans t i k
  | 0, i, j, k, _, _ => ⟨0, Nat.le_refl _, rfl⟩
  | t + 1, i, j, k, ho, hi => by
    have strict : ∀ j, ((i < a ∧ j = i) ∨ (a ≤ i ∧ j = i + 1)) → ∃ s, t + 1 ≤ s ∧ run (putL a (.go (a + 1)) ls) ans s j k = run ls ans (t + 1) i k := fun j hs => by
      have hg : (putL a (.go (a + 1)) ls)[j]? = (ls[i]?).map (Ln.mv a 1) := by
        rcases hs with ⟨h1, rfl⟩ | ⟨h1, rfl⟩
        · exact put_low ha h1
        · exact put_high ha h1
      have next : Over a (i + 1) (j + 1) := by
        rcases hs with ⟨h1, rfl⟩ | ⟨h1, rfl⟩
        · exact .inl ⟨h1, rfl⟩
        · exact .inr ⟨by omega, rfl⟩
      by_cases h0 : i = ls.length
      · have hj : j = (putL a (.go (a + 1)) ls).length := by
          rw [put_len ha]
          rcases hs with ⟨h1, rfl⟩ | ⟨h1, rfl⟩ <;> omega
        exact ⟨t + 1, Nat.le_refl _, by rw [run_end hj, run_end h0]⟩
      · have hl : ls[i]? = some ls[i] := List.getElem?_eq_getElem (by omega)
        generalize ls[i]'(by omega) = l at hl
        rw [hl] at hg
        cases l with
        | go n =>
          have hg' : (putL a (.go (a + 1)) ls)[j]? = some (.go (mvN a n)) := by rw [hg, Option.map_some, mv_go1]
          obtain ⟨s, h1, h2⟩ := run_over ha fine (t := t) (k := k) (over_mv a n) (of_decide_eq_true (fine _ (List.mem_of_getElem? hl)))
          exact ⟨s + 1, by omega, by rw [run_go hg', run_go hl, h2]⟩
        | ift tb pb n =>
          have hg' : (putL a (.go (a + 1)) ls)[j]? = some (.ift tb pb (mvN a n)) := by rw [hg, Option.map_some, mv_ift1]
          have h3 : (nameS tb && (nameS pb && decide (n ≤ ls.length))) = true := fine _ (List.mem_of_getElem? hl)
          simp only [Bool.and_eq_true, decide_eq_true_eq] at h3
          cases hk : ans[k]? with
          | none => exact ⟨t + 1, Nat.le_refl _, by rw [run_asked hg' hk, run_asked hl hk]⟩
          | some c =>
            cases c with
            | true =>
              obtain ⟨s, h1, h2⟩ := run_over ha fine (t := t) (k := k + 1) (over_mv a n) h3.2.2
              exact ⟨s + 1, by omega, by rw [run_if hg' hk, run_if hl hk]; exact h2⟩
            | false =>
              obtain ⟨s, h1, h2⟩ := run_over ha fine (t := t) (k := k + 1) next (by omega)
              exact ⟨s + 1, by omega, by rw [run_if hg' hk, run_if hl hk]; exact h2⟩
        | look tb pb =>
          obtain ⟨s, h1, h2⟩ := run_over ha fine (t := t) (k := k) next (by omega)
          exact ⟨s + 1, by omega, by rw [run_look (show _ = some (Ln.look tb pb) from hg), run_look hl, h2]⟩
        | read tb pb =>
          obtain ⟨s, h1, h2⟩ := run_over ha fine (t := t) (k := k) next (by omega)
          exact ⟨s + 1, by omega, by rw [run_read (show _ = some (Ln.read tb pb) from hg), run_read hl, h2]⟩
    rcases ho with ⟨h1, hj⟩ | ⟨h1, hj⟩
    · by_cases he : i = a
      · obtain ⟨s, h2, h3⟩ := strict (i + 1) (.inr ⟨by omega, rfl⟩)
        rw [he] at h3
        exact ⟨s + 1, by omega, by rw [hj, he, run_go (put_at ha), h3]⟩
      · exact strict j (.inl ⟨by omega, hj⟩)
    · exact strict j (.inr ⟨h1, hj⟩)
theorem put_fine {a : Nat} {l : Ln} (fine : ∀ l ∈ ls, l.fine ls.length = true) (hl : l.fine (ls.length + 1) = true) : ∀ x ∈ putL a l ls, x.fine (ls.length + 1) = true := fun x hx => by
  have : x = l ∨ x ∈ ls.map (Ln.mv (a : Int) 1) := by
    unfold putL at hx
    rcases List.mem_append.mp hx with hx | hx
    · rcases List.mem_append.mp hx with hx | hx
      · exact .inr (List.mem_of_mem_take hx)
      · exact .inl (List.mem_singleton.mp hx)
    · exact .inr (List.mem_of_mem_drop hx)
  rcases this with rfl | h
  · exact hl
  · obtain ⟨y, hy, rfl⟩ := List.mem_map.mp h
    exact fine_put (fine y hy)
theorem no_end (fs : List Ln) : endsB (fs.map Ln.d) = false := by
  have h : ∀ d ∈ lastG (fs.map Ln.d), ∃ l : Ln, d = l.d := fun d hd => by
    obtain ⟨l, _, rfl⟩ := List.mem_map.mp (cut_sub d hd)
    exact ⟨l, rfl⟩
  unfold endsB
  generalize lastG (fs.map Ln.d) = zs at h
  have no : ∀ w : Str, PyData.eqv (.list [.str w]) (.list zs) = false := fun w => by
    cases zs with
    | nil => simp [PyData.eqv, PyData.eqvAll]
    | cons z zs =>
      obtain ⟨l, rfl⟩ := h z List.mem_cons_self
      simp [PyData.eqv, PyData.eqvAll, Ln.d]
  simp only [List.any_cons, List.any_nil, no, Bool.or_false]
theorem alike_idle {a : Nat} (ha : a ≤ ls.length) (fine : ∀ l ∈ ls, l.fine ls.length = true) (few : ls.length ≤ 9) (na : ans.length ≤ 12) : alikeB (course ls ans) (course (putL a (.go (a + 1)) ls) ans) = true := by
  have fine2 : ∀ x ∈ putL a (.go (a + 1)) ls, x.fine (putL a (.go (a + 1)) ls).length = true := by
    rw [put_len ha]
    exact put_fine fine (decide_eq_true (by omega))
  have lay1 := fun (ds : List PyData) (h : ∀ d ∈ ds, d ∈ course ls ans) => SeqAt.canLay_of_shaped (sub_shaped (ans := ans) (fun l hl => fine_safe (fine l hl)) h)
  have lay2 := fun (ds : List PyData) (h : ∀ d ∈ ds, d ∈ course (putL a (.go (a + 1)) ls) ans) => SeqAt.canLay_of_shaped (sub_shaped (ans := ans) (fun l hl => fine_safe (fine2 l hl)) h)
  obtain ⟨s, hs, e⟩ := run_over (ans := ans) ha fine (t := 200) (i := 0) (j := 0) (k := 0) (.inl ⟨Nat.zero_le _, rfl⟩) (Nat.zero_le _)
  obtain ⟨m1, m2⟩ := run_more (ls := putL a (.go (a + 1)) ls) (ans := ans) (t := 200) (i := 0) (k := 0) (s := s - 200)
  rw [show 200 + (s - 200) = s by omega, e] at m1 m2
  have same : course ls ans = course (putL a (.go (a + 1)) ls) ans → alikeB (course ls ans) (course (putL a (.go (a + 1)) ls) ans) = true := fun h => by
    rw [← h]
    unfold alikeB
    rw [SeqAt.eqv_refl _ (lay1 _ fun d hd => hd), SeqAt.eqv_refl _ (lay1 _ fun d hd => cut_sub d hd), SeqAt.eqv_refl _ (lay1 _ fun d hd => List.mem_of_mem_take hd)]
    split <;> rfl
  cases h1 : (run ls ans 200 0 0).2 with
  | some w =>
    have h2 : (run (putL a (.go (a + 1)) ls) ans s 0 0).2 = some w := by rw [e]; exact h1
    obtain ⟨w', h3⟩ := ends_soon fine2 (T := 200) (Nat.zero_le _) (Nat.zero_le _) (by
      rw [put_len ha]
      exact Nat.le_trans (Nat.mul_le_mul (show ls.length + 1 + 1 ≤ 11 by omega) (show ans.length + 1 ≤ 13 by omega)) (by decide)) h2
    have h4 := m1 w' h3
    refine same ?_
    show crs _ _ _ _ _ _ = crs _ _ _ _ _ _
    rw [crs_run, crs_run, h4]
  | none =>
    have h2 : (run (putL a (.go (a + 1)) ls) ans 200 0 0).2 = none := by
      cases h3 : (run (putL a (.go (a + 1)) ls) ans 200 0 0).2 with
      | none => rfl
      | some w' =>
        have := m1 w' h3
        rw [this, h3] at h1; cases h1
    have c1 : course ls ans = (run ls ans 200 0 0).1.map Ln.d := by show crs _ _ _ _ _ _ = _; rw [crs_run, h1]; simp
    have c2 : course (putL a (.go (a + 1)) ls) ans = (run (putL a (.go (a + 1)) ls) ans 200 0 0).1.map Ln.d := by show crs _ _ _ _ _ _ = _; rw [crs_run, h2]; simp
    have l2 := lay2 _ fun d hd => hd
    rw [c2] at l2
    rw [c1, c2]
    generalize (run ls ans 200 0 0).1 = x1 at m2 ⊢
    generalize (run (putL a (.go (a + 1)) ls) ans 200 0 0).1 = x2 at m2 l2 ⊢
    obtain ⟨y, rfl⟩ := m2
    unfold alikeB
    rw [no_end, no_end, if_neg (by decide)]
    have hm : min ((x2 ++ y).map Ln.d).length (x2.map Ln.d).length = (x2.map Ln.d).length := by simp
    rw [hm, List.take_length, List.map_append, List.take_left]
    exact SeqAt.eqv_refl _ l2
end
end Rd

/-! Lists of data and of dicts with data: == and != of equal ones. -/
namespace PySem.SeqAt
open AutoSeq1 (wpAny_loadPart')
open MeetsSeq MeetsSeq2 MeetsSeq3
section
variable {prog : Program} {w : World}
theorem ne_go (l b : Addr) (xs ys : Array Value) (n m : Nat) (da db : Option Addr) (sa sb : Array (Option Value)) (hs : xs.size = ys.size) (k : Nat) :
    ∀ i : Nat, xs.size - i = k → MeetsIn prog w (Builtin.«list.__eq__.loop» ⟨[.ref l, .ref b, rawInt i, rawInt 3], []⟩)
      (fun A R s => s.heap.get? l = some { cls := .type "list", dict := da, data := .seq xs n, slots := sa } ∧ s.heap.get? b = some { cls := .type "list", dict := db, data := .seq ys m, slots := sb } ∧
        (∀ j (h1 : j < xs.size) (h2 : j < ys.size), EqP prog w A.in1 s xs[j] ys[j] true) ∧ R (.ok (.ret (.bool false))) s) := by
  induction k with
  | zero =>
    intro i hk A R s h
    obtain ⟨hp, g, d, tk, os⟩ := s; obtain ⟨hl, hb, he, h⟩ := h
    wp_walk using wpAny_loadPart' hl, wpAny_loadPart' hb
    have z1 : xs[((i : Nat) : Int).toNat]? = none := by simp; omega
    have z2 : ys[((i : Nat) : Int).toNat]? = none := by simp; omega
    rw [z1, z2]
    wp_walk using wpAny_loadPart' hl, wpAny_loadPart' hb
    show R (.ok (.ret (.bool (xs.size != ys.size)))) _
    rw [hs]
    simpa using h
  | succ k ih =>
    intro i hk A R s h
    obtain ⟨hp, g, d, tk, os⟩ := s; obtain ⟨hl, hb, he, h⟩ := h
    wp_walk using wpAny_loadPart' hl, wpAny_loadPart' hb
    have i1 : i < xs.size := by omega
    have i2 : i < ys.size := by omega
    have z1 : xs[((i : Nat) : Int).toNat]? = some xs[i] := by simp [i1]
    have z2 : ys[((i : Nat) : Int).toNat]? = some ys[i] := by simp [i2]
    rw [z1, z2]
    refine wpAny_bind (he i i1 i2 _ _ ?_)
    wp_walk
    rw [show ((i : Int) + 1) = ((i + 1 : Nat) : Int) by push_cast; rfl]
    exact ⟨plainId_quiet plain_eq_loop _, codeAny_builtin entry_eq_loop (by
      rw [Around.under_plainId plain_eq_loop _]
      exact ih (i + 1) (by omega) A R _ ⟨hl, hb, he, h⟩)⟩
theorem ne_lists {A : Around} {s : Shared} {l b : Addr} {xs ys : Array Value} (hl : s.heap.IsList l xs) (hb : s.heap.IsList b ys) (hs : xs.size = ys.size) (hu : A.units < cLine)
    (he : ∀ j (h1 : j < xs.size) (h2 : j < ys.size), EqP prog w A.in1 s xs[j] ys[j] true) (E Q : Value → Shared → Prop) (h : Q (.bool false) s) : wpAny (model prog w) A (richCompare .NotEq (.ref l) (.ref b)) Q E s := by
  obtain ⟨⟨cls, dd, data, sl⟩, ho, hc, n, hd⟩ := id hl
  obtain ⟨⟨cls2, dd2, data2, sl2⟩, ho2, hc2, n2, hd2⟩ := id hb
  simp only at hc hd hc2 hd2
  subst hc hd hc2 hd2
  have ta : s.TypeIs (.ref l) "list" := ⟨_, ho, rfl⟩
  have tb : s.TypeIs (.ref b) "list" := ⟨_, ho2, rfl⟩
  refine wpAny_richCompare_same_room (op := .NotEq) ta tb F.slot_list_ne (call_meetsIn F.slot_list_ne ta F.entry_list_ne (F.args_list_ne_2 _ _) (S := fun A R s => s.heap.get? l = some { cls := .type "list", dict := dd, data := .seq xs n, slots := sl } ∧
    s.heap.get? b = some { cls := .type "list", dict := dd2, data := .seq ys n2, slots := sl2 } ∧ (∀ j (h1 : j < xs.size) (h2 : j < ys.size), EqP prog w A.in1 s xs[j] ys[j] true) ∧ R (.ok (.ret (.bool false))) s) (fun A R s h => ?_)
    ⟨ho, ho2, he, show Value.bool false ≠ Value.notImplemented ∧ Q (.bool false) s from ⟨(fun x => nomatch x), h⟩⟩) hu
  obtain ⟨hp, g, d, tk, os⟩ := s; obtain ⟨hl, hb, he, h⟩ := h
  have f3 := AutoSeq1.sub_list_list
  have hne : ¬ (xs.size != ys.size) = true := by simp [hs]
  wp_walk using wpAny_loadPart' hl, wpAny_loadPart' hb
  exact ⟨plainId_quiet plain_eq_loop _, codeAny_builtin entry_eq_loop (by
    rw [Around.under_plainId plain_eq_loop _]
    exact ne_go l b xs ys n n2 dd dd2 sl sl2 hs _ 0 rfl A R _ ⟨hl, hb, he, h⟩)⟩
end
end PySem.SeqAt
namespace Dn
open PySem PySem.Spec PyProof.Rows L2
def DatEq (K : PySem.W.Frag) (H : Hp) (x y : V) : Prop := ∃ d e, Dp K H x d ∧ Dp K H y e ∧ SeqAt.shaped d = true ∧ SeqAt.shaped e = true ∧ PyData.eqv d e = true
def DicEq (K : PySem.W.Frag) (H : Hp) (x y : V) : Prop := ∃ a b ks ls, x = .ref a ∧ y = .ref b ∧ H a = some (.dK ks) ∧ H b = some (.dK ls) ∧ ks.length = ls.length ∧ ∀ p ∈ ks, ∃ u, valV ls p.1 = some u ∧ DatEq K H p.2 u
def ItEq (K : PySem.W.Frag) (H : Hp) (x y : V) : Prop := DatEq K H x y ∨ DicEq K H x y
section
variable {X : Cx} {pins : List (Addr × Obj)} {σ : L2.St} {H : Hp} {s : Shared} {A : Around}
theorem dat_run (I : Inv X pins σ H s) (hu : A.units + 64 < cLine) {x y : V} {v u : Value} (h : DatEq X.K H x y) (rx : RelV x v) (ry : RelV y u) : SeqAt.EqP X.prog X.w A s v u true := by
  obtain ⟨d, e, hd, he, sd, se, q⟩ := h
  obtain ⟨as, r1⟩ := Dp.reads I d x v hd rx
  obtain ⟨bs, r2⟩ := Dp.reads I e y u he ry
  have z := SeqAt.eqAt_reads d e A s v u as bs r1 r2 (SeqAt.canLay_of_shaped sd) (SeqAt.canLay_of_shaped se) (SeqAt.room_of_shaped sd hu)
  rw [q] at z
  exact z.eqP
theorem dic_rc (I : Inv X pins σ H s) (hu : A.units + 65 < cLine) {x y : V} {v u : Value} (h : DicEq X.K H x y) (rx : RelV x v) (ry : RelV y u) (E Q : Value → Shared → Prop) (q : Q (.bool true) s) : wpAny (model X.prog X.w) A (richCompare .Eq v u) Q E s := by
  obtain ⟨a, b, ks, ls, rfl, rfl, ha, hb, hl, hp⟩ := h
  cases (show v = Value.ref a from rx)
  cases (show u = Value.ref b from ry)
  obtain ⟨_, ya, va, ra, da⟩ := (show ObjOk X.prog X.w H s.heap a (.dK ks) from I.hok a _ ha)
  obtain ⟨_, yb, vb, rb, db⟩ := (show ObjOk X.prog X.w H s.heap b (.dK ls) from I.hok b _ hb)
  refine PySem.W.rcP_dicts (knd := mixKind X.prog X.w) (r := true) ya yb da db (by omega) (fun _ => hits_run (fun x y v u h => dat_run (A := A.in1) I (by show A.units + 1 + 64 < cLine; omega) h) rb ra hp) E Q ?_
  have e : va.length = vb.length := by rw [← ra.length, ← rb.length]; exact hl
  rw [show (va.length == vb.length && true) = true from by rw [e]; simp]
  exact q
theorem it_run (I : Inv X pins σ H s) (hu : A.units + 65 < cLine) {x y : V} {v u : Value} (h : ItEq X.K H x y) (rx : RelV x v) (ry : RelV y u) : SeqAt.EqP X.prog X.w A s v u true := by
  rcases h with h | h
  · exact dat_run I (by omega) h rx ry
  · have step := dic_rc I hu h rx ry
    obtain ⟨a, b, _, _, rfl, rfl, _⟩ := id h
    cases (show v = Value.ref a from rx)
    cases (show u = Value.ref b from ry)
    by_cases e : a = b
    · subst e; exact (SeqAt.EqAt.same _).eqP
    · exact SeqAt.eqP_refs e step
end
section
variable {X : Cx}
/-- two lists of items that are equal -/
def rLists (K : PySem.W.Frag) (b : Bool) : R2 := fun x y H Q => ∃ a c xs ys, x = .ref a ∧ y = .ref c ∧ SqL K H a xs ∧ SqL K H c ys ∧ Paired (ItEq K H) xs ys ∧ Q (.bl b) H
theorem op_eqLists (hu : X.A.units + 66 < cLine) : OpR X (compareOp .Eq) (rLists X.K true) := by
  intro pins s σ H x y v u Q I rx ry h
  obtain ⟨a, c, xs, ys, rfl, rfl, ha, hc, hp, q⟩ := h
  cases (show v = Value.ref a from rx)
  cases (show u = Value.ref c from ry)
  obtain ⟨us, r1, p1, _⟩ := I.list ha
  obtain ⟨ws, r2, p2, _⟩ := I.list hc
  have sz : us.toArray.size = ws.toArray.size := by rw [List.size_toArray, List.size_toArray, ← r1.length, ← r2.length]; exact Paired.length hp
  show wpAny _ _ (richCompare .Eq (.ref a) (.ref c)) _ _ _
  refine SeqAt.rcP_lists (e := fun _ => true) p1.isList p2.isList sz (by omega) (fun j h1 h2 => ?_) _ _ ?_
  · have k := items_run (P := X.prog) (w := X.w) (A := X.A.in1) (fun x y v u h => it_run (A := X.A.in1) I (by show X.A.units + 1 + 65 < cLine; omega) h) hp r1 r2 j (by simpa using h1) (by simpa using h2)
    simpa using k
  · rw [show ((List.range us.toArray.size).all fun _ => true) = true from List.all_eq_true.mpr fun _ _ => rfl]
    exact ⟨.bl true, H, I, rfl, q⟩
theorem op_neLists (hu : X.A.units + 66 < cLine) : OpR X (compareOp .NotEq) (rLists X.K false) := by
  intro pins s σ H x y v u Q I rx ry h
  obtain ⟨a, c, xs, ys, rfl, rfl, ha, hc, hp, q⟩ := h
  cases (show v = Value.ref a from rx)
  cases (show u = Value.ref c from ry)
  obtain ⟨us, r1, p1, _⟩ := I.list ha
  obtain ⟨ws, r2, p2, _⟩ := I.list hc
  have sz : us.toArray.size = ws.toArray.size := by rw [List.size_toArray, List.size_toArray, ← r1.length, ← r2.length]; exact Paired.length hp
  show wpAny _ _ (richCompare .NotEq (.ref a) (.ref c)) _ _ _
  refine SeqAt.ne_lists p1.isList p2.isList sz (by omega) (fun j h1 h2 => ?_) _ _ ⟨.bl false, H, I, rfl, q⟩
  have k := items_run (P := X.prog) (w := X.w) (A := X.A.in1) (fun x y v u h => it_run (A := X.A.in1) I (by show X.A.units + 1 + 65 < cLine; omega) h) hp r1 r2 j (by simpa using h1) (by simpa using h2)
  simpa using k
end
end Dn

namespace Rd
open PySem PySem.Spec PyProof.Rows L2 Tq Dn Dc Ox
/-- what e gives, locked from then on -/
def tFrz (te : TE) : TE := fun σ H Q => te σ H fun v H1 => ∃ d u, v = .ref d ∧ H1 d = some u ∧ Mut (some u) ∧ ∀ od, Q v (upd H1 d (.frz od u))
theorem pe_frz {X : Cx} {e : Expr} {te : TE} (h : PE X e te) : PE X e (tFrz te) := by
  refine ⟨fun pins s σ H Q I hw => ?_⟩
  refine thn (h.run pins s σ H _ I hw) fun v s1 ⟨x, H1, I1, r, d, u, ex, hd, mu, q⟩ => ?_
  obtain ⟨od, I2⟩ := I1.lock hd mu
  exact ⟨x, _, I2, r, q od⟩
/-- a property of the class at C, with its promise -/
abbrev HasP (P : Program) (w : World) (K : PySem.W.Frag) (mg : Str → Option Value) (base : Heap) (C : Addr) (m : Str) (k : Nat) (sp : Sp) : Prop :=
  ∃ p g fd, PropOf K C m p g ∧ Binds K fd ["self"] [] ∧ FnOk P w K mg base CX0 k g fd ["self"] sp
abbrev HasD (P : Program) (w : World) (K : PySem.W.Frag) (mg : Str → Option Value) (base : Heap) (C : Addr) (m : Str) (k : Nat) (sp : Sp) : Prop :=
  ∃ g, Dun K C m g ∧ FnR P w K mg base CX0 k g sp
theorem pass0A {X : Cx} {E : XK} (σ : L2.St) : PassesAt CX0 X σ E := fun _ _ _ _ _ _ h => h.elim
theorem word_ne_go (l : Ln) : (!decide (V.str l.word = V.str "go")) = [("read" : Str), "look", "if"].contains l.word := by
  cases l with
  | go n => show (!decide (V.str "go" = V.str "go")) = [("read" : Str), "look", "if"].contains "go"; simp; decide +kernel
  | ift t p n => show (!decide (V.str "if" = V.str "go")) = [("read" : Str), "look", "if"].contains "if"; rw [decide_eq_false fun e => ne1 (V.str.inj e)]; decide +kernel
  | look t p => show (!decide (V.str "look" = V.str "go")) = [("read" : Str), "look", "if"].contains "look"; rw [decide_eq_false fun e => ne2 (V.str.inj e)]; decide +kernel
  | read t p => show (!decide (V.str "read" = V.str "go")) = [("read" : Str), "look", "if"].contains "read"; rw [decide_eq_false fun e => ne3 (V.str.inj e)]; decide +kernel
theorem keys_safe {ws : List Str} {ls : List Ln} {ps : List (List Str)} (h : Asc (keysOf ws ls) ps) (z : ∀ l ∈ ls, l.safe) : ∀ p ∈ ps, ∀ x ∈ p, PyData.strOk x = true := fun p hp x hx => by
  obtain ⟨l, hl, rfl⟩ := List.mem_map.mp ((h.mem p).mp hp)
  exact z l (List.mem_filter.mp hl).1 x hx
theorem pDs_shaped {ps : List (List Str)} (h : ∀ p ∈ ps, ∀ x ∈ p, PyData.strOk x = true) : SeqAt.shaped (pDs ps) = true := by
  have h2 := pDs_depth ps
  show (PyData.canLay0 (pDs ps) && decide (PyData.depth (pDs ps) ≤ 64)) = true
  rw [Bool.and_eq_true]
  exact ⟨by simp only [PyData.canLay0]; exact pDs_lay ps h, decide_eq_true (by simp only [PyData.depth]; omega)⟩
theorem dat_same {K : PySem.W.Frag} {H : Hp} {x y : V} {d : PyData} (h1 : Dp K H x d) (h2 : Dp K H y d) (s : SeqAt.shaped d = true) : DatEq K H x y := ⟨d, d, h1, h2, s, s, SeqAt.eqv_refl d (SeqAt.canLay_of_shaped s)⟩
theorem parts_safe {ls : List Ln} {t : Str} (z : ∀ l ∈ ls, l.safe) : ∀ x ∈ partsOf t ls, PyData.strOk x = true := fun x hx => by
  obtain ⟨p, hp, rfl⟩ := List.mem_map.mp hx
  obtain ⟨l, hl, e⟩ := List.mem_filterMap.mp (List.mem_filter.mp hp).1
  cases l with
  | read t' q => cases e; exact z _ hl _ (.tail _ List.mem_cons_self)
  | go n => cases e
  | ift t' q n => cases e
  | look t' q => cases e
theorem pD_shaped {k : List Str} (h : ∀ x ∈ k, PyData.strOk x = true) : SeqAt.shaped (pD k) = true := by
  show (PyData.canLay0 (pD k) && decide (PyData.depth (pD k) ≤ 64)) = true
  rw [Bool.and_eq_true]
  exact ⟨pD_lay h, decide_eq_true (by rw [pD_depth]; decide)⟩
theorem dic_reads {K : PySem.W.Frag} {H : Hp} {a b : Addr} {k1 k2 : List (Key × V)} {ls : List Ln} (z : ∀ l ∈ ls, l.safe) (e1 : H a = some (.dK k1)) (e2 : H b = some (.dK k2)) (r1 : ReadsD H k1 ls) (r2 : ReadsD H k2 ls) : DicEq K H (.ref a) (.ref b) := by
  obtain ⟨es1, rfl, A1, h1⟩ := r1.ex
  obtain ⟨es2, rfl, A2, h2⟩ := r2.ex
  have ee := A1.eq A2
  have nd2 : (es2.map Prod.fst).Nodup := List.nodup_iff_pairwise_ne.mpr (A2.up.imp fun {x y} z e => by subst e; exact absurd z (List.lt_irrefl _))
  have hv : ∀ es : List (Str × Addr), (es.map Prod.fst).Nodup → ∀ e ∈ es, valV (es.map prE) (Sum.inr e.1) = some (.ref e.2) := fun es => by
    induction es with
    | nil => exact fun _ e he => nomatch he
    | cons x es ih =>
      intro nd e he
      obtain ⟨n1, n2⟩ := List.nodup_cons.mp nd
      rcases List.mem_cons.mp he with rfl | he
      · exact valV_pos (p := prE e) rfl
      · rw [List.map_cons, valV_neg]
        · exact ih n2 e he
        · intro c
          exact n1 (by rw [Sum.inr.inj c]; exact List.mem_map_of_mem he)
  refine ⟨a, b, _, _, rfl, rfl, e1, e2, by have := congrArg List.length ee; simpa using this, fun p hp => ?_⟩
  obtain ⟨x, hx, rfl⟩ := List.mem_map.mp hp
  have : x.1 ∈ es2.map Prod.fst := by rw [← ee]; exact List.mem_map_of_mem hx
  obtain ⟨y, hy, hxy⟩ := List.mem_map.mp this
  refine ⟨.ref y.2, by show valV _ (Sum.inr x.1) = _; rw [← hxy]; exact hv es2 nd2 y hy, ?_⟩
  refine dat_same (d := pD (partsOf x.1 ls)) (.tup (SqT.of (h1 x hx)) (strs_dp _)) (.tup (SqT.of (by rw [← hxy]; exact h2 y hy)) (strs_dp _)) (pD_shaped (parts_safe z))
theorem ReadsD.up {H H' : Hp} {kvs : List (Key × V)} {ls : List Ln} (h : ReadsD H kvs ls) (s : Same H H') : ReadsD H' kvs ls :=
  let ⟨es, e, a, b⟩ := h.ex; ⟨es, e, a, fun x hx => s _ _ (b x hx)⟩
theorem list_shaped {ls : List Ln} (z : ∀ l ∈ ls, l.safe) : SeqAt.shaped (.list (ls.map Ln.d)) = true := by
  have h1 := lns_depth ls
  show (PyData.canLay0 (.list (ls.map Ln.d)) && decide (PyData.depth (.list (ls.map Ln.d)) ≤ 64)) = true
  rw [Bool.and_eq_true]
  exact ⟨by simp only [PyData.canLay0]; exact lns_lay ls z, decide_eq_true (by simp only [PyData.depth]; omega)⟩
theorem nil_shaped : SeqAt.shaped (.list []) = true := list_shaped (ls := []) fun _ h => nomatch h
theorem nil_eqv (ls : List Ln) : PyData.eqv (.list (ls.map Ln.d)) (.list []) = ls.isEmpty := by
  cases ls with
  | nil => simp [PyData.eqv, PyData.eqvAll]
  | cons l ls => simp [PyData.eqv, PyData.eqvAll]
theorem plain_empty : ∀ rs : RowsL, ((rs.filter fun r => !isRd r).map Prod.snd).isEmpty = (lnsOf rs).all fun l => decide (l.word = ("read" : Str))
  | [] => rfl
  | r :: rs => by
    have ih := plain_empty rs
    show _ = (decide (r.2.word = ("read" : Str)) && (lnsOf rs).all fun l => decide (l.word = ("read" : Str)))
    rw [← ih]
    by_cases h : r.2.word = "read"
    · rw [List.filter_cons_of_neg (by simp [isRd, h]), decide_eq_true h, Bool.true_and]
    · rw [List.filter_cons_of_pos (by simp [isRd, h]), decide_eq_false h]; rfl
theorem tabs_safe {ls : List Ln} (z : ∀ l ∈ ls, l.safe) : ∀ x ∈ (rps ls).map Prod.fst, PyData.strOk x = true := fun x hx => by
  obtain ⟨p, hp, rfl⟩ := List.mem_map.mp hx
  obtain ⟨l, hl, e⟩ := List.mem_filterMap.mp hp
  cases l with
  | read t' q => cases e; exact z _ hl _ List.mem_cons_self
  | go n => cases e
  | ift t' q n => cases e
  | look t' q => cases e
theorem int_shaped {i : Int} : SeqAt.shaped (.int i) = true := by
  show (PyData.canLay0 (.int i) && decide (PyData.depth (.int i) ≤ 64)) = true
  simp [PyData.canLay0, PyData.depth]
theorem rdText_ok {n m : Nat} (hn : n < 17) (hm : m < 7) : PyData.strOk (rdText n m) = true :=
  (by decide +kernel : ∀ n : Nat, n < 17 → ∀ m : Nat, m < 7 → PyData.strOk (rdText n m) = true) n hn m hm
theorem strs_shaped {k : List Str} (h : ∀ x ∈ k, PyData.strOk x = true) : SeqAt.shaped (.list (k.map PyData.str)) = true := by
  show (PyData.canLay0 (.list (k.map PyData.str)) && decide (PyData.depth (.list (k.map PyData.str)) ≤ 64)) = true
  rw [Bool.and_eq_true]
  exact ⟨by simp only [PyData.canLay0]; exact sD_lay k h, decide_eq_true (by simp only [PyData.depth, sD_depth]; decide)⟩
end Rd

/-! A reader tells all that another one with its lines tells -/
namespace Rd
open PySem PySem.Spec PyProof.Rows L2 Tq Dn Dc Ox
abbrev sIt : Stmt := top 58
structure TxU (K : PySem.W.Frag) (mg : Str → Option Value) (P : Program) (w : World) (base : Heap) (C : Addr) : Prop extends TxR0 K mg P w base C where
  of_ : HasC P w K mg base C "of" 7 (spOf K C)
  lines_ : HasP P w K mg base C "lines" 1 (getSp C "_lines")
  tested_ : HasP P w K mg base C "tested" 1 (getSp C "_tested")
  prs_ : HasP P w K mg base C "pairs" 3 (spPrs K C)
  plain_ : HasP P w K mg base C "is_plain" 1 (spPlain K C)
  reads_ : HasP P w K mg base C "readings" 2 (spReadings K C)
  len_ : HasD P w K mg base C "__len__" 1 (spLen K C)
  str_ : HasD P w K mg base C "__str__" 1 (spStr K C)
  eq_ : HasD P w K mg base C "__eq__" 1 (spEqR K C)
  nf : ∀ t ∈ tys, PySem.W.notFirst K C (.type t) = true
  ii : TxI K C
def spIt (K : PySem.W.Frag) (C : Addr) : Sp := fun vs H Q _ => ∃ (r : Addr) (rs : RowsL), vs = [.ref r] ∧ RdAt K C H r rs ∧ RdOk rs ∧ ∀ H', Same H H' → Q (.bl true) H'
theorem rd_ty {K : PySem.W.Frag} {C r : Addr} {H : Hp} {rs : RowsL} (cl : Cls K C) (ii : TxI K C) (h : RdAt K C H r rs) : TyX K H (.ref r) (.ref C) := by
  obtain ⟨dx, L, TT, ps, e, _⟩ := h
  exact .base (.ins e cl ii.ha ii.hn ii.htk ii.hm)
theorem nf_self {K : PySem.W.Frag} {C : Addr} : PySem.W.notFirst K C (.ref C) = true := by unfold PySem.W.notFirst; simp
theorem bool_same {K : PySem.W.Frag} {H : Hp} {b : Bool} : DatEq K H (.bl b) (.bl b) := dat_same (.bl b) (.bl b) (by
  show (PyData.canLay0 (.bool b) && decide (PyData.depth (.bool b) ≤ 64)) = true
  simp [PyData.canLay0, PyData.depth])
theorem str_same {K : PySem.W.Frag} {H : Hp} {s : Str} (h : PyData.strOk s = true) : DatEq K H (.str s) (.str s) := dat_same (.str s) (.str s) (shaped_str h)
section
variable {P : Program} {w : World} {K : PySem.W.Frag} {mg : Str → Option Value} {base : Heap}
theorem scIt : FnScope ["_law_one", "_law_other", "_law_told"] ["_law_one"] (defScope sIt) := ⟨rfl, rfl, rfl, by decide +kernel, rfl, by decide +kernel, by decide +kernel⟩
theorem ok_it {C f : Addr} {fd : FuncData} (F : Fun K "_law_is_told" "_law_is_told" sIt f fd) (T : TxU K mg P w base C) : FnOk P w K mg base CX0 8 f fd ["_law_one"] (spIt K C) := by
  obtain ⟨mc, p0, g0, cr, cm, G0⟩ := T.of_
  obtain ⟨g1, D1, GE⟩ := T.eq_
  obtain ⟨p1, _, fd1, P1, B1, G1⟩ := T.lines_
  obtain ⟨p2, _, fd2, P2, B2, G2⟩ := T.tested_
  obtain ⟨p3, _, fd3, P3, B3, G3⟩ := T.prs_
  obtain ⟨p4, _, fd4, P4, B4, G4⟩ := T.plain_
  obtain ⟨p5, _, fd5, P5, B5, G5⟩ := T.reads_
  obtain ⟨g6, D6, G6⟩ := T.len_
  obtain ⟨g7, D7, G7⟩ := T.str_
  refine F.ok scIt (fun vs H Q E h => ?_) (fun cdv A outer s H0 vs Q E hr h => ?_)
  · obtain ⟨r, rs, rfl, _⟩ := h; rfl
  · obtain ⟨r, rs, rfl, hR0, ok, k⟩ := h
    have hu66 : (A.deeper (envOfC (Str.ofString "_law_is_told") (defScope sIt) s.heap.objs.size f cdv)).units + 66 < cLine := by have := hr.un; omega
    have r1 := hr.mono (show 1 ≤ 7 by decide)
    have r2 := hr.mono (show 2 ≤ 7 by decide)
    have r3 := hr.mono (show 3 ≤ 7 by decide)
    have r4 := hr.mono (show 4 ≤ 7 by decide)
    refine ⟨_, (pss_cons (ps_set (i := 1) scIt.nd rfl (Or.inl rfl) (ClX.pe_cmeth (pe_glob (v := .ref C) (by rfl) T.mgC rfl) cr cm G0 hr pass0 (pa_cons (pe_prop (pv 0) T.cl P1 G1 r2 B1 .nil pass0 (by rfl)) pa_nil)))
      (pss_cons (ps_set (i := 2) scIt.nd rfl (Or.inl rfl) (pe_lst (pa_cons (pe_prop (pv 0) T.cl P2 G2 r2 B2 .nil pass0 (by rfl)) (pa_cons (pe_prop (pv 0) T.cl P3 G3 r4 B3 .nil pass0 (by rfl)) (pa_cons (pe_prop (pv 0) T.cl P5 G5 r3 B5 .nil pass0 (by rfl)) (pa_cons (pe_prop (pv 0) T.cl P4 G4 r2 B4 .nil pass0 (by rfl)) (pa_cons (pe_callB (call_lenO (E := E0) D6 G6 r2 pass0A) (by rfl) T.len PySem.boot_len (pa_cons (pv 0) pa_nil)) (pa_cons (pe_callTy (call_strO (E := E0) D7 G7 r3 pass0A) (by rfl) T.str PyProof.Rows.boot_str (pa_cons (pv 0) pa_nil)) (pa_cons (pe_cmpR (op_eqO (E := E0) D1 GE r1 pass0A) (pv 0) (pv 1) (nomark _)) pa_nil)))))))))
      (pss_one (ps_ret (pe_cmpR (op_eqLists hu66) (pv 2) (pe_lst (pa_cons (pe_prop (pv 1) T.cl P2 G2 r2 B2 .nil pass0 (by rfl)) (pa_cons (pe_prop (pv 1) T.cl P3 G3 r4 B3 .nil pass0 (by rfl)) (pa_cons (pe_prop (pv 1) T.cl P5 G5 r3 B5 .nil pass0 (by rfl)) (pa_cons (pe_prop (pv 1) T.cl P4 G4 r2 B4 .nil pass0 (by rfl)) (pa_cons (pe_callB (call_lenO (E := E0) D6 G6 r2 pass0A) (by rfl) T.len PySem.boot_len (pa_cons (pv 1) pa_nil)) (pa_cons (pe_callTy (call_strO (E := E0) D7 G7 r3 pass0A) (by rfl) T.str PyProof.Rows.boot_str (pa_cons (pv 1) pa_nil)) (pa_cons pe_bl pa_nil)))))))) (nomark _)))))), ?_⟩
    have safe := lns_safe ok
    obtain ⟨dx0, L0, T0, ps0, eR0, hL0, hA0, hP0⟩ := id hR0
    refine ⟨rfl, _, rfl, r, dx0, _, rfl, eR0, r, dx0, _, _, rfl, eR0, rd_lines L0 T0, L0, rs, rfl, hL0, ok, ?_⟩
    refine fun H1 o q1 no hR1 => ?_
    obtain ⟨dx1, L1, T1, ps1, eR1, hL1, hA1, hP1⟩ := id hR1
    obtain rfl := hA0.eq hA1
    refine ⟨_, rfl, r, dx0, _, rfl, (q1 _ _ eR0), r, dx0, _, _, rfl, (q1 _ _ eR0), rd_tested L0 T0, ?_⟩
    refine ⟨_, rfl, r, dx0, _, rfl, (q1 _ _ eR0), r, rs, rfl, (hR0.up q1), ok, fun H2 pa ppa q2 npa hAa hPa => ?_⟩
    refine ⟨_, rfl, r, dx0, _, rfl, ((q1.trans q2) _ _ eR0), r, rs, rfl, (hR0.up (q1.trans q2)), ok, fun H3 Da kva q3 nDa eDa rda => ?_⟩
    refine ⟨_, rfl, r, dx0, _, rfl, ((q1.trans (q2.trans q3)) _ _ eR0), r, rs, rfl, (hR0.up (q1.trans (q2.trans q3))), ok, fun H4 q4 => ?_⟩
    refine ⟨_, rfl, r, dx0, _, rfl, ((q1.trans (q2.trans (q3.trans q4))) _ _ eR0), r, rs, rfl, (hR0.up (q1.trans (q2.trans (q3.trans q4)))), _, rfl, by omega, by have := ok.few; omega, ?_⟩
    refine ⟨_, rfl, r, dx0, _, rfl, ((q1.trans (q2.trans (q3.trans q4))) _ _ eR0), r, rs, rfl, (hR0.up (q1.trans (q2.trans (q3.trans q4)))), ok, fun psa hSa => ⟨_, rfl, ?_⟩⟩
    obtain rfl := hSa.eq hA0
    refine ⟨_, rfl, _, rfl, r, dx0, _, .ref C, rfl, ((q1.trans (q2.trans (q3.trans q4))) _ _ eR0), rd_ty T.cl T.ii (hR1.up (q2.trans (q3.trans q4))), nf_self, r, rs, _, rfl, (hR0.up (q1.trans (q2.trans (q3.trans q4)))), ok, .inl ⟨o, rs, rfl, (hR1.up (q2.trans (q3.trans q4))), ok, _, rfl, ?_⟩⟩
    rw [decide_eq_true rfl]
    refine ⟨(by show 7 ≤ sizeLine; decide), fun t5 n5 => ?_⟩
    have q5 := same_new (o := HO.lst [V.ref T0, V.ref pa, V.ref Da, V.bl ((lnsOf rs).all fun l => decide (l.word = ("read" : Str))), V.int (rs.length : Int), V.str (rdText rs.length psa.length), V.bl (true != false)]) n5
    have h5 : upd H4 t5 (HO.lst [V.ref T0, V.ref pa, V.ref Da, V.bl ((lnsOf rs).all fun l => decide (l.word = ("read" : Str))), V.int (rs.length : Int), V.str (rdText rs.length psa.length), V.bl (true != false)]) t5 = some (HO.lst [V.ref T0, V.ref pa, V.ref Da, V.bl ((lnsOf rs).all fun l => decide (l.word = ("read" : Str))), V.int (rs.length : Int), V.str (rdText rs.length psa.length), V.bl (true != false)]) := upd_same
    generalize upd H4 t5 (HO.lst [V.ref T0, V.ref pa, V.ref Da, V.bl ((lnsOf rs).all fun l => decide (l.word = ("read" : Str))), V.int (rs.length : Int), V.str (rdText rs.length psa.length), V.bl (true != false)]) = H5 at q5 h5 ⊢
    refine ⟨_, rfl, ?_⟩
    refine ⟨_, rfl, o, dx1, _, rfl, ((q2.trans (q3.trans (q4.trans q5))) _ _ eR1), o, dx1, _, _, rfl, ((q2.trans (q3.trans (q4.trans q5))) _ _ eR1), rd_tested L1 T1, ?_⟩
    refine ⟨_, rfl, o, dx1, _, rfl, ((q2.trans (q3.trans (q4.trans q5))) _ _ eR1), o, rs, rfl, (hR1.up (q2.trans (q3.trans (q4.trans q5)))), ok, fun H6 pb ppb q6 npb hAb hPb => ?_⟩
    refine ⟨_, rfl, o, dx1, _, rfl, ((q2.trans (q3.trans (q4.trans (q5.trans q6)))) _ _ eR1), o, rs, rfl, (hR1.up (q2.trans (q3.trans (q4.trans (q5.trans q6))))), ok, fun H7 Db kvb q7 nDb eDb rdb => ?_⟩
    refine ⟨_, rfl, o, dx1, _, rfl, ((q2.trans (q3.trans (q4.trans (q5.trans (q6.trans q7))))) _ _ eR1), o, rs, rfl, (hR1.up (q2.trans (q3.trans (q4.trans (q5.trans (q6.trans q7)))))), ok, fun H8 q8 => ?_⟩
    refine ⟨_, rfl, o, dx1, _, rfl, ((q2.trans (q3.trans (q4.trans (q5.trans (q6.trans (q7.trans q8)))))) _ _ eR1), o, rs, rfl, (hR1.up (q2.trans (q3.trans (q4.trans (q5.trans (q6.trans (q7.trans q8))))))), _, rfl, by omega, by have := ok.few; omega, ?_⟩
    refine ⟨_, rfl, o, dx1, _, rfl, ((q2.trans (q3.trans (q4.trans (q5.trans (q6.trans (q7.trans q8)))))) _ _ eR1), o, rs, rfl, (hR1.up (q2.trans (q3.trans (q4.trans (q5.trans (q6.trans (q7.trans q8))))))), ok, fun psb hSb => ⟨_, rfl, ?_⟩⟩
    obtain rfl := hSb.eq hA0
    obtain rfl := hAa.eq hAb
    refine ⟨(by show 7 ≤ sizeLine; decide), fun t9 n9 => ?_⟩
    have q9 := same_new (o := HO.lst [V.ref T1, V.ref pb, V.ref Db, V.bl ((lnsOf rs).all fun l => decide (l.word = ("read" : Str))), V.int (rs.length : Int), V.str (rdText rs.length psb.length), V.bl true]) n9
    have h9 : upd H8 t9 (HO.lst [V.ref T1, V.ref pb, V.ref Db, V.bl ((lnsOf rs).all fun l => decide (l.word = ("read" : Str))), V.int (rs.length : Int), V.str (rdText rs.length psb.length), V.bl true]) t9 = some (HO.lst [V.ref T1, V.ref pb, V.ref Db, V.bl ((lnsOf rs).all fun l => decide (l.word = ("read" : Str))), V.int (rs.length : Int), V.str (rdText rs.length psb.length), V.bl true]) := upd_same
    generalize upd H8 t9 (HO.lst [V.ref T1, V.ref pb, V.ref Db, V.bl ((lnsOf rs).all fun l => decide (l.word = ("read" : Str))), V.int (rs.length : Int), V.str (rdText rs.length psb.length), V.bl true]) = H9 at q9 h9 ⊢
    have i1 : DatEq K H9 (.ref T0) (.ref T1) := dat_same (hP0.up (q1.trans (q2.trans (q3.trans (q4.trans (q5.trans (q6.trans (q7.trans (q8.trans q9))))))))).dp (hP1.up (q2.trans (q3.trans (q4.trans (q5.trans (q6.trans (q7.trans (q8.trans q9)))))))).dp (pDs_shaped (keys_safe hA0 safe))
    have i2 : DatEq K H9 (.ref pa) (.ref pb) := dat_same (hPa.up (q3.trans (q4.trans (q5.trans (q6.trans (q7.trans (q8.trans q9))))))).dp (hPb.up (q7.trans (q8.trans q9))).dp (pDs_shaped (keys_safe hAa safe))
    have i3 : DicEq K H9 (.ref Da) (.ref Db) := dic_reads safe ((q4.trans (q5.trans (q6.trans (q7.trans (q8.trans q9))))) _ _ eDa) ((q8.trans q9) _ _ eDb) (rda.up (q4.trans (q5.trans (q6.trans (q7.trans (q8.trans q9)))))) (rdb.up (q8.trans q9))
    have hsix := ok.six _ hA0
    refine ⟨t5, t9, _, _, rfl, rfl, SqL.of ((q6.trans (q7.trans (q8.trans q9))) _ _ h5), SqL.of h9, .cons (.inl i1) (.cons (.inl i2) (.cons (.inr i3) (.cons (.inl bool_same) (.cons (.inl (dat_same (.int _) (.int _) int_shaped)) (.cons (.inl (str_same (rdText_ok (by have := ok.few; omega) (by omega)))) (.cons (.inl (bool_same (b := true))) .nil)))))), k _ (q1.trans (q2.trans (q3.trans (q4.trans (q5.trans (q6.trans (q7.trans (q8.trans q9))))))))⟩
end
end Rd

/-! A lambda whose body may raise an error with fields, handed to a def -/
namespace Rl
open PySem PySem.Spec PyProof.Rows L2 LamX
/-- the context of the lambda's body -/
def bodyCx (X : Cx) (A : Around) (outer : List Env) (s : Shared) (H : Hp) (E : XK) (scope : Scope) (f c : Addr) : Cx := (lamCx X A outer s H E scope f c).wish fun e s' =>
  wpAny (model X.prog X.w) (A.deeper (lamEnv X scope s.heap.objs.size f c)) (leaving (lamEnv X scope s.heap.objs.size f c) e) (fun _ t => L2N.CX X.prog X.w outer H s E e t) (fun e' t => L2N.CX X.prog X.w outer H s E e' t) s'
abbrev inX (X : Cx) (Ng : List Str) (x : Str) (sg : Scope) (g : Addr) (cdg : Value) (s : Shared) (H : Hp) : Cx := cxOf CX0 X.prog X.w X.K X.mg X.base Ng x sg g cdg X.A X.stack s H E0
section
variable {X : Cx} {pins : List (Addr × Obj)} {σ : L2.St} {H : Hp} {s : Shared}
theorem act {Ng : List Str} {x a : Str} {sg scope : Scope} {g f c : Addr} {cdg pm ctv : Value} {params : Arguments} {body : Expr} {k i : Nat} {pn : List (Addr × Obj)} {xe : Value → Shared → Prop} {W : WX} {E : XK} {tb : TE} {p1 p2 : Pos} {σ0 : L2.St} (h0 : σ0[i]? = some (some (.ref f)))
    (I : Inv X pins σ H s) (L : LamS X.env.scope scope) (hf : s.heap.get? f = some (PySem.W.kla_obj "<lambda>" (X.env.qual ++ "<lambda>") params body scope (cloFrom X.env.cells scope.names []) pm c ctv)) (hfn : H f = none) (hfr : f ∉ frs X.stack)
    (hbind : bindArgs (PySem.W.kla_fn "<lambda>" (X.env.qual ++ "<lambda>") params body scope (cloFrom X.env.cells scope.names []) pm (.ref c) ctv) ⟨[], []⟩ = pure [])
    (tk : L2N.Takes ((inX X Ng x sg g cdg s H).tr pn xe) W) (hW : ∀ cls d H', E cls d H' → W cls d σ0 H') (hr : Room (k + 1) (X.A.deeper (envOfC x sg s.heap.objs.size g cdg)))
    (hbody : ∀ (A : Around) (outer : List Env) (s : Shared) (H : Hp), Room k (A.deeper (lamEnv X scope s.heap.objs.size f c)) → PE (bodyCx X A outer s H E scope f c) body tb) (hN : Ng[i]? = some a) (hv : Vis sg a)
    (hd : (a == ("__debug__" : Str)) = false := by decide) (hcd : (a == ("__classdict__" : Str)) = false := by decide) :
    PE ((inX X Ng x sg g cdg s H).tr pn xe) (.Call (.Name a p1) [] [] p2) (fun σZ HZ Q => σZ = σ0 ∧ HZ c = some (CodeO c (X.env.qual ++ "<lambda>")) ∧ tb σ HZ Q) := by
  refine ⟨fun pz z σz Hz Q Iz ⟨w1, w2, w3⟩ => ?_⟩
  subst w1
  refine wpAny_Call_Name_kw (thn ((pe_var (pos := p1) (i := i) hN hv hd hcd).run pz z σz Hz (fun v J => v = .ref f ∧ J = Hz) Iz ⟨.ref f, h0, rfl, rfl⟩) fun u y hu => ?_)
  obtain ⟨v, J, Iy, rv, rfl, rfl⟩ := hu
  obtain rfl : u = Value.ref f := rv
  have of := Iy.base.keep f _ hf hfn hfr (fun q => nomatch (show f ∈ ([] : List Addr) from q))
  refine PySem.W.callWith_F0 ⟨_, _, _, _, of⟩ ?_
  obtain ⟨⟨oc, vs, t, hoc, hdc, hvc⟩, _, _⟩ := Iy.hok c _ w2
  have run : codeAny (model X.prog X.w) (X.A.deeper (envOfC x sg s.heap.objs.size g cdg)) (.call (.ref f) ⟨[], []⟩) (CR (L2N.CX X.prog X.w) (envOfC x sg s.heap.objs.size g cdg :: X.stack) X.prog X.w J y Q E) y := by
    refine PySem.W.kla_callFunE hr.depth of rfl L.co L.gen rfl ⟨c, oc, vs, t, rfl, hoc, hdc, hvc⟩ ?_
    rw [hbind]
    refine wpAny_pure (wpAny_newFunctionEnv (fun b hb => (L.own b hb).2) (fun b hb => absurd hb (by simp)) (fun h₁ hns hsb => ⟨Iy.nolimit.fresh _ hsb, ?_⟩) L.kind)
    show codeAny _ _ (.expr body (lamEnv X scope y.heap.objs.size f c)) _ _
    have I0 : Inv (lamCx X (X.A.deeper (envOfC x sg s.heap.objs.size g cdg)) (envOfC x sg s.heap.objs.size g cdg :: X.stack) y J E scope f c) [] σ J { y with heap := h₁, toks := y.toks + ([] : List (Str × Value)).length } :=
      lam_start2 I L Iy.env0 hr.hd Iy.base hns fun b o e => hsb.extBut b o (Nat.ne_of_lt (Heap.lt_size e)) (Heap.get?_push_of_some _ e)
    refine PySem.W.kla_codeExpr (wpAny_mono ((hbody _ _ y J (hr.deeper _)).run [] _ _ J Q (I0.wish _) w3) (fun v s' hq => ?_) fun e s' hq => hq)
    obtain ⟨w', H', J', r', q⟩ := hq
    exact ⟨w', H', J'.os, J'.bare, J'.base, J'.hok, r', q⟩
  refine wpAny_call (codeAny_mono run fun r s' hq => ?_)
  cases r with
  | error e => exact tk e s' (L2N.XE.of_call Iy (fun cls d H' h => hW cls d H' h) hq)
  | ok fl =>
    cases fl with
    | ret u => exact Iy.after hq
    | next => exact False.elim hq
    | brk => exact False.elim hq
    | cont => exact False.elim hq
/-- what the def that got the lambda makes of it -/
def GivesN (X : Cx) (k : Nat) (Ng : List Str) (x : Str) (sg : Scope) (g : Addr) (cdg : Value) (bg : List Stmt) (a q : Str) (TT : (XK → Hp → VK → Prop) → Hp → VK → Prop) : Prop :=
  ∀ (f c : Addr) (s : Shared) (H : Hp) (Q : VK) (tl : XK → Hp → VK → Prop), Room k (X.A.deeper (envOfC x sg s.heap.objs.size g cdg)) →
    (∀ (W : WX) (pn : List (Addr × Obj)) (xe : Value → Shared → Prop) (E : XK) (p1 p2 : Pos), L2N.Takes ((inX X Ng x sg g cdg s H).tr pn xe) W → (∀ cls d H', E cls d H' → W cls d (L2.start Ng [.ref f]) H') →
      PE ((inX X Ng x sg g cdg s H).tr pn xe) (.Call (.Name a p1) [] [] p2) (fun σZ HZ Q => σZ = L2.start Ng [.ref f] ∧ HZ c = some (CodeO c q) ∧ tl E HZ Q)) →
    H c = some (CodeO c q) → TT tl H Q → ∃ t, PSs (inX X Ng x sg g cdg s H).nox bg t ∧ t { nx := fun _ H' => Q .non H', rt := Q } (L2.start Ng [.ref f]) H
theorem pe_lamN {T : List (Addr × Str)} {TT : (XK → Hp → VK → Prop) → Hp → VK → Prop} {x a : Str} {g c P : Addr} {k : Nat} {pg : Arguments} {bg : List Stmt} {sg scope : Scope} {dV kV doc pm cdv ct oc : Value} {an od : Option Addr} {osl : Array (Option Value)} {Ng : List Str}
    {params : Arguments} {body : Expr} {t : XK → TE} {p lpos pos : Pos} (hg : Gl X x) (hm : X.mg x = some (.ref g)) (hk : PySem.W.keepIn X.K (.ref g) = true)
    (lk : X.K.lookup g = some ⟨oc, od, .func (PySem.W.fnOf x x pg bg sg dV kV doc pm an cdv ct), osl⟩) (hcg : PySem.W.codeIn X.K cdv x = true) (hb : L2.Binds X.K (PySem.W.fnOf x x pg bg sg dV kV doc pm an cdv ct) [a] []) (Sg : FnScope Ng [a] sg) (hNg : Ng[0]? = some a) (h0 : ∀ f : Addr, (L2.start Ng [V.ref f])[0]? = some (some (V.ref f))) (hva : Vis sg a)
    (hG : GivesN X (k + 1) Ng x sg g cdv bg a (X.env.qual ++ "<lambda>") TT) (TB : TabB X.base X.mg c P) (hcode : X.env.code = .ref c) (hmT : (P, X.env.qual ++ "<lambda>") ∈ T) (hu : ∀ p ∈ T, p.1 = P → p.2 = X.env.qual ++ "<lambda>") (hr : Room (k + 2) X.A) (L : LamS X.env.scope scope)
    (hdef : defaultsOf params X.env = ([], [])) (hbind : ∀ (q : Str) (cl : List (Str × Addr)) (pm cv ctv : Value), bindArgs (PySem.W.kla_fn "<lambda>" q params body scope cl pm cv ctv) ⟨[], []⟩ = pure [])
    (hbody : ∀ (A : Around) (outer : List Env) (s : Shared) (H : Hp) (E : XK) (f c' : Addr), Room k (A.deeper (lamEnv X scope s.heap.objs.size f c')) → PE (bodyCx X A outer s H E scope f c') body (t E))
    (hdb : (x == ("__debug__" : Str)) = false := by decide) (hd : (a == ("__debug__" : Str)) = false := by decide) (hcd : (a == ("__classdict__" : Str)) = false := by decide) :
    PE X (.Call (.Name x p) [.Lambda params body scope lpos] [] pos) (tLam T TT t) := by
  refine ⟨fun pz z σz Hz Q Iz ⟨hT, h⟩ => ?_⟩
  refine wpAny_Call_Name_kw (ld_glob Iz hg hm (PySem.W.callWith_K (h₀ := X.base) Iz.ok.mod.kin hk ?_ (by rfl) (by rfl)) hdb)
  show wpAny _ _ (spliced ((false, eval (.Lambda params body scope lpos) X.env) :: backTo pos (starEach [] X.env))) _ _ z
  refine Calls.spliced_cons (lam_make2 Iz TB hcode hmT hu hT hdef (L.has Iz.ok) fun f c' pm' ctv H1 y I1 eN T1 hf hfn hfr hco => Calls.spliced_nil ⟨I1.kIn, ?_⟩)
  have run : codeAny (model X.prog X.w) X.A (.call (.ref g) ⟨[.ref f], []⟩) (CR CX0 X.stack X.prog X.w H1 y Q E0) y := by
    refine run_ofS (N := Ng) (ps := [a]) (us := [.ref f]) (vs := [.ref f]) lk hcg Sg hr I1.env0 (hb y [.ref f] I1.kIn rfl) (.cons rfl .nil) rfl fun hr' => ?_
    obtain ⟨t', ht', hq'⟩ := hG f c' y H1 Q (fun E H' Q' => t E σz H' Q') hr' (fun W pn xe E p1 p2 tk hW => act (i := 0) (h0 f) I1 L hf hfn hfr (hbind _ _ _ _ _) tk hW hr' (fun A outer s H hr2 => hbody A outer s H E f c' hr2) hNg hva hd hcd) hco (h H1 eN T1)
    exact ⟨t', ht'.nox, hq'⟩
  refine wpAny_call (codeAny_mono run fun r y2 hq => ?_)
  cases r with
  | error e => exact (show False from hq).elim
  | ok fl =>
    cases fl with
    | ret u => exact I1.after hq
    | next => exact False.elim hq
    | brk => exact False.elim hq
    | cont => exact False.elim hq
end
end Rl

namespace Om
open PySem PySem.Spec PyProof.Rows L2 Ox
/-- what several clauses, with the name of the slot i or none, wish of an exception -/
def wAll (K : PySem.W.Frag) (i : Nat) (Wout : WX) (D : Ends) : List (Value × Bool × (Addr → Value → Option Addr → TS)) → WX
  | [] => Wout
  | (c, nm, ts) :: r => fun cls d σ H => ∃ b, PySem.W.exmOne K cls c = some b ∧ (b = true → ∀ a, H a = none → if nm = true then ts a cls d (gone i D) (σ.set i (some (.ref a))) H else ts a cls d D σ H) ∧ (b = false → wAll K i Wout D r cls d σ H)
inductive Clauses (X : Cx) (n : Str) : List ExceptHandler → List (Value × Bool × (Addr → Value → Option Addr → TS)) → Prop
  | nil : Clauses X n [] []
  | cons {x : Str} {c : Value} {ts : Addr → Value → Option Addr → TS} {b₀ : Stmt} {su : List Stmt} {np pos' : Pos} {hds : List ExceptHandler} {l : List (Value × Bool × (Addr → Value → Option Addr → TS))} (hc : Names X x c)
      (hsu : ∀ (a : Addr) (oe : Obj) (cls : Value) (d : Option Addr) (pn : List (Addr × Obj)), L2N.Zn cls d oe → (∃ vs, oe.data = .fields vs) → PSs (X.suite a ((a, oe) :: pn)) (b₀ :: su) (ts a cls d)) (r : Clauses X n hds l) : Clauses X n (.ExceptHandler (some (.Name x np)) (some n) (b₀ :: su) pos' :: hds) ((c, true, ts) :: l)
  | bare {x : Str} {c : Value} {ts : Addr → Value → Option Addr → TS} {b₀ : Stmt} {su : List Stmt} {np pos' : Pos} {hds : List ExceptHandler} {l : List (Value × Bool × (Addr → Value → Option Addr → TS))} (hc : Names X x c)
      (hsu : ∀ (a : Addr) (oe : Obj) (cls : Value) (d : Option Addr) (pn : List (Addr × Obj)), L2N.Zn cls d oe → (∃ vs, oe.data = .fields vs) → PSs (X.suite a ((a, oe) :: pn)) (b₀ :: su) (ts a cls d)) (r : Clauses X n hds l) : Clauses X n (.ExceptHandler (some (.Name x np)) none (b₀ :: su) pos' :: hds) ((c, false, ts) :: l)
section
variable {X : Cx} {n : Str} {i : Nat} {body : List Stmt} {h₀ : ExceptHandler} {hds : List ExceptHandler} {l : List (Value × Bool × (Addr → Value → Option Addr → TS))} {pos : Pos} {tb : WX → TS} {Wout : WX}
theorem ps_try_mix (hs : X.stack = X.env :: X.outer) (hf : X.env.frame = some X.env.locals) (hN : X.N.Nodup) (hi : X.N[i]? = some n) (hln : X.env.kindOf n = some .local) (tk : L2N.Takes X Wout)
    (hb : ∀ (W : WX) (pn : List (Addr × Obj)) (xe : Value → Shared → Prop), L2N.Takes (X.tr pn xe) W → PassesOwn (model X.prog X.w) X.A X.env xe → PSs (X.tr pn xe) body (tb W))
    (hh : Clauses X n (h₀ :: hds) l) : PS X (.Try body (h₀ :: hds) [] [] pos) (fun D σ H => tb (wAll X.K i Wout D l) D σ H) := by
  refine ⟨fun pins s σ H D I h => ?_⟩; have ok := I.ok; have hfr : X.A.frames = some (X.env :: X.outer) := by (rw [ok.frames, hs])
  have hloc : Loc X.env.scope n := .inl hln; refine wpAny_Try_except ?_
  refine wpAny_mono ((hb (wAll X.K i Wout D l) (X.pn ++ pins) (fun e s₁ => wpAny (model X.prog X.w) X.A (noteFrame e X.env) (fun _ s₂ => wpAny (model X.prog X.w) X.A (setFlight e none) (fun _ s₃ => wpAny (model X.prog X.w) X.A (handleBy e X.env (h₀ :: hds)) (SP X pins D) X.xe s₃) X.xe s₂) X.xe s₁)
    (fun u s' xx => ?_) PassesOwn.looking).run [] s σ H D (I.toTry _) h) (fun fl s1 hsp => ?_) (fun e s1 he => he)
  · obtain ⟨a, B, sI, pins', σ', H', cls, d, rfl, J', nb, up, sky, na, os, ag, w⟩ := xx; have J : Inv X pins σ' H' sI := J'.ofTry ok
    have sky' : Sky B (X.env :: X.outer) a (L2N.Zn cls d) X.env.locals s'.heap := by (rw [← hs]; exact sky)
    show wpAny (model X.prog X.w) X.A (noteFrame (.ref a) X.env) _ _ _; refine L2N.Sky.land L2N.Zn.steady hfr hf sky' fun h3 fl3 up3 => ?_
    have J3 : Inv X pins σ' H' { s' with heap := h3 } := J.landed nb fl3.1 (up.trans up3) os ag; obtain ⟨oe3, vs3, he3, hz3, hd3⟩ := fl3.there
    have nfr : a ∉ frs (X.env :: X.outer) := fun hm => by
      obtain ⟨_, o', e', hnf⟩ := fl3.2.2.1.mem hm
      rw [he3] at e'; cases e'; exact hnf _ hd3
    have nL : a ≠ X.env.locals := fun z => nfr (List.mem_filterMap.mpr ⟨X.env, List.mem_cons_self, by (rw [hf, z])⟩)
    have nF : a ∉ X.fs := fun hm => by
      obtain ⟨e, he, q⟩ := List.mem_filterMap.mp hm
      exact nfr (List.mem_filterMap.mpr ⟨e, List.mem_cons_of_mem _ he, q⟩)
    have S3 := J3.suite he3 hd3 na nL nF
    have LT : PySem.W.Looks (model X.prog X.w) h3 (typeOf (.ref a)) cls := fun A Q E s k q => wpAny_typeOf_ref (k _ _ he3) (by (rw [hz3.1]; exact q))
    have go : ∀ {hds' : List ExceptHandler} {l' : List (Value × Bool × (Addr → Value → Option Addr → TS))}, Clauses X n hds' l' → wAll X.K i Wout D l' cls d σ' H' → wpAny (model X.prog X.w) X.A (handleBy (.ref a) X.env hds') (SP X pins D) X.xe { s' with heap := h3 } := by
      intro hds' l' hk
      induction hk with
      | nil =>
        intro w; refine wpAny_handleBy_nil ?_; obtain ⟨k1, k2, k3, oe, vs, T, oT, ts', he, hz, hd, h1, hr⟩ := id fl3; unfold PySem.passOn
        refine wpAny_bind (wpAny_field he hd h1 ?_); rw [if_neg (show ¬ ((Value.ref T == Value.none) = true) from by simp)]
        have fin : wpAny (model X.prog X.w) X.A (setFlight (.ref a) X.env.frame) (fun _ s4 => wpAny (model X.prog X.w) X.A (throw (.ref a) : Sem Flow) (SP X pins D) X.xe s4) X.xe { s' with heap := h3 } := by
          rw [hf]; refine PySem.HandSPX.setFlight_upZ fl3 fun h4 hh4 up4 => wpAny_throw (tk _ _ ?_)
          exact ⟨a, B, sI, pins, σ', H', cls, d, rfl, J, nb, (up.trans up3).trans up4, .inr (.inr (by (rw [hs]; exact hh4))), na, os, ag, w⟩
        first | exact wpAny_bind (wpAny_pure (wpAny_bind fin)) | exact wpAny_bind fin
      | @cons x c ts b₀ su np pos' hds2 l2 hc hsu r ih =>
        intro w; obtain ⟨b, hb1, hyes, hno⟩ := w; refine wpAny_handleBy_cons (codeAny_handlers_test ?_) (by intro q; cases q)
        have LM := PySem.W.exm_one (M := model X.prog X.w) (J3.kIn) LT hb1
        have test : ∀ {Q : Value → Shared → Prop} {E : Value → Shared → Prop}, Q c { s' with heap := h3 } → wpAny (model X.prog X.w) (X.A.mark (some (.ref a))) (eval (.Name x np) X.env) Q E { s' with heap := h3 } := fun {Q E} q => by
          obtain ⟨hg, hdbg, hm | ⟨hm, hv, hnn⟩⟩ := hc
          · exact ld_glob (X := X.suite a ((a, oe3) :: (X.pn ++ pins))) S3 hg hm q hdbg
          · exact ld_blt (X := X.suite a ((a, oe3) :: (X.pn ++ pins))) S3 hg hm hv q hnn hdbg
        refine test (LM.here ?_)
        cases b with
        | false => show wpAny _ X.A (handleBy (.ref a) X.env hds2) _ _ _; exact ih (hno rfl)
        | true =>
          refine codeAny_handlers_suite_as ?_; refine PySem.HandSPX.lands_againZ fl3 fun h4 fl4 up4 => ?_
          have J4 : Inv X pins σ' H' { s' with heap := h4 } := J.landed nb fl4.1 ((up.trans up3).trans up4) os ag; obtain ⟨oe4, vs4, he4, hz4, hd4⟩ := fl4.there
          have S4 := J4.suite he4 hd4 na nL nF; refine store_ok (X := X.suite a ((a, oe4) :: (X.pn ++ pins))) (v := .ref a) S4 hN hi hloc rfl (fun s5 S5 => ?_) (.inr hln)
          refine wpAny_mono ((hsu a oe4 cls d (X.pn ++ pins) hz4 ⟨_, hd4⟩).run [] s5 _ H' _ S5 (hyes rfl a na)) (fun fl s6 hsp => ?_) (fun _ _ z => False.elim z)
          have end_ : ∀ {σ6 : L2.St} {H6 : Hp} {Q : Shared → Prop}, Inv (X.suite a ((a, oe4) :: (X.pn ++ pins))) [] σ6 H6 s6 → (∀ s7, Inv X pins (σ6.set i none) H6 s7 → Q s7) →
              wpAny (model X.prog X.w) X.A (do bindName X.env n .none; unbindBehindTheSuite X.env n pos') (fun _ s7 => Q s7) X.xe s6 := fun {σ6 H6 Q} S6 hq => gone_ok (S6.unsuite ok) hN hi hln hq
          cases fl with
          | next => obtain ⟨σ6, H6, S6, q6⟩ := hsp; exact end_ S6 fun s7 J7 => ⟨_, _, J7, q6⟩
          | brk => obtain ⟨σ6, H6, S6, q6⟩ := hsp; exact end_ S6 fun s7 J7 => ⟨_, _, J7, q6⟩
          | cont => obtain ⟨σ6, H6, S6, q6⟩ := hsp; exact end_ S6 fun s7 J7 => ⟨_, _, J7, q6⟩
          | ret u => obtain ⟨v6, σ6, H6, S6, r6, q6⟩ := hsp; exact end_ S6 fun s7 J7 => ⟨_, _, _, J7, r6, q6⟩
      | @bare x c ts b₀ su np pos' hds2 l2 hc hsu r ih =>
        intro w; obtain ⟨b, hb1, hyes, hno⟩ := w; refine wpAny_handleBy_cons (codeAny_handlers_test ?_) (by intro q; cases q)
        have LM := PySem.W.exm_one (M := model X.prog X.w) (J3.kIn) LT hb1
        have test : ∀ {Q : Value → Shared → Prop} {E : Value → Shared → Prop}, Q c { s' with heap := h3 } → wpAny (model X.prog X.w) (X.A.mark (some (.ref a))) (eval (.Name x np) X.env) Q E { s' with heap := h3 } := fun {Q E} q => by
          obtain ⟨hg, hdbg, hm | ⟨hm, hv, hnn⟩⟩ := hc
          · exact ld_glob (X := X.suite a ((a, oe3) :: (X.pn ++ pins))) S3 hg hm q hdbg
          · exact ld_blt (X := X.suite a ((a, oe3) :: (X.pn ++ pins))) S3 hg hm hv q hnn hdbg
        refine test (LM.here ?_)
        cases b with
        | false => show wpAny _ X.A (handleBy (.ref a) X.env hds2) _ _ _; exact ih (hno rfl)
        | true =>
          refine codeAny_handlers_suite ?_
          refine PySem.HandSPX.lands_againZ fl3 fun h4 fl4 up4 => ?_
          have J4 : Inv X pins σ' H' { s' with heap := h4 } := J.landed nb fl4.1 ((up.trans up3).trans up4) os ag; obtain ⟨oe4, vs4, he4, hz4, hd4⟩ := fl4.there
          have S4 := J4.suite he4 hd4 na nL nF
          refine wpAny_mono ((hsu a oe4 cls d (X.pn ++ pins) hz4 ⟨_, hd4⟩).run [] _ σ' H' _ S4 (hyes rfl a na)) (fun fl s6 hsp => ?_) (fun _ _ z => False.elim z)
          cases fl with
          | next => obtain ⟨σ6, H6, S6, q6⟩ := hsp; exact ⟨_, _, S6.unsuite ok, q6⟩
          | brk => obtain ⟨σ6, H6, S6, q6⟩ := hsp; exact ⟨_, _, S6.unsuite ok, q6⟩
          | cont => obtain ⟨σ6, H6, S6, q6⟩ := hsp; exact ⟨_, _, S6.unsuite ok, q6⟩
          | ret u => obtain ⟨v6, σ6, H6, S6, r6, q6⟩ := hsp; exact ⟨_, _, _, S6.unsuite ok, r6, q6⟩
    exact go hh w
  · cases fl with
    | next => obtain ⟨σ', H', J', q⟩ := hsp; exact wpAny_execs_nil ⟨σ', H', J'.ofTry ok, q⟩
    | brk => obtain ⟨σ', H', J', q⟩ := hsp; exact ⟨σ', H', J'.ofTry ok, q⟩
    | cont => obtain ⟨σ', H', J', q⟩ := hsp; exact ⟨σ', H', J'.ofTry ok, q⟩
    | ret u => obtain ⟨v, σ', H', J', r, q⟩ := hsp; exact ⟨v, σ', H', J'.ofTry ok, r, q⟩
end
end Om

/-! What a call returns, or the word of its error -/
namespace Rd
open PySem PySem.Spec PyProof.Rows L2 Tq Dn Dc Ox LamX
abbrev sMet : Stmt := top 56
theorem takesN0 {X : Cx} : L2N.Takes X (fun _ _ _ _ => False) := fun _ _ x => by
  obtain ⟨_, _, _, _, _, _, _, _, _, _, _, _, _, _, _, _, z⟩ := x; exact z.elim
theorem xfcN {K : PySem.W.Frag} {CN J : Addr} {f qual : Str} {B newId : String} {bm : List Value} (T : PySem.Mk0.OTxt K CN J f qual B newId bm) : XfC K CN := ⟨T.ga, T.gg, T.exC, T.hdC⟩
def metE (CN CR : Addr) (Q : VK) : XK := fun cls dd H' =>
  (cls = .ref CN ∧ ∃ d v t, dd = some d ∧ H' d = some (.xd [("value", v)]) ∧ Shows H' v t ∧ ∀ H'' l, Same H' H'' → H' l = none → H'' l = some (.lst [.str "number", .str t]) → Q (.ref l) H'') ∨
  (cls = .ref CR ∧ ∀ H'' l, Same H' H'' → H' l = none → H'' l = some (.lst [.str "reader"]) → Q (.ref l) H'')
def TTmet (CN CR : Addr) : (XK → Hp → VK → Prop) → Hp → VK → Prop := fun tl H Q => tl (metE CN CR Q) H Q
/-- what catching the two errors asks -/
structure TxY (K : PySem.W.Frag) (mg : Str → Option Value) (base : Heap) (CN CR : Addr) : Prop where
  gN : mg "InvalidNumber" = some (.ref CN)
  gR : mg "InvalidReader" = some (.ref CR)
  oN : ∃ J, PySem.Mk0.OTxt K CN J "value" "InvalidNumber.__init__" "IndexError" "IndexError.__new__" PySem.Mk0.bIx
  eNN : PySem.W.exmOne K (.ref CN) (.ref CN) = some true
  eRN : PySem.W.exmOne K (.ref CR) (.ref CN) = some false
  eRR : PySem.W.exmOne K (.ref CR) (.ref CR) = some true
  repr : mg "repr" = none
  sysm : ∃ o, base.get? sysModules = some o
theorem scMet : FnScope ["_law_call", "e"] ["_law_call"] (defScope sMet) := ⟨rfl, rfl, rfl, by decide +kernel, rfl, by decide +kernel, by decide +kernel⟩
def tSuM (CN : Addr) : Addr → Value → Option Addr → TS := fun a cls d => tRet (tLst (tCons (tC (.str "number")) (tCons (tCB rShow (tCons (tXf a cls d CN "value" (tVar 1)) tNil)) tNil)))
def tSuR : Addr → Value → Option Addr → TS := fun _ _ _ => tRet (tLst (tCons (tC (.str "reader")) tNil))
theorem met_gives {X : Cx} {k : Nat} {g CN CR : Addr} {cdv : Value} {q : Str} (hgd : X.A.guards = some []) (T : TxY X.K X.mg X.base CN CR) : Rl.GivesN X k ["_law_call", "e"] "_law_met" (defScope sMet) g cdv (defBody sMet) "_law_call" q (TTmet CN CR) := by
  obtain ⟨J, oN⟩ := T.oN
  intro f c s H Q tl hr act hc h
  have hu := hr.units
  have hsm := T.sysm
  refine ⟨_, pss_one (Om.ps_try_mix (X := (Rl.inX X ["_law_call", "e"] "_law_met" (defScope sMet) g cdv s H).nox) (i := 1) (n := "e") (l := [(.ref CN, true, tSuM CN), (.ref CR, false, tSuR)])
      (tb := fun W D σ H1 => ∃ Ech : XK, (∀ cls d H', Ech cls d H' → W cls d (L2.start ["_law_call", "e"] [.ref f]) H') ∧ σ = L2.start ["_law_call", "e"] [.ref f] ∧ H1 c = some (CodeO c q) ∧ tl Ech H1 D.rt)
      (Wout := fun _ _ _ _ => False) rfl rfl scMet.nd rfl rfl takesN0 (fun W pn xe tk _ => ?_)
      (.cons ⟨rfl, by decide, .inl T.gN⟩ (fun a oe cls d pn hz hf => pss_one (ps_ret (by exact (pe_lst (pa_cons pe_str (pa_cons (pe_callB (call_show hgd hu hsm) (by rfl) T.repr PyProof.Rows.boot_repr (by exact (pa_cons (pe_xf (xfcN oN) oN.noN hz.zc hf (pv 1)) pa_nil))) pa_nil))))))
        (.bare ⟨rfl, by decide, .inl T.gR⟩ (fun a oe cls d pn hz hf => pss_one (ps_ret (pe_lst (pa_cons pe_str pa_nil)))) .nil))), ?_⟩
  · refine ⟨fun pins s' σ H' D I ⟨Ech, hW, h1, h2, h3⟩ => ?_⟩
    exact (pss_one (ps_ret (act W pn xe Ech _ _ tk hW))).run pins s' σ H' D I ⟨h1, h2, h3⟩
  · refine ⟨metE CN CR Q, fun cls d H' hm => ?_, rfl, hc, h⟩
    rcases hm with ⟨rfl, dd, v, t, rfl, hd, hs, k⟩ | ⟨rfl, k⟩
    · refine ⟨true, T.eNN, fun _ a ha => ?_, fun z => nomatch z⟩
      rw [if_pos rfl]
      refine ⟨_, rfl, rfl, rfl, dd, _, v, rfl, hd, (by simp [List.lookup]), v, t, rfl, hs, (by show 2 ≤ sizeLine; decide), fun l nl => ?_⟩
      exact k _ l (same_new nl) nl upd_same
    · refine ⟨false, T.eRN, (fun z => nomatch z), fun _ => ⟨true, T.eRR, (fun _ a ha => ?_), (fun z => nomatch z)⟩⟩
      rw [if_neg (by decide)]
      exact ⟨(by show 1 ≤ sizeLine; decide), fun l nl => k _ l (same_new nl) nl upd_same⟩
end Rd

/-! What is kept while dice roll and tables of code objects grow -/
namespace Rd
open PySem PySem.Spec PyProof.Rows L2 Tq Dn Dc Ox LamX
/-- all but the dice and the tables stays -/
def KeepT (p : Addr) (H H' : Hp) : Prop := ∀ b o, b ≠ p → H b = some o → (∀ ps, o ≠ .tbl ps) → H' b = some o
theorem KeepT.refl {p : Addr} {H : Hp} : KeepT p H H := fun _ _ _ h _ => h
theorem KeepT.trans {p : Addr} {H H1 H2 : Hp} (a : KeepT p H H1) (b : KeepT p H1 H2) : KeepT p H H2 := fun c o n h t => b c o n (a c o n h t) t
theorem kt_same {p : Addr} {H H' : Hp} (s : Same H H') : KeepT p H H' := fun b o _ h _ => s b o h
theorem kt_keep {p : Addr} {H H' : Hp} (s : Keep p H H') : KeepT p H H' := fun b o n h _ => s b o n h
theorem kt_ext {p : Addr} {H H' : Hp} (s : ExtN H H') : KeepT p H H' := fun b o _ h t => s b o h t
open Classical in
/-- the heap without the dice and the tables -/
noncomputable def hidA (p : Addr) (H : Hp) : Hp := fun b => if b = p ∨ ∃ ps, H b = some (.tbl ps) then none else H b
theorem hidA_at {p a : Addr} {H : Hp} {o : HO} (h : H a = some o) (n : a ≠ p) (t : ∀ ps, o ≠ .tbl ps) : hidA p H a = some o := by
  unfold hidA
  rw [if_neg, h]
  rintro (e | ⟨ps, e⟩)
  · exact n e
  · rw [h] at e; cases e; exact t _ rfl
theorem hidA_same {p : Addr} {H H' : Hp} (k : KeepT p H H') : Same (hidA p H) H' := fun b o h => by
  unfold hidA at h
  by_cases e : b = p ∨ ∃ ps, H b = some (.tbl ps)
  · rw [if_pos e] at h; cases h
  · rw [if_neg e] at h
    exact k b o (fun z => e (.inl z)) h fun ps z => e (.inr ⟨ps, by rw [h, z]⟩)
section
variable {K : PySem.W.Frag} {p : Addr} {H H' : Hp}
theorem not_p {a : Addr} {o : HO} (d : DiceAt H p) (h : H a = some o) (n : ∀ xs, o ≠ .lst xs) : a ≠ p := fun e => by
  obtain ⟨x, y, z, hp, _⟩ := d
  rw [e, hp] at h; cases h; exact n _ rfl
theorem sqT_kt {a : Addr} {xs : List V} (h : SqT K H a xs) (d : DiceAt H p) (k : KeepT p H H') : SqT K H' a xs := by
  refine sqT_up ?_ (hidA_same k)
  rcases h with (h | ⟨o, h⟩) | h
  · exact .inl (.inl (hidA_at h (not_p d h fun _ e => by cases e) fun _ e => by cases e))
  · exact .inl (.inr ⟨o, hidA_at h (not_p d h fun _ e => by cases e) fun _ e => by cases e⟩)
  · exact .inr h
theorem LinesAt.kt {L : Addr} {rs : RowsL} (h : LinesAt K H L rs) (d : DiceAt H p) (k : KeepT p H H') : LinesAt K H' L rs := ⟨sqT_kt h.1 d k, fun r hr => sqT_kt (h.2 r hr) d k⟩
theorem RdAt.kt {C r : Addr} {rs : RowsL} (h : RdAt K C H r rs) (d : DiceAt H p) (k : KeepT p H H') : RdAt K C H' r rs := by
  obtain ⟨dx, L, T, ps, e, a, b, qs, e2, h2, h3⟩ := h
  exact ⟨dx, L, T, ps, k _ _ (not_p d e (fun _ z => by cases z)) e (fun _ z => by cases z), a.kt d k, b, qs, e2, sqT_kt h2 d k, fun x hx => sqT_kt (h3 x hx) d k⟩
theorem dice_same2 (d : DiceAt H p) (s : Same H H') : DiceAt H' p := let ⟨a, b, c, e, h⟩ := d; ⟨a, b, c, s _ _ e, h⟩
theorem dice_ext (d : DiceAt H p) (s : ExtN H H') : DiceAt H' p := let ⟨a, b, c, e, h⟩ := d; ⟨a, b, c, s _ _ e (fun _ z => by cases z), h⟩
theorem tabs_keep {T : List (Addr × Str)} (t : Tabs T H) (d : DiceAt H p) (k : Keep p H H') : Tabs T H' := fun x hx => by
  obtain ⟨ps, h1, h2, h3⟩ := t x hx
  refine ⟨ps, k _ _ (not_p d h1 fun _ z => by cases z) h1, h2, fun pos cv hc => ?_⟩
  obtain ⟨c, e, hcode⟩ := h3 pos cv hc
  exact ⟨c, e, k _ _ (not_p d hcode fun xs z => by unfold CodeO at z; cases z) hcode⟩
/-- a list of ours that is no dice -/
theorem lst_kt {a : Addr} {xs : List V} (h : H a = some (.lst xs)) (n : a ≠ p) (k : KeepT p H H') : H' a = some (.lst xs) := k _ _ n h fun _ z => by cases z
end
end Rd

/-! a def whose code object is known -/
namespace Rd
open PySem PySem.Spec PyProof.Rows L2 Tq Dn Dc Ox LamX
theorem okGc {P : Program} {w : World} {K : PySem.W.Frag} {mg : Str → Option Value} {base : Heap} {x qual : Str} {st : Stmt} {f : Addr} {fd : FuncData} {N ps : List Str} {k : Nat} {sp : Sp} {cc : Value} (hcc : fd.code = cc) (F : Fun K x qual st f fd) (S : FnScope N ps (defScope st)) (len : ∀ vs H Q E, sp vs H Q E → vs.length = ps.length)
    (hbody : ∀ (A : Around) (outer : List Env) (s : Shared) (H : Hp) (vs : List V) (Q : VK) (E : XK), A.guards = some [] → Room k (A.deeper (envOfC qual (defScope st) s.heap.objs.size f cc)) → sp vs H Q E →
      ∃ t, PSs (cxOf CX0 P w K mg base N qual (defScope st) f cc A outer s H E).nox (defBody st) t ∧ t { nx := fun _ H' => Q .non H', rt := Q } (start N vs) H) : FnG P w K mg base (k + 1) f fd ps sp := by
  obtain ⟨oc, od, kV, doc, pm, an, cdv, ct, osl, rfl, lk, hcd⟩ := F.ex; obtain rfl : cdv = cc := hcc; refine ⟨len, fun A outer s H args us vs Q E hgd hr e0 hb r hsp => ?_⟩; have hl := len _ _ _ _ hsp
  have KX : K.In s.heap := e0.mod.kin.keeps fun b o e => (e0.bs b o e).1; have lim : s.heap.NoLimit := e0.mod.nolimit.keeps fun b o e => (e0.bs b o e).1
  have hkind : ∀ y ∈ ps.zip us, (defScope st).names.lookup y.1 = some .local ∨ ((defScope st).names.lookup y.1 = some .cell ∧ ((cellsFrom (s.heap.objs.size + 1) (defScope st).names []).lookup y.1).isSome = true) := fun ⟨n, v⟩ hy => (S.par n (List.of_mem_zip hy).1).elim .inl fun q => .inr ⟨q, PySem.W.cellsFrom_some _ _ _ (.inl q)⟩
  refine codeAny_call_function hr.depth (KX _ _ lk) rfl S.co S.gen rfl (PySem.W.codeRec_of KX hcd) (hb _ _ _ _ ?_); refine wpAny_newFunctionEnv_cells S.kind hkind fun env he s1 x => ?_
  subst he; refine ⟨lim.keeps x.toInCall.keep, codeAny_func ?_⟩; obtain ⟨t, ht, hq⟩ := hbody A outer s H vs Q E hgd (hr.deeper _) hsp
  have I : Inv (cxOf CX0 P w K mg base N qual (defScope st) f cdv A outer s H E) [] (start N vs) H s1 := inv_start S hr.hd e0 hl r x
  refine wpAny_mono (ht.nox.run [] s1 (start N vs) H _ I hq) (fun fl s' hs => ?_) fun e s' hs => hs
  have fin : ∀ {σ' : L2.St} {H' : Hp} {v : V} {u : Value}, Inv (cxOf CX0 P w K mg base N qual (defScope st) f cdv A outer s H E) [] σ' H' s' → RelV v u → Q v H' → CE outer P w H s Q u s' := fun {σ' H' v u} J rv q => ⟨v, H', J.os, J.bare, J.base, J.hok, rv, q⟩
  cases fl with
  | ret u => obtain ⟨v, σ', H', J, rv, q⟩ := hs; exact fin J rv q
  | next => obtain ⟨σ', H', J, q⟩ := hs; exact fin (v := V.non) (u := Value.none) J rfl q
  | brk => obtain ⟨_, _, _, q⟩ := hs; exact False.elim q
  | cont => obtain ⟨_, _, _, q⟩ := hs; exact False.elim q
end Rd

/-! Drawn lines with one more or less make a reader -/
namespace Rd
open PySem PySem.Spec PyProof.Rows L2 Tq Dn Dc Ox LamX
theorem drawn_put {l : Ln} {m n : Nat} (h : l.drawn m) : (l.mv n 1).drawn (m + 1) := by
  cases l with
  | go k =>
    have h' : k ≤ m := h
    rw [mv_go1]
    show mvN n k ≤ m + 1
    unfold mvN; split <;> omega
  | ift t p k =>
    obtain ⟨h1, h2, h3⟩ := h
    rw [mv_ift1]
    refine ⟨h1, h2, ?_⟩
    unfold mvN; split <;> omega
  | look t p => exact h
  | read t p => exact h
theorem drawn_cut {l : Ln} {m n : Nat} (h : l.drawn m) (hn : n < m) : (l.mv n (-1)).drawn (m - 1) := by
  cases l with
  | go k =>
    have h' : k ≤ m := h
    rw [mv_go]
    split
    · show ((k : Int) + (-1)).toNat ≤ m - 1; omega
    · show k ≤ m - 1; omega
  | ift t p k =>
    obtain ⟨h1, h2, h3⟩ := h
    rw [mv_ift]
    split
    · exact ⟨h1, h2, by omega⟩
    · exact ⟨h1, h2, by omega⟩
  | look t p => exact h
  | read t p => exact h
theorem put_in {n : Nat} {l x : Ln} {ls : List Ln} (h : x ∈ putL n l ls) : x = l ∨ x ∈ ls.map (Ln.mv (n : Int) 1) := by
  unfold putL at h
  rcases List.mem_append.mp h with h | h
  · rcases List.mem_append.mp h with h | h
    · exact .inr (List.mem_of_mem_take h)
    · exact .inl (List.mem_singleton.mp h)
  · exact .inr (List.mem_of_mem_drop h)
/-- rows whose lines are drawn -/
def Drawn (rs : RowsL) : Prop := ∀ r ∈ rs, r.2.drawn rs.length
theorem put_drawn {rs ss : RowsL} {n : Nat} {l : Ln} (h : Drawn rs) (hl : l.drawn (rs.length + 1)) (hn : n ≤ rs.length) (e : ss.map Prod.snd = putL n l (lnsOf rs)) : Drawn ss ∧ ss.length = rs.length + 1 := by
  have len : ss.length = rs.length + 1 := by
    have := congrArg List.length e
    rw [put_len (by rw [List.length_map]; exact hn)] at this
    simpa using this
  refine ⟨fun r hr => ?_, len⟩
  rw [len]
  have hm : r.2 ∈ putL n l (lnsOf rs) := by rw [← e]; exact List.mem_map_of_mem hr
  rcases put_in hm with h1 | h1
  · rw [h1]; exact hl
  · obtain ⟨x, hx, h2⟩ := List.mem_map.mp h1
    obtain ⟨q, hq, rfl⟩ := List.mem_map.mp hx
    rw [← h2]
    exact drawn_put (h q hq)
theorem cut_drawn {rs ss : RowsL} {n : Nat} (h : Drawn rs) (hn : n < rs.length) (e : ss.map Prod.snd = cutL n (lnsOf rs)) : Drawn ss ∧ ss.length = rs.length - 1 := by
  have len : ss.length = rs.length - 1 := by
    have := congrArg List.length e
    unfold cutL at this
    rw [List.length_eraseIdx] at this
    simp only [List.length_map] at this
    rw [if_pos hn] at this
    exact this
  refine ⟨fun r hr => ?_, len⟩
  rw [len]
  have hm : r.2 ∈ cutL n (lnsOf rs) := by rw [← e]; exact List.mem_map_of_mem hr
  obtain ⟨x, hx, h2⟩ := List.mem_map.mp (List.mem_of_mem_eraseIdx hm)
  obtain ⟨q, hq, rfl⟩ := List.mem_map.mp hx
  rw [← h2]
  exact drawn_cut (h q hq) hn
theorem cut_put {n : Nat} {l : Ln} {ls : List Ln} (hn : n ≤ ls.length) (hb : ∀ x ∈ ls, (x.mv n 1).mv n (-1) = x) : cutL n (putL n l ls) = ls := by
  unfold cutL putL
  have h1 : ((ls.map (Ln.mv (n : Int) 1)).take n).length = n := by simp; omega
  rw [List.map_append, List.map_append, List.append_assoc, List.eraseIdx_append_of_length_le (by simp; omega)]
  have h2 : n - ((ls.map (Ln.mv (n : Int) 1)).take n |>.map (Ln.mv (n : Int) (-1))).length = 0 := by simp; omega
  rw [h2]
  show _ ++ ((ls.map (Ln.mv (n : Int) 1)).drop n).map (Ln.mv (n : Int) (-1)) = ls
  rw [← List.map_append, List.take_append_drop, List.map_map]
  have : ls.map (Ln.mv (n : Int) (-1) ∘ Ln.mv (n : Int) 1) = ls.map id := List.map_congr_left fun x hx => hb x hx
  rw [this, List.map_id]
theorem mv_back {n : Nat} (x : Ln) : (x.mv n 1).mv n (-1) = x := by
  cases x with
  | go k =>
    rw [mv_go1, mv_go]
    unfold mvN
    split
    · rw [if_pos (by omega)]; congr 1; omega
    · first | rfl | rw [if_neg (by omega)]
  | ift t p k =>
    rw [mv_ift1, mv_ift]
    unfold mvN
    split
    · rw [if_pos (by omega)]; congr 1; omega
    · first | rfl | rw [if_neg (by omega)]
  | look t p => rfl
  | read t p => rfl
theorem kt_to {p a : Addr} {H H' : Hp} {o : HO} (n : H a = none) (k : KeepT p H H') : KeepT p H (upd H' a o) := fun b u e h t => by
  rw [upd_ne (fun z => by rw [z, n] at h; cases h)]; exact k b u e h t
theorem tabs_list {T : List (Addr × Str)} {H : Hp} {a : Addr} {xs ys : List V} (t : Tabs T H) (h : H a = some (.lst xs)) : Tabs T (upd H a (.lst ys)) := fun x hx => by
  obtain ⟨qs, z1, z2, z3⟩ := t x hx
  refine ⟨qs, by rw [upd_ne (fun z => by rw [z, h] at z1; cases z1)]; exact z1, z2, fun pos cv hc => ?_⟩
  obtain ⟨co, z4, z5⟩ := z3 pos cv hc
  exact ⟨co, z4, by rw [upd_ne (fun z => by rw [z, h] at z5; unfold CodeO at z5; cases z5)]; exact z5⟩
/-- values that are no numbers of places -/
def OddK (K : PySem.W.Frag) (H : Hp) (n : Nat) (v : V) : Prop := ∃ d t, Dp K H v d ∧ numD d (n : Int) = false ∧ numD d ((n : Int) - 1) = false ∧ Shows H v t ∧ PyData.strOk t = true
theorem numb_ok : ∀ n : Nat, n < 18 → PyData.strOk (toString (n : Int)) = true ∧ (n : Int).natAbs.log2 < 1920 := by decide +kernel
theorem oddK_int {K : PySem.W.Frag} {H : Hp} {n : Nat} {i : Int} (h : i < 0 ∨ (n : Int) < i) (l : i.natAbs.log2 < 1920) (k : PyData.strOk (toString i) = true) : OddK K H n (.int i) := by
  refine ⟨.int i, toString i, .int i, ?_, ?_, .inr (.inr (.inl ⟨i, rfl, l, rfl⟩)), k⟩
  · show (decide (0 ≤ i) && decide (i ≤ (n : Int))) = false
    rw [Bool.and_eq_false_iff, decide_eq_false_iff_not, decide_eq_false_iff_not]; omega
  · show (decide (0 ≤ i) && decide (i ≤ (n : Int) - 1)) = false
    rw [Bool.and_eq_false_iff, decide_eq_false_iff_not, decide_eq_false_iff_not]; omega
abbrev oddVs (n : Nat) (t : Addr) : List V := [V.int ((n : Int) + 1), .int (-1), .bl true, .non, .str "1", .ref t, .int (10 ^ Int.toNat 20)]
theorem oddK_all {K : PySem.W.Frag} {H : Hp} {n : Nat} {t : Addr} (hn : n < 17) (ht : H t = some (.tup [.int 1])) : ∀ v ∈ oddVs n t, OddK K H n v := by
  obtain ⟨k1, k2⟩ := numb_ok (n + 1) (by omega)
  intro v hv
  simp only [oddVs, List.mem_cons, List.not_mem_nil, or_false] at hv
  rcases hv with rfl | rfl | rfl | rfl | rfl | rfl | rfl
  · exact oddK_int (i := ((n + 1 : Nat) : Int)) (.inr (by omega)) k2 k1
  · exact oddK_int (.inl (by omega)) (by decide +kernel) (by decide +kernel)
  · exact ⟨_, _, .bl true, rfl, rfl, .inr (.inl ⟨true, rfl, rfl⟩), by decide +kernel⟩
  · exact ⟨_, _, .non, rfl, rfl, .inl ⟨rfl, rfl⟩, by decide +kernel⟩
  · exact ⟨_, _, .str "1", rfl, rfl, .inr (.inr (.inr (.inl ⟨"1", rfl, by rw [sizeLine_eq]; decide +kernel, rfl⟩))), by decide +kernel⟩
  · exact ⟨.tuple [.int 1], _, .tup (SqT.of ht) (.cons (.int 1) .nil), rfl, rfl, .inr (.inr (.inr (.inr ⟨t, .tuple [.int 1], rfl, .tup ht (.cons (.int 1) .nil), by decide +kernel, by decide +kernel, by rw [sizeLine_eq]; decide +kernel, rfl⟩))), by decide +kernel⟩
  · have h20 : (17 : Int) < 10 ^ Int.toNat 20 := by decide +kernel
    exact oddK_int (.inr (by omega)) (by decide +kernel) (by decide +kernel)
theorem oddF_int {K : PySem.W.Frag} {n : Nat} {t : Addr} {i : Int} (h : i < 0 ∨ (n : Int) < i) (l : i.natAbs.log2 < 1920) (k : PyData.strOk (toString i) = true) : ∃ d tx, ∀ H : Hp, H t = some (.tup [.int 1]) → Dp K H (.int i) d ∧ numD d (n : Int) = false ∧ numD d ((n : Int) - 1) = false ∧ Shows H (.int i) tx ∧ PyData.strOk tx = true := by
  refine ⟨.int i, toString i, fun H _ => ⟨.int i, ?_, ?_, .inr (.inr (.inl ⟨i, rfl, l, rfl⟩)), k⟩⟩
  · show (decide (0 ≤ i) && decide (i ≤ (n : Int))) = false
    rw [Bool.and_eq_false_iff, decide_eq_false_iff_not, decide_eq_false_iff_not]; omega
  · show (decide (0 ≤ i) && decide (i ≤ (n : Int) - 1)) = false
    rw [Bool.and_eq_false_iff, decide_eq_false_iff_not, decide_eq_false_iff_not]; omega
/-- .. with one text, in whatever heap the tuple stands -/
theorem oddK_fix {K : PySem.W.Frag} {n : Nat} {t : Addr} (hn : n < 17) : ∀ v ∈ oddVs n t, ∃ d tx, ∀ H : Hp, H t = some (.tup [.int 1]) → Dp K H v d ∧ numD d (n : Int) = false ∧ numD d ((n : Int) - 1) = false ∧ Shows H v tx ∧ PyData.strOk tx = true := by
  obtain ⟨k1, k2⟩ := numb_ok (n + 1) (by omega)
  intro v hv
  simp only [oddVs, List.mem_cons, List.not_mem_nil, or_false] at hv
  rcases hv with rfl | rfl | rfl | rfl | rfl | rfl | rfl
  · exact oddF_int (i := ((n + 1 : Nat) : Int)) (.inr (by omega)) k2 k1
  · exact oddF_int (.inl (by omega)) (by decide +kernel) (by decide +kernel)
  · exact ⟨_, _, fun H _ => ⟨.bl true, rfl, rfl, .inr (.inl ⟨true, rfl, rfl⟩), by decide +kernel⟩⟩
  · exact ⟨_, _, fun H _ => ⟨.non, rfl, rfl, .inl ⟨rfl, rfl⟩, by decide +kernel⟩⟩
  · exact ⟨_, _, fun H _ => ⟨.str "1", rfl, rfl, .inr (.inr (.inr (.inl ⟨"1", rfl, by rw [sizeLine_eq]; decide +kernel, rfl⟩))), by decide +kernel⟩⟩
  · exact ⟨.tuple [.int 1], (PyData.tuple [.int 1]).shown, fun H ht => ⟨.tup (SqT.of ht) (.cons (.int 1) .nil), rfl, rfl, .inr (.inr (.inr (.inr ⟨t, .tuple [.int 1], rfl, .tup ht (.cons (.int 1) .nil), by decide +kernel, by decide +kernel, by rw [sizeLine_eq]; decide +kernel, rfl⟩))), by decide +kernel⟩⟩
  · have h20 : (17 : Int) < 10 ^ Int.toNat 20 := by decide +kernel
    exact oddF_int (.inr (by omega)) (by decide +kernel) (by decide +kernel)
theorem mod_no2 {d : PyData} (h : ∀ ds, d ≠ .tuple ds) : Mod_ d := fun ds e => absurd e (h ds)
def smB (ds : List PyData) : Bool := ds.all fun d => match d with
  | .str s => decide (s.cps.size ≤ 100)
  | _ => true
theorem mod_tup2 {ds : List PyData} (h : smB ds = true) (l : ds.length ≤ 100) : Mod_ (.tuple ds) := fun _ e => by
  cases e
  refine ⟨fun s hs => ?_, l⟩
  have h2 : s.cps.size ≤ 100 := of_decide_eq_true (List.all_eq_true.mp h _ hs)
  rw [sizeLine_eq]; omega
theorem wr_by {ds : List PyData} {m : Int} (h : ds.length < 2 ∨ lineT ds m = false) : lineD (.tuple ds) m = false := by
  show (if ds.length < 2 then false else lineT ds m) = false
  rcases h with h | h
  · rw [if_pos h]
  · split
    · rfl
    · exact h
theorem wr_go {n : Nat} : lineD (.tuple [.str "go", .int ((n : Int) + 2)]) (n + 1 : Nat) = false := wr_by (.inr (by rw [lineT_str, if_pos rfl]; simp [numD]))
theorem wr_one {m : Int} : lineD (.tuple [.str "go"]) m = false := wr_by (.inl (by simp))
theorem wr_read {m : Int} : lineD (.tuple [.str "read", .str "item"]) m = false := wr_by (.inr (by rw [lineT_str]; simp [ne3, ne5]))
theorem wr_if {m : Int} : lineD (.tuple [.str "if", .str "item", .str "live", .bool true]) m = false := wr_by (.inr (by rw [lineT_str]; simp [numD, ne1]))
theorem wr_gob {m : Int} : lineD (.tuple [.str "go", .bool true]) m = false := wr_by (.inr (by rw [lineT_str]; simp [numD]))
theorem goInt_shaped {i : Int} : SeqAt.shaped (.tuple [.str "go", .int i]) = true := by
  have w : PyData.strOk "go" = true := by decide +kernel
  show (PyData.canLay0 (.tuple [.str "go", .int i]) && decide (PyData.depth (.tuple [.str "go", .int i]) ≤ 64)) = true
  simp [PyData.canLay0, PyData.canLayAll0, PyData.depth, PyData.depthAll, w]
end Rd

/-! Lines are put in and taken out rightly -/
namespace Rd
open PySem PySem.Spec PyProof.Rows L2 Tq Dn Dc Ox LamX
abbrev sRj : Stmt := top 59
abbrev nRj : List Str := ["_law_dice_here", "_law_lines_here", "_law_size", "_law_reader", "_law_at", "_law_line_here", "_law_more", "_law_gone", "_law_less", "_law_idle", "_law_answers", "_law_turn", "_law_odd", "_law_told", "_law_some", "_law_wrong"]
structure TxF (K : PySem.W.Frag) (mg : Str → Option Value) (P : Program) (w : World) (base : Heap) (C CN CR : Addr) : Prop extends TxU K mg P w base C where
  roll : Has P w K mg base "_law_roll" 1 ["_law_dice_here", "_law_total"] spRoll
  one : Has P w K mg base "_law_one_of" 2 ["_law_dice_here", "_law_items"] spOne
  ln : Has P w K mg base "_law_line" 3 ["_law_dice_here", "_law_size"] spLn
  lns : Has P w K mg base "_law_lines" 4 ["_law_dice_here", "_law_most"] (spLns K)
  put : Has P w K mg base "_law_with" 2 ["_law_lines_here", "_law_at", "_law_line_here"] (spPut K)
  cut : Has P w K mg base "_law_without" 2 ["_law_lines_here", "_law_at"] (spCut K)
  al : Has P w K mg base "_law_alike" 2 ["_law_one", "_law_two", "_law_answers"] (spAl K)
  it : Has P w K mg base "_law_is_told" 8 ["_law_one"] (spIt K C)
  wi : ∃ f fd, Meth K C "with_line" f ∧ Binds K fd ["self", "at", "line"] [] ∧ FnOk P w K mg base (L2N.CX P w) 8 f fd ["self", "at", "line"] (spWith K C CN CR)
  wo : ∃ f fd, Meth K C "without_line" f ∧ Binds K fd ["self", "at"] [] ∧ FnOk P w K mg base (L2N.CX P w) 8 f fd ["self", "at"] (spWout K C CN)
  ne0 : PySem.W.findIn K (.ref C) "__ne__" = some (some (.builtin "object.__ne__"))
  sub0 : PySem.W.subIn K (.ref C) (.type "object") = some true
  y : TxY K mg base CN CR
  met : ∃ (g : Addr) (oc kV doc pm cdv ct : Value) (od an : Option Addr) (osl : Array (Option Value)), mg "_law_met" = some (.ref g) ∧ PySem.W.keepIn K (.ref g) = true ∧ PySem.W.codeIn K cdv "_law_met" = true ∧
    K.lookup g = some ⟨oc, od, .func (PySem.W.fnOf "_law_met" "_law_met" (defArgs sMet) (defBody sMet) (defScope sMet) .none kV doc pm an cdv ct), osl⟩ ∧ Binds K (PySem.W.fnOf "_law_met" "_law_met" (defArgs sMet) (defBody sMet) (defScope sMet) .none kV doc pm an cdv ct) ["_law_call"] []
def spRj (T : List (Addr × Str)) : Sp := fun vs H Q _ => ∃ p, vs = [.ref p] ∧ DiceAt H p ∧ Tabs T H ∧ ∀ H', KeepT p H H' → DiceAt H' p → Tabs T H' → Q (.bl true) H'
theorem passM {X : Cx} : Passes (L2N.CX X.prog X.w) X E0 := fun pins σ H s e s' I c => by
  obtain ⟨_, _, _, _, _, _, _, _, _, _, _, _, z⟩ := c; exact z.elim
section
variable {P : Program} {w : World} {K : PySem.W.Frag} {mg : Str → Option Value} {base : Heap}
theorem scRj : FnScope nRj ["_law_dice_here"] (defScope sRj) := ⟨rfl, rfl, rfl, by decide +kernel, rfl, by decide +kernel, by decide +kernel⟩
theorem ok_rj {C CN CR f PT cc : Addr} {fd : FuncData} {TS : List (Addr × Str)} (F : Fun K "_law_right" "_law_right" sRj f fd) (T : TxF K mg P w base C CN CR) (hcd : fd.code = .ref cc) (TB : TabB base mg cc PT)
    (hmT : ∀ n, (PT, (envOfC "_law_right" (defScope sRj) n f (.ref cc)).qual ++ "<lambda>") ∈ TS) (hu' : ∀ n, ∀ p ∈ TS, p.1 = PT → p.2 = (envOfC "_law_right" (defScope sRj) n f (.ref cc)).qual ++ "<lambda>") : FnG P w K mg base 11 f fd ["_law_dice_here"] (spRj TS) := by
  obtain ⟨mc, p0, g0, cr, cm, G0⟩ := T.of_
  obtain ⟨g1, D1, GE⟩ := T.eq_
  obtain ⟨p1, _, fd1, P1, B1, G1⟩ := T.lines_
  obtain ⟨fR, fdR, mR, kR, bR, GR⟩ := T.roll
  obtain ⟨fO, fdO, mO, kO, bO, GO⟩ := T.one
  obtain ⟨fN, fdN, mN, kN, bN, GN⟩ := T.ln
  obtain ⟨fL, fdL, mL, kL, bL, GL⟩ := T.lns
  obtain ⟨fP, fdP, mP, kP, bP, GP⟩ := T.put
  obtain ⟨fC, fdC, mC, kC, bC, GC⟩ := T.cut
  obtain ⟨fA, fdA, mA, kA, bA, GA⟩ := T.al
  obtain ⟨fI, fdI, mI, kI, bI, GI⟩ := T.it
  obtain ⟨gW, gdW, MW, bW, GW⟩ := T.wi
  obtain ⟨gU, gdU, MU, bU, GU⟩ := T.wo
  obtain ⟨gM, ocM, kVM, dcM, pmM, cdM, ctM, odM, anM, slM, mM, kM, cM, lM, bM⟩ := T.met
  refine okGc hcd F scRj (fun vs H Q E h => ?_) (fun A outer s H0 vs Q E hgd hr h => ?_)
  · obtain ⟨p, rfl, _⟩ := h; rfl
  · obtain ⟨p, rfl, di, tb, k⟩ := h
    have hu := hr.units
    have hsm := T.y.sysm
    have r1 := hr.mono (show 1 ≤ 10 by decide)
    have r2 := hr.mono (show 2 ≤ 10 by decide)
    have r3 := hr.mono (show 3 ≤ 10 by decide)
    have r4 := hr.mono (show 4 ≤ 10 by decide)
    have r7 := hr.mono (show 7 ≤ 10 by decide)
    have r8 := hr.mono (show 8 ≤ 10 by decide)
    have pe_lam1 := fun {params : Arguments} {body : Expr} {scope : Scope} {t : XK → TE} {p lpos pos : Pos} (L : LamS (defScope sRj) scope) (hdef) (hbind) (hbody) => Rl.pe_lamN (X := (cxOf CX0 P w K mg base nRj "_law_right" (defScope sRj) f (.ref cc) A outer s H0 E).nox) (T := TS) (TT := TTmet CN CR) (x := "_law_met") (a := "_law_call") (g := gM) (c := cc) (P := PT) (k := 8) (Ng := ["_law_call", "e"]) (params := params) (body := body) (scope := scope) (t := t) (p := p) (lpos := lpos) (pos := pos)
      (by rfl) mM kM lM cM bM scMet rfl (fun _ => rfl) (.inl rfl) (met_gives hgd T.y) TB rfl (hmT _) (hu' _) hr L hdef hbind hbody
    refine ⟨_, (pss_cons (ps_set (i := 1) scRj.nd rfl (Or.inl rfl) (pe_call GL r4 (by rfl) mL kL bL .nil pass0 (pa_cons (pv 0) (pa_cons pe_int pa_nil))))
      (pss_cons (ps_asg (pe_tup (pa_cons (pe_callB call_lenT (by rfl) T.len PySem.boot_len (pa_cons (pv 1) pa_nil)) (pa_cons (ClX.pe_cmeth (pe_glob (v := .ref C) (by rfl) T.mgC rfl) cr cm G0 r7 pass0 (pa_cons (pv 1) pa_nil)) pa_nil))) (pg_tup rfl (pgs_cons (pg_name (i := 2) scRj.nd rfl (.inr rfl)) (pgs_cons (pg_name (i := 3) scRj.nd rfl (.inr rfl)) pgs_nil))))
      (pss_cons (ps_asg (pe_tup (pa_cons (pe_call GR r1 (by rfl) mR kR bR .nil pass0 (pa_cons (pv 0) (pa_cons (pe_op op_add (pv 2) pe_int) pa_nil))) (pa_cons (pe_call GN r3 (by rfl) mN kN bN .nil pass0 (pa_cons (pv 0) (pa_cons (pe_op op_add (pv 2) pe_int) pa_nil))) pa_nil))) (pg_tup rfl (pgs_cons (pg_name (i := 4) scRj.nd rfl (.inr rfl)) (pgs_cons (pg_name (i := 5) scRj.nd rfl (.inl rfl)) pgs_nil))))
      (pss_cons (ps_set (i := 6) scRj.nd rfl (Or.inl rfl) (pe_meth (E := E0) (pv 3) T.cl MW GW r8 bW .nil passM (pa_cons (pv 4) (pa_cons (pv 5) pa_nil))))
      (pss_cons (ps_if (PW.pt (pw_or (pt_cmpR (op_neD hu) (pe_prop (pv 6) T.cl P1 G1 r2 B1 .nil pass0 (by rfl)) (pe_call GP r2 (by rfl) mP kP bP .nil pass0 (pa_cons (pv 1) (pa_cons (pv 4) (pa_cons (pv 5) pa_nil)))) (nomark _)) (pw_or (pt_not (pt_val (pe_callB call_isi (by rfl) T.isi PyProof.Rows.boot_isinstance (pa_cons (pv 6) (pa_cons (pe_glob (v := .ref C) (by rfl) T.mgC rfl) pa_nil))))) (pw_or1 (pt_cmpR (op_neD hu) (pe_prop (pv 3) T.cl P1 G1 r2 B1 .nil pass0 (by rfl)) (pv 1) (nomark _)))))) (pss_one (ps_ret pe_bl)) pss_nil)
      (pss_cons (ps_if (PW.pt (pw_or (pt_not (pt_val (pe_call GI r8 (by rfl) mI kI bI .nil pass0 (pa_cons (pv 6) pa_nil)))) (pw_or1 (pt_not (pt_val (pe_call GI r8 (by rfl) mI kI bI .nil pass0 (pa_cons (pe_meth (E := E0) (pv 6) T.cl MU GU r8 bU .nil passM (pa_cons (pv 4) pa_nil)) pa_nil))))))) (pss_one (ps_ret pe_bl)) pss_nil)
      (pss_cons (ps_if (pt_cmpR op_gt (pv 2) pe_int (nomark _)) (pss_cons (ps_set (i := 7) scRj.nd rfl (Or.inl rfl) (pe_call GR r1 (by rfl) mR kR bR .nil pass0 (pa_cons (pv 0) (pa_cons (pv 2) pa_nil))))
      (pss_cons (ps_set (i := 8) scRj.nd rfl (Or.inl rfl) (pe_meth (E := E0) (pv 3) T.cl MU GU r8 bU .nil passM (pa_cons (pv 7) pa_nil)))
      (pss_one (ps_if (PW.pt (pw_or (pt_cmpR (op_neD hu) (pe_prop (pv 8) T.cl P1 G1 r2 B1 .nil pass0 (by rfl)) (pe_call GC r2 (by rfl) mC kC bC .nil pass0 (pa_cons (pv 1) (pa_cons (pv 7) pa_nil))) (nomark _)) (pw_or (pt_cmpR (op_neD hu) (pe_prop (pv 3) T.cl P1 G1 r2 B1 .nil pass0 (by rfl)) (pv 1) (nomark _)) (pw_or1 (pt_not (pt_val (pe_call GI r8 (by rfl) mI kI bI .nil pass0 (pa_cons (pv 8) pa_nil)))))))) (pss_one (ps_ret pe_bl)) pss_nil)))) pss_nil)
      (pss_cons (ps_set (i := 9) scRj.nd rfl (Or.inl rfl) (pe_meth (E := E0) (pv 3) T.cl MW GW r8 bW .nil passM (pa_cons (pv 4) (pa_cons (pe_tup (pa_cons pe_str (pa_cons (pe_op op_add (pv 4) pe_int) pa_nil))) pa_nil))))
      (pss_cons (ps_setLc (i := 10) (own := [("_law_turn", 11)]) (g := gName 11) (tt := tYes) (te := tOp rEq (tCall spRoll [] E0 (tCons (tVar 0) (tCons (tC (.int 2)) tNil))) (tC (.int 1))) rfl scRj.nd rfl rfl (sw_true rfl rfl rfl rfl) (pi_range1 (by rfl) T.range (pa_cons pe_int pa_nil)) (blkOk_by (N := nRj) (sc := defScope sRj) (by decide +kernel)) (fun _ _ _ _ _ => pg_name (i := 11) scRj.nd rfl (Or.inl rfl)) (fun _ _ _ _ _ => pts_nil) (fun _ _ _ _ _ => (pe_cmpR op_eq (pe_call GR r1 (by rfl) mR kR bR .nil pass0 (pa_cons (pv 0) (pa_cons pe_int pa_nil))) pe_int (nomark _))))
      (pss_cons (ps_if (PW.pt (pw_or (pt_not (pt_val (pe_call GA r2 (by rfl) mA kA bA .nil pass0 (pa_cons (pv 1) (pa_cons (pe_prop (pv 9) T.cl P1 G1 r2 B1 .nil pass0 (by rfl)) (pa_cons (pv 10) pa_nil)))))) (pw_or1 (pt_cmpR (op_neO (E := E0) T.ne0 T.sub0 D1 GE r2 pass0A) (pe_meth (E := E0) (pv 9) T.cl MU GU r8 bU .nil passM (pa_cons (pv 4) pa_nil)) (pv 3) (nomark _))))) (pss_one (ps_ret pe_bl)) pss_nil)
      (pss_cons (ps_for PassesOwn.never rfl (pi_tup (pe_tup (pa_cons (pe_op op_add (pv 2) pe_int) (pa_cons (pe_un un_neg pe_int) (pa_cons pe_bl (pa_cons pe_non (pa_cons pe_str (pa_cons (pe_tup (pa_cons pe_int pa_nil)) (pa_cons (pe_op op_powB pe_int pe_int) pa_nil))))))))) (pg_name (i := 12) scRj.nd rfl (.inr rfl)) (pss_cons (ps_set (i := 13) scRj.nd rfl (Or.inl rfl) (pe_lst (pa_cons (pe_lam1 (lamS_by (by rfl)) rfl (fun _ _ _ _ _ => rfl) (fun A outer s H E f c hr2 => (pe_meth (E := E) (pv 3) T.cl MW GW hr2 bW .nil (L2N.passes_call (L2N.takes_of rfl rfl rfl rfl) (fun _ _ _ _ h => h)) (pa_cons (pv 12) (pa_cons pe_non pa_nil))))) pa_nil)))
      (pss_cons (ps_expr (pe_bm PySem.F.plainAttrs_list PySem.F.slot_list_append PySem.F.type_list_append mt_append (pv 13) (pa_cons (pe_lam1 (lamS_by (by rfl)) rfl (fun _ _ _ _ _ => rfl) (fun A outer s H E f c hr2 => (pe_meth (E := E) (pv 3) T.cl MU GU hr2 bU .nil (L2N.passes_call (L2N.takes_of rfl rfl rfl rfl) (fun _ _ _ _ h => h)) (pa_cons (pv 12) pa_nil)))) pa_nil)))
      (pss_one (ps_if (pt_cmpR (op_neD hu) (pv 13) (pe_op op_rep (pe_lst (pa_cons (pe_lst (pa_cons pe_str (pa_cons (pe_callB (call_show hgd hu hsm) (by rfl) T.repr PyProof.Rows.boot_repr (pa_cons (pv 12) pa_nil)) pa_nil))) pa_nil)) pe_int) (nomark _)) (pss_one (ps_ret pe_bl)) pss_nil)))))
      (pss_cons (ps_set (i := 14) scRj.nd rfl (Or.inl rfl) (pe_lst (pa_cons pe_non (pa_cons (pe_tup (pa_cons pe_str (pa_cons (pe_op op_add (pv 2) pe_int) pa_nil))) (pa_cons (pe_tup (pa_cons pe_str pa_nil)) (pa_cons (pe_lst (pa_cons pe_str (pa_cons pe_int pa_nil))) (pa_cons (pe_tup (pa_cons pe_str (pa_cons pe_str pa_nil))) (pa_cons (pe_tup (pa_cons pe_str (pa_cons pe_str (pa_cons pe_str (pa_cons pe_bl pa_nil))))) (pa_cons (pe_tup (pa_cons pe_str (pa_cons pe_bl pa_nil))) pa_nil)))))))))
      (pss_cons (ps_set (i := 15) scRj.nd rfl (Or.inr rfl) (pe_call GO r2 (by rfl) mO kO bO .nil pass0 (pa_cons (pv 0) (pa_cons (pv 14) pa_nil))))
      (pss_cons (ps_set (i := 13) scRj.nd rfl (Or.inl rfl) (pe_lst (pa_cons (pe_lam1 (lamS_by (by rfl)) rfl (fun _ _ _ _ _ => rfl) (fun A outer s H E f c hr2 => (pe_meth (E := E) (pv 3) T.cl MW GW hr2 bW .nil (L2N.passes_call (L2N.takes_of rfl rfl rfl rfl) (fun _ _ _ _ h => h)) (pa_cons (pv 4) (pa_cons (pv 15) pa_nil))))) pa_nil)))
      (pss_cons (ps_expr (pe_bm PySem.F.plainAttrs_list PySem.F.slot_list_append PySem.F.type_list_append mt_append (pv 13) (pa_cons (pe_lam1 (lamS_by (by rfl)) rfl (fun _ _ _ _ _ => rfl) (fun A outer s H E f c hr2 => (pe_meth (E := E) (pv 3) T.cl MU GU hr2 bU .nil (L2N.passes_call (L2N.takes_of rfl rfl rfl rfl) (fun _ _ _ _ h => h)) (pa_cons (pv 2) pa_nil)))) pa_nil)))
      (pss_one (ps_ret (pe_and (pe_cmpR (op_eqD hu) (pv 13) (pe_lst (pa_cons (pe_lst (pa_cons pe_str pa_nil)) (pa_cons (pe_lst (pa_cons pe_str (pa_cons (pe_callB (call_show hgd hu hsm) (by rfl) T.repr PyProof.Rows.boot_repr (pa_cons (pv 2) pa_nil)) pa_nil))) pa_nil))) (nomark _)) (pe_one (pe_cmpR (op_eqD hu) (pe_prop (pv 3) T.cl P1 G1 r2 B1 .nil pass0 (by rfl)) (pv 1) (nomark _))))))))))))))))))))), ?_⟩
    have d0 := di
    have b0 := tb
    clear di tb
    refine ⟨_, rfl, p, 9, rfl, by decide, d0, fun L rs H1 k1 d1 nL eL hrows hdr few => ?_⟩
    have q1 : KeepT p H0 H1 := kt_keep k1
    have b1 := tabs_keep b0 d0 k1
    have hL : LinesAt K H1 L rs := ⟨SqT.of eL, fun r hr => SqT.of (hrows r hr)⟩
    have ok : RdOk rs := drawn_ok hdr (by omega)
    have safe := lns_safe ok
    refine ⟨_, rfl, L, _, rfl, hL.1, ?_⟩
    rw [List.length_map]
    refine ⟨rfl, _, rfl, L, rs, rfl, hL, ok, fun H2 r s2 nr hR => ?_⟩
    have q2 : KeepT p H1 H2 := kt_same s2
    have d2 := dice_same2 d1 s2
    have b2 := b1.ext s2
    obtain ⟨dx, Lr, Tr, pr, eR, hLr, _⟩ := id hR
    refine ⟨(by show 2 ≤ sizeLine; decide), fun t3 n3 => ?_⟩
    have ne3 := dice_ne d2 n3
    have s3 := same_new (o := HO.tup [V.int (rs.length : Int), V.ref r]) n3
    have h3 : upd H2 t3 (HO.tup [V.int (rs.length : Int), V.ref r]) t3 = some (HO.tup [V.int (rs.length : Int), V.ref r]) := upd_same
    have q3 : KeepT p H2 (upd H2 t3 (HO.tup [V.int (rs.length : Int), V.ref r])) := kt_same s3
    have d3 := dice_upd (o := HO.tup [V.int (rs.length : Int), V.ref r]) d2 ne3
    have b3 := b2.ext s3
    generalize upd H2 t3 (HO.tup [V.int (rs.length : Int), V.ref r]) = H3 at s3 h3 q3 d3 b3 ⊢
    refine ⟨t3, _, rfl, SqT.of h3, rfl, _, _, rfl, _, _, rfl, rfl, ?_⟩
    obtain ⟨xa4, xb4, xc4, hp4, ha4⟩ := id d3
    refine ⟨_, rfl, _, rfl, _, _, rfl, rfl, p, (rs.length : Int) + 1, xa4, xb4, xc4, rfl, hp4, ha4, by omega, by omega, fun v4 ya4 yb4 yc4 v14 v24 v34 => ?_⟩
    obtain ⟨n, rfl⟩ : ∃ n : Nat, v4 = (n : Int) := ⟨v4.toNat, (Int.toNat_of_nonneg v14).symm⟩
    have k4 : Keep p H3 (upd H3 p (.lst [.int ya4, .int yb4, .int yc4])) := keep_upd
    have d4 : DiceAt (upd H3 p (.lst [.int ya4, .int yb4, .int yc4])) p := .upd v34
    generalize upd H3 p (HO.lst [V.int ya4, V.int yb4, V.int yc4]) = H4 at k4 d4 ⊢
    have q4 : KeepT p H3 H4 := kt_keep k4
    have b4 := tabs_keep b3 d3 k4
    have hn : n ≤ rs.length := by omega
    refine ⟨_, rfl, _, rfl, _, _, rfl, rfl, p, rs.length + 1, rfl, d4, by omega, fun la ln H5 k5 d5 nla ela hln => ?_⟩
    have q5 : KeepT p H4 H5 := kt_keep k5
    have b5 := tabs_keep b4 d4 k5
    have hla : SqT K H5 la ln.vs := SqT.of ela
    refine ⟨(by show 2 ≤ sizeLine; decide), fun t6 n6 => ?_⟩
    have ne6 := dice_ne d5 n6
    have s6 := same_new (o := HO.tup [V.int (n : Int), V.ref la]) n6
    have h6 : upd H5 t6 (HO.tup [V.int (n : Int), V.ref la]) t6 = some (HO.tup [V.int (n : Int), V.ref la]) := upd_same
    have q6 : KeepT p H5 (upd H5 t6 (HO.tup [V.int (n : Int), V.ref la])) := kt_same s6
    have d6 := dice_upd (o := HO.tup [V.int (n : Int), V.ref la]) d5 ne6
    have b6 := b5.ext s6
    generalize upd H5 t6 (HO.tup [V.int (n : Int), V.ref la]) = H6 at s6 h6 q6 d6 b6 ⊢
    refine ⟨t6, _, rfl, SqT.of h6, rfl, _, _, rfl, _, _, rfl, rfl, ?_⟩
    have okp : ∀ ss : RowsL, ss.map Prod.snd = putL n ln (lnsOf rs) → RdOk ss := fun ss e => by
      obtain ⟨a, b⟩ := put_drawn hdr hln hn e
      exact drawn_ok a (by omega)
    refine ⟨_, rfl, r, dx, _, rfl, ((KeepT.trans q3 (KeepT.trans q4 (KeepT.trans q5 q6))) _ _ (not_p d2 eR (fun _ z => by cases z)) eR (fun _ z => by cases z)), rd_no (by decide +kernel) (by decide +kernel), _, rfl, _, rfl, r, rs, _, _, _, rfl, (hR.kt d2 (KeepT.trans q3 (KeepT.trans q4 (KeepT.trans q5 q6)))), ok, .int _, .inr ⟨n, rfl, hn, by omega, .inl ⟨la, ln, rfl, (sqT_kt hla d5 q6), okp, fun H7 m ms s7 nm em hM => ?_⟩⟩⟩
    have q7 : KeepT p H6 H7 := kt_same s7
    have d7 := dice_same2 d6 s7
    have b7 := b6.ext s7
    obtain ⟨dm, Lm, Tm, pm, eM, hLm, _⟩ := id hM
    have okM := okp ms em
    have safeM := lns_safe okM
    obtain ⟨drM, lenM⟩ := put_drawn hdr hln hn em
    refine ⟨_, rfl, m, dm, _, rfl, eM, m, dm, _, _, rfl, eM, rd_lines Lm Tm, _, rfl, _, rfl, _, rfl, L, la, rs, ln, n, rfl, (hL.kt d1 (KeepT.trans q2 (KeepT.trans q3 (KeepT.trans q4 (KeepT.trans q5 (KeepT.trans q6 q7)))))), (sqT_kt hla d5 (KeepT.trans q6 q7)), hn, by omega, fun H8 z zs s8 hZ ez => ?_⟩
    have q8 : KeepT p H7 H8 := kt_same s8
    have d8 := dice_same2 d7 s8
    have b8 := b7.ext s8
    have eMZ : lnsOf ms = lnsOf zs := em.trans ez.symm
    refine ⟨_, _, (hLm.kt d7 q8).dp, hZ.dp, dls_shaped safeM, dls_shaped (fun l hl => safeM l (by rw [eMZ]; exact hl)), _, rfl, ?_⟩
    rw [dls_eqv, decide_eq_true eMZ]
    refine iteF ?_
    refine ⟨_, rfl, .ref m, .ref C, .ref C, .ref C, true, rfl, .own C, rd_ty T.cl T.ii (hM.kt d7 q8), T.ii.self, _, rfl, iteF ?_⟩
    refine ⟨_, rfl, r, dx, _, rfl, ((KeepT.trans q3 (KeepT.trans q4 (KeepT.trans q5 (KeepT.trans q6 (KeepT.trans q7 q8))))) _ _ (not_p d2 eR (fun _ z => by cases z)) eR (fun _ z => by cases z)), r, dx, _, _, rfl, ((KeepT.trans q3 (KeepT.trans q4 (KeepT.trans q5 (KeepT.trans q6 (KeepT.trans q7 q8))))) _ _ (not_p d2 eR (fun _ z => by cases z)) eR (fun _ z => by cases z)), rd_lines Lr Tr, _, rfl, _, _, (hLr.kt d2 (KeepT.trans q3 (KeepT.trans q4 (KeepT.trans q5 (KeepT.trans q6 (KeepT.trans q7 q8)))))).dp, (hL.kt d1 (KeepT.trans q2 (KeepT.trans q3 (KeepT.trans q4 (KeepT.trans q5 (KeepT.trans q6 (KeepT.trans q7 q8))))))).dp, dls_shaped safe, dls_shaped safe, _, rfl, ?_⟩
    rw [dls_eqv, decide_eq_true rfl]
    refine iteF ?_
    refine ⟨_, rfl, m, ms, rfl, (hM.kt d7 q8), okM, fun H9 s9 => ⟨_, rfl, iteF ?_⟩⟩
    have q9 : KeepT p H8 H9 := kt_same s9
    have d9 := dice_same2 d8 s9
    have b9 := b8.ext s9
    have okc : ∀ us : RowsL, us.map Prod.snd = cutL n (lnsOf ms) → RdOk us := fun us e => by
      obtain ⟨a, b⟩ := cut_drawn drM (by omega) e
      exact drawn_ok a (by omega)
    refine ⟨_, rfl, m, dm, _, rfl, ((KeepT.trans q8 q9) _ _ (not_p d7 eM (fun _ z => by cases z)) eM (fun _ z => by cases z)), rd_no (by decide +kernel) (by decide +kernel), _, rfl, m, ms, _, _, rfl, (hM.kt d7 (KeepT.trans q8 q9)), okM, .int _, .inr ⟨n, rfl, by omega, okc, fun H10 u us s10 nu eu hU => ?_⟩⟩
    have q10 : KeepT p H9 H10 := kt_same s10
    have d10 := dice_same2 d9 s10
    have b10 := b9.ext s10
    refine ⟨u, us, rfl, hU, okc us eu, fun H11 s11 => ⟨_, rfl, iteF ?_⟩⟩
    have q11 : KeepT p H10 H11 := kt_same s11
    have d11 := dice_same2 d10 s11
    have b11 := b10.ext s11
    refine ⟨_, rfl, _, _, rfl, rfl, _, rfl, ?_⟩
    refine ite2 (fun c => ?_) (fun c => ?_)
    · have hpos : 0 < rs.length := by have := of_decide_eq_true c; omega
      obtain ⟨xa12, xb12, xc12, hp12, ha12⟩ := id d11
      refine ⟨_, rfl, _, rfl, p, (rs.length : Int), xa12, xb12, xc12, rfl, hp12, ha12, by omega, by omega, fun v12 ya12 yb12 yc12 v112 v212 v312 => ?_⟩
      obtain ⟨o, rfl⟩ : ∃ n : Nat, v12 = (n : Int) := ⟨v12.toNat, (Int.toNat_of_nonneg v112).symm⟩
      have k12 : Keep p H11 (upd H11 p (.lst [.int ya12, .int yb12, .int yc12])) := keep_upd
      have d12 : DiceAt (upd H11 p (.lst [.int ya12, .int yb12, .int yc12])) p := .upd v312
      generalize upd H11 p (HO.lst [V.int ya12, V.int yb12, V.int yc12]) = H12 at k12 d12 ⊢
      have q12 : KeepT p H11 H12 := kt_keep k12
      have b12 := tabs_keep b11 d11 k12
      have ho : o < rs.length := by omega
      have oko : ∀ ws : RowsL, ws.map Prod.snd = cutL o (lnsOf rs) → RdOk ws := fun ws e => by
        obtain ⟨a, b⟩ := cut_drawn hdr ho e
        exact drawn_ok a (by omega)
      refine ⟨_, rfl, r, dx, _, rfl, ((KeepT.trans q3 (KeepT.trans q4 (KeepT.trans q5 (KeepT.trans q6 (KeepT.trans q7 (KeepT.trans q8 (KeepT.trans q9 (KeepT.trans q10 (KeepT.trans q11 q12))))))))) _ _ (not_p d2 eR (fun _ z => by cases z)) eR (fun _ z => by cases z)), rd_no (by decide +kernel) (by decide +kernel), _, rfl, r, rs, _, _, rfl, (hR.kt d2 (KeepT.trans q3 (KeepT.trans q4 (KeepT.trans q5 (KeepT.trans q6 (KeepT.trans q7 (KeepT.trans q8 (KeepT.trans q9 (KeepT.trans q10 (KeepT.trans q11 q12)))))))))), ok, .int _, .inr ⟨o, rfl, ho, oko, fun H13 v vs s13 nv ev hV => ?_⟩⟩
      have q13 : KeepT p H12 H13 := kt_same s13
      have d13 := dice_same2 d12 s13
      have b13 := b12.ext s13
      obtain ⟨dv, Lv, Tv, pv_, eV, hLv, _⟩ := id hV
      have okV := oko vs ev
      refine ⟨_, rfl, v, dv, _, rfl, eV, v, dv, _, _, rfl, eV, rd_lines Lv Tv, _, rfl, _, rfl, L, rs, o, rfl, (hL.kt d1 (KeepT.trans q2 (KeepT.trans q3 (KeepT.trans q4 (KeepT.trans q5 (KeepT.trans q6 (KeepT.trans q7 (KeepT.trans q8 (KeepT.trans q9 (KeepT.trans q10 (KeepT.trans q11 (KeepT.trans q12 q13)))))))))))), ho, by omega, fun H14 y ys s14 hY ey => ?_⟩
      have q14 : KeepT p H13 H14 := kt_same s14
      have d14 := dice_same2 d13 s14
      have b14 := b13.ext s14
      have eVY : lnsOf vs = lnsOf ys := ev.trans ey.symm
      refine ⟨_, _, (hLv.kt d13 q14).dp, hY.dp, dls_shaped (lns_safe okV), dls_shaped (fun l hl => lns_safe okV l (by rw [eVY]; exact hl)), _, rfl, ?_⟩
      rw [dls_eqv, decide_eq_true eVY]
      refine iteF ?_
      refine ⟨_, rfl, r, dx, _, rfl, ((KeepT.trans q3 (KeepT.trans q4 (KeepT.trans q5 (KeepT.trans q6 (KeepT.trans q7 (KeepT.trans q8 (KeepT.trans q9 (KeepT.trans q10 (KeepT.trans q11 (KeepT.trans q12 (KeepT.trans q13 q14))))))))))) _ _ (not_p d2 eR (fun _ z => by cases z)) eR (fun _ z => by cases z)), r, dx, _, _, rfl, ((KeepT.trans q3 (KeepT.trans q4 (KeepT.trans q5 (KeepT.trans q6 (KeepT.trans q7 (KeepT.trans q8 (KeepT.trans q9 (KeepT.trans q10 (KeepT.trans q11 (KeepT.trans q12 (KeepT.trans q13 q14))))))))))) _ _ (not_p d2 eR (fun _ z => by cases z)) eR (fun _ z => by cases z)), rd_lines Lr Tr, _, rfl, _, _, (hLr.kt d2 (KeepT.trans q3 (KeepT.trans q4 (KeepT.trans q5 (KeepT.trans q6 (KeepT.trans q7 (KeepT.trans q8 (KeepT.trans q9 (KeepT.trans q10 (KeepT.trans q11 (KeepT.trans q12 (KeepT.trans q13 q14)))))))))))).dp, (hL.kt d1 (KeepT.trans q2 (KeepT.trans q3 (KeepT.trans q4 (KeepT.trans q5 (KeepT.trans q6 (KeepT.trans q7 (KeepT.trans q8 (KeepT.trans q9 (KeepT.trans q10 (KeepT.trans q11 (KeepT.trans q12 (KeepT.trans q13 q14))))))))))))).dp, dls_shaped safe, dls_shaped safe, _, rfl, ?_⟩
      rw [dls_eqv, decide_eq_true rfl]
      refine iteF ?_
      refine ⟨_, rfl, v, vs, rfl, (hV.kt d13 q14), okV, fun H15 s15 => ⟨_, rfl, iteF ?_⟩⟩
      have q15 : KeepT p H14 H15 := kt_same s15
      have d15 := dice_same2 d14 s15
      have b15 := b14.ext s15
      refine ⟨_, rfl, r, dx, _, rfl, ((KeepT.trans q3 (KeepT.trans q4 (KeepT.trans q5 (KeepT.trans q6 (KeepT.trans q7 (KeepT.trans q8 (KeepT.trans q9 (KeepT.trans q10 (KeepT.trans q11 (KeepT.trans q12 (KeepT.trans q13 (KeepT.trans q14 q15)))))))))))) _ _ (not_p d2 eR (fun _ z => by cases z)) eR (fun _ z => by cases z)), rd_no (by decide +kernel) (by decide +kernel), _, rfl, _, rfl, _, _, rfl, rfl, (by show 2 ≤ sizeLine; decide), fun t16 n16 => ?_⟩
      have ne16 := dice_ne d15 n16
      have s16 := same_new (o := HO.tup [V.str "go", V.int ((n : Int) + 1)]) n16
      have h16 : upd H15 t16 (HO.tup [V.str "go", V.int ((n : Int) + 1)]) t16 = some (HO.tup [V.str "go", V.int ((n : Int) + 1)]) := upd_same
      have q16 : KeepT p H15 (upd H15 t16 (HO.tup [V.str "go", V.int ((n : Int) + 1)])) := kt_same s16
      have d16 := dice_upd (o := HO.tup [V.str "go", V.int ((n : Int) + 1)]) d15 ne16
      have b16 := b15.ext s16
      generalize upd H15 t16 (HO.tup [V.str "go", V.int ((n : Int) + 1)]) = H16 at s16 h16 q16 d16 b16 ⊢
      have okI : ∀ ws : RowsL, ws.map Prod.snd = putL n (.go (n + 1)) (lnsOf rs) → RdOk ws := fun ws e => by
        obtain ⟨a, b⟩ := put_drawn hdr (show (Ln.go (n + 1)).drawn (rs.length + 1) from (show n + 1 ≤ rs.length + 1 by omega)) hn e
        exact drawn_ok a (by omega)
      refine ⟨r, rs, _, _, _, rfl, (hR.kt d2 (KeepT.trans q3 (KeepT.trans q4 (KeepT.trans q5 (KeepT.trans q6 (KeepT.trans q7 (KeepT.trans q8 (KeepT.trans q9 (KeepT.trans q10 (KeepT.trans q11 (KeepT.trans q12 (KeepT.trans q13 (KeepT.trans q14 (KeepT.trans q15 q16)))))))))))))), ok, .int _, .inr ⟨n, rfl, hn, by omega, .inl ⟨t16, .go (n + 1), rfl, SqT.of (xs := (Ln.go (n + 1)).vs) h16, okI, fun H17 i is s17 ni ei hI => ?_⟩⟩⟩
      have q17 : KeepT p H16 H17 := kt_same s17
      have d17 := dice_same2 d16 s17
      have b17 := b16.ext s17
      obtain ⟨di, Li, Ti, pi_, eI, hLi, _⟩ := id hI
      obtain ⟨drI, lenI⟩ := put_drawn hdr (show (Ln.go (n + 1)).drawn (rs.length + 1) from (show n + 1 ≤ rs.length + 1 by omega)) hn ei
      refine ⟨12, rfl, by decide, by decide, fun D hD => ?_⟩
      have nDp := dice_ne d17 hD
      refine lc_range (n := 12) (fun j H' => KeepT p H17 H' ∧ DiceAt H' p ∧ Tabs TS H' ∧ ∃ bs : List Bool, H' D = some (.lst (bs.map V.bl)) ∧ bs.length = j) ⟨kt_same (same_new hD), dice_upd d17 nDp, b17.ext (same_new hD), [], upd_same, rfl⟩ ?_ ?_
      · rintro j Hj hj ⟨kj, dj, bj, bs, ej, lj⟩
        obtain ⟨xa, xb, xc, hp, ha⟩ := id dj
        refine ⟨rfl, tt_yes ?_⟩
        refine ⟨_, rfl, p, 2, xa, xb, xc, rfl, hp, ha, by decide, by decide, fun v ya yb yc v1 v2 v3 => ?_⟩
        have kk : Keep p Hj (upd Hj p (.lst [.int ya, .int yb, .int yc])) := keep_upd
        have e5 := kk _ _ nDp ej
        have dd : DiceAt (upd Hj p (.lst [.int ya, .int yb, .int yc])) p := .upd v3
        have bb := tabs_keep bj dj kk
        generalize upd Hj p (HO.lst [V.int ya, V.int yb, V.int yc]) = Hm at kk e5 dd bb ⊢
        refine ⟨rfl, _, e5, by rw [List.length_map, sizeLine_eq]; omega, ?_, dice_upd dd nDp, ?_, bs ++ [decide (V.int v = V.int 1)], by rw [upd_same, List.map_append]; rfl, by simp [lj]⟩
        · intro x o hx e tx
          rw [upd_ne (fun z => by rw [z, hD] at e; cases e)]
          exact kt_keep kk x o hx (kj x o hx e tx) tx
        · intro x hx
          obtain ⟨qs, z1, z2, z3⟩ := bb x hx
          have nx : x.1 ≠ D := fun z => by rw [z, e5] at z1; cases z1
          refine ⟨qs, by rw [upd_ne nx]; exact z1, z2, fun pos cv hc => ?_⟩
          obtain ⟨co, z4, z5⟩ := z3 pos cv hc
          exact ⟨co, z4, by rw [upd_ne (fun z => by rw [z, e5] at z5; unfold CodeO at z5; cases z5)]; exact z5⟩
      rintro H18 ⟨q18, d18, b18, bs, eD, lbs⟩
      have okJ := okI is ei
      refine ⟨_, rfl, _, rfl, i, di, _, rfl, (q18 _ _ (not_p d17 eI (fun _ z => by cases z)) eI (fun _ z => by cases z)), i, di, _, _, rfl, (q18 _ _ (not_p d17 eI (fun _ z => by cases z)) eI (fun _ z => by cases z)), rd_lines Li Ti, _, rfl, L, Li, D, rs, is, bs, rfl, (hL.kt d1 (KeepT.trans q2 (KeepT.trans q3 (KeepT.trans q4 (KeepT.trans q5 (KeepT.trans q6 (KeepT.trans q7 (KeepT.trans q8 (KeepT.trans q9 (KeepT.trans q10 (KeepT.trans q11 (KeepT.trans q12 (KeepT.trans q13 (KeepT.trans q14 (KeepT.trans q15 (KeepT.trans q16 (KeepT.trans q17 q18))))))))))))))))), (hLi.kt d17 q18), SqL.of eD, ok.fine, okJ.fine, by omega, fun H19 s19 => ⟨_, rfl, ?_⟩⟩
      have q19 : KeepT p H18 H19 := kt_same s19
      have d19 := dice_same2 d18 s19
      have b19 := b18.ext s19
      rw [show lnsOf is = putL n (.go (n + 1)) (lnsOf rs) from ei, alike_idle (by rw [List.length_map]; exact hn) (fun l hl => by obtain ⟨x, hx, rfl⟩ := List.mem_map.mp hl; rw [List.length_map]; exact ok.fine x hx) (by rw [List.length_map]; omega) (by omega)]
      refine iteF ?_
      have okx : ∀ xs : RowsL, xs.map Prod.snd = cutL n (lnsOf is) → RdOk xs := fun xs e => by
        obtain ⟨a, b⟩ := cut_drawn drI (by omega) e
        exact drawn_ok a (by omega)
      refine ⟨_, rfl, i, di, _, rfl, ((KeepT.trans q18 q19) _ _ (not_p d17 eI (fun _ z => by cases z)) eI (fun _ z => by cases z)), rd_no (by decide +kernel) (by decide +kernel), _, rfl, i, is, _, _, rfl, (hI.kt d17 (KeepT.trans q18 q19)), okJ, .int _, .inr ⟨n, rfl, by omega, okx, fun H20 x xs s20 nx ex hX => ?_⟩⟩
      have q20 : KeepT p H19 H20 := kt_same s20
      have d20 := dice_same2 d19 s20
      have b20 := b19.ext s20
      obtain ⟨dxx, Lx, Tx, px, eX, hLx, _⟩ := id hX
      have exr : lnsOf xs = lnsOf rs := by
        have e1 : lnsOf xs = cutL n (lnsOf is) := ex
        rw [e1, show lnsOf is = putL n (.go (n + 1)) (lnsOf rs) from ei, cut_put (by rw [List.length_map]; exact hn) fun y _ => mv_back y]
      refine ⟨_, rfl, x, dxx, _, .ref C, rfl, eX, rd_ty T.cl T.ii (hR.kt d2 (KeepT.trans q3 (KeepT.trans q4 (KeepT.trans q5 (KeepT.trans q6 (KeepT.trans q7 (KeepT.trans q8 (KeepT.trans q9 (KeepT.trans q10 (KeepT.trans q11 (KeepT.trans q12 (KeepT.trans q13 (KeepT.trans q14 (KeepT.trans q15 (KeepT.trans q16 (KeepT.trans q17 (KeepT.trans q18 (KeepT.trans q19 q20)))))))))))))))))), nf_self, x, xs, _, rfl, hX, okx xs ex, .inl ⟨r, rs, rfl, (hR.kt d2 (KeepT.trans q3 (KeepT.trans q4 (KeepT.trans q5 (KeepT.trans q6 (KeepT.trans q7 (KeepT.trans q8 (KeepT.trans q9 (KeepT.trans q10 (KeepT.trans q11 (KeepT.trans q12 (KeepT.trans q13 (KeepT.trans q14 (KeepT.trans q15 (KeepT.trans q16 (KeepT.trans q17 (KeepT.trans q18 (KeepT.trans q19 q20)))))))))))))))))), ok, _, rfl, _, rfl, ?_⟩⟩
      rw [decide_eq_true exr]
      refine iteF ?_
      refine ⟨_, rfl, _, _, rfl, rfl, _, rfl, (by show 1 ≤ sizeLine; decide), fun t21 n21 => ?_⟩
      have ne21 := dice_ne d20 n21
      have s21 := same_new (o := HO.tup [V.int 1]) n21
      have h21 : upd H20 t21 (HO.tup [V.int 1]) t21 = some (HO.tup [V.int 1]) := upd_same
      have q21 : KeepT p H20 (upd H20 t21 (HO.tup [V.int 1])) := kt_same s21
      have d21 := dice_upd (o := HO.tup [V.int 1]) d20 ne21
      have b21 := b20.ext s21
      generalize upd H20 t21 (HO.tup [V.int 1]) = H21 at s21 h21 q21 d21 b21 ⊢
      refine ⟨_, _, rfl, rfl, ⟨by decide, by decide +kernel⟩, (by show 7 ≤ sizeLine; decide), fun t22 n22 => ?_⟩
      have ne22 := dice_ne d21 n22
      have s22 := same_new (o := HO.tup (oddVs rs.length t21)) n22
      have h22 : upd H21 t22 (HO.tup (oddVs rs.length t21)) t22 = some (HO.tup (oddVs rs.length t21)) := upd_same
      have q22 : KeepT p H21 (upd H21 t22 (HO.tup (oddVs rs.length t21))) := kt_same s22
      have d22 := dice_upd (o := HO.tup (oddVs rs.length t21)) d21 ne22
      have b22 := b21.ext s22
      generalize upd H21 t22 (HO.tup (oddVs rs.length t21)) = H22 at s22 h22 q22 d22 b22 ⊢
      refine ⟨t22, rfl, ⟨_, SqT.of h22⟩, ?_⟩
      refine for_it (walk_tup (xs := oddVs rs.length t21)) (fun j σ H' => (∃ a b, σ = [some (.ref p), some (.ref L), some (.int (rs.length : Int)), some (.ref r), some (.int (n : Int)), some (.ref la), some (.ref m), some (.int (o : Int)), some (.ref v), some (.ref i), some (.ref D), none, a, b, none, none]) ∧ KeepT p H22 H' ∧ DiceAt H' p ∧ Tabs TS H') ⟨⟨_, _, rfl⟩, KeepT.refl, d22, b22⟩ (fun j σ H' _ hp => sqT_kt (SqT.of h22) d22 hp.2.1) ?_ ?_
      · rintro j v σ Hj H23 hj ⟨⟨a, b, rfl⟩, q23, d23, b23⟩ ⟨rfl, hv⟩
        obtain ⟨dv, tx, hfix⟩ := oddK_fix (K := K) (n := rs.length) (t := t21) (by omega) v (List.mem_of_getElem? hv)
        refine ⟨b23, fun H24 e24 b24 => ?_⟩
        have q24 : KeepT p H23 H24 := kt_ext e24
        have d24 := dice_ext d23 e24
        have hto1 := (KeepT.trans q22 (KeepT.trans q23 q24)) _ _ (not_p d21 h21 (fun _ z => by cases z)) h21 (fun _ z => by cases z)
        obtain ⟨hdv1, hn11, hn21, hsv1, hkv1⟩ := hfix _ hto1
        refine ⟨_, rfl, r, dx, _, rfl, ((KeepT.trans q3 (KeepT.trans q4 (KeepT.trans q5 (KeepT.trans q6 (KeepT.trans q7 (KeepT.trans q8 (KeepT.trans q9 (KeepT.trans q10 (KeepT.trans q11 (KeepT.trans q12 (KeepT.trans q13 (KeepT.trans q14 (KeepT.trans q15 (KeepT.trans q16 (KeepT.trans q17 (KeepT.trans q18 (KeepT.trans q19 (KeepT.trans q20 (KeepT.trans q21 (KeepT.trans q22 (KeepT.trans q23 q24))))))))))))))))))))) _ _ (not_p d2 eR (fun _ z => by cases z)) eR (fun _ z => by cases z)), rd_no (by decide +kernel) (by decide +kernel), _, rfl, r, rs, v, _, dv, rfl, (hR.kt d2 (KeepT.trans q3 (KeepT.trans q4 (KeepT.trans q5 (KeepT.trans q6 (KeepT.trans q7 (KeepT.trans q8 (KeepT.trans q9 (KeepT.trans q10 (KeepT.trans q11 (KeepT.trans q12 (KeepT.trans q13 (KeepT.trans q14 (KeepT.trans q15 (KeepT.trans q16 (KeepT.trans q17 (KeepT.trans q18 (KeepT.trans q19 (KeepT.trans q20 (KeepT.trans q21 (KeepT.trans q22 (KeepT.trans q23 q24)))))))))))))))))))))), ok, hdv1, .inl ⟨hn11, fun dd1 nd1 => .inl ⟨rfl, dd1, v, tx, rfl, upd_same, hsv1.up (same_new nd1), fun H25 l1 sx25 nl1 el1 => ?_⟩⟩⟩
        have sd1 := same_new (o := HO.xd [("value", v)]) nd1
        have s25 := sd1.trans sx25
        have nel1 := dice_ne (dice_same2 d24 sd1) nl1
        have q25 : KeepT p H24 H25 := kt_same s25
        have d25 := dice_same2 d24 s25
        have b25 := b24.ext s25
        refine ⟨(by show 1 ≤ sizeLine; decide), fun t26 n26 => ?_⟩
        have ne26 := dice_ne d25 n26
        have s26 := same_new (o := HO.lst [V.ref l1]) n26
        have h26 : upd H25 t26 (HO.lst [V.ref l1]) t26 = some (HO.lst [V.ref l1]) := upd_same
        have q26 : KeepT p H25 (upd H25 t26 (HO.lst [V.ref l1])) := kt_same s26
        have d26 := dice_upd (o := HO.lst [V.ref l1]) d25 ne26
        have b26 := b25.ext s26
        generalize upd H25 t26 (HO.lst [V.ref l1]) = H26 at s26 h26 q26 d26 b26 ⊢
        refine ⟨_, rfl, Or.inl ⟨rfl, _, SqL.of h26⟩, b26, fun H27 e27 b27 => ?_⟩
        have q27 : KeepT p H26 H27 := kt_ext e27
        have d27 := dice_ext d26 e27
        have hto2 := (KeepT.trans q22 (KeepT.trans q23 (KeepT.trans q24 (KeepT.trans q25 (KeepT.trans q26 q27))))) _ _ (not_p d21 h21 (fun _ z => by cases z)) h21 (fun _ z => by cases z)
        obtain ⟨hdv2, hn12, hn22, hsv2, hkv2⟩ := hfix _ hto2
        refine ⟨_, rfl, r, dx, _, rfl, ((KeepT.trans q3 (KeepT.trans q4 (KeepT.trans q5 (KeepT.trans q6 (KeepT.trans q7 (KeepT.trans q8 (KeepT.trans q9 (KeepT.trans q10 (KeepT.trans q11 (KeepT.trans q12 (KeepT.trans q13 (KeepT.trans q14 (KeepT.trans q15 (KeepT.trans q16 (KeepT.trans q17 (KeepT.trans q18 (KeepT.trans q19 (KeepT.trans q20 (KeepT.trans q21 (KeepT.trans q22 (KeepT.trans q23 (KeepT.trans q24 (KeepT.trans q25 (KeepT.trans q26 q27)))))))))))))))))))))))) _ _ (not_p d2 eR (fun _ z => by cases z)) eR (fun _ z => by cases z)), rd_no (by decide +kernel) (by decide +kernel), _, rfl, r, rs, v, dv, rfl, (hR.kt d2 (KeepT.trans q3 (KeepT.trans q4 (KeepT.trans q5 (KeepT.trans q6 (KeepT.trans q7 (KeepT.trans q8 (KeepT.trans q9 (KeepT.trans q10 (KeepT.trans q11 (KeepT.trans q12 (KeepT.trans q13 (KeepT.trans q14 (KeepT.trans q15 (KeepT.trans q16 (KeepT.trans q17 (KeepT.trans q18 (KeepT.trans q19 (KeepT.trans q20 (KeepT.trans q21 (KeepT.trans q22 (KeepT.trans q23 (KeepT.trans q24 (KeepT.trans q25 (KeepT.trans q26 q27))))))))))))))))))))))))), ok, hdv2, .inl ⟨hn22, fun dd2 nd2 => .inl ⟨rfl, dd2, v, tx, rfl, upd_same, hsv2.up (same_new nd2), fun H28 l2 sx28 nl2 el2 => ?_⟩⟩⟩
        have sd2 := same_new (o := HO.xd [("value", v)]) nd2
        have s28 := sd2.trans sx28
        have nel2 := dice_ne (dice_same2 d27 sd2) nl2
        have q28 : KeepT p H27 H28 := kt_same s28
        have d28 := dice_same2 d27 s28
        have b28 := b27.ext s28
        have eT := (lst_kt h26 ne26 (KeepT.trans q27 q28))
        refine ⟨t26, _, _, rfl, rfl, eT, (by show 1 < sizeLine; decide), ?_⟩
        have el1n : upd H28 t26 (HO.lst ([V.ref l1] ++ [V.ref l2])) l1 = some (.lst [.str "number", .str tx]) := by rw [upd_ne (ne_of_none el1 n26)]; exact lst_kt el1 nel1 (KeepT.trans q26 (KeepT.trans q27 q28))
        have el2n : upd H28 t26 (HO.lst ([V.ref l1] ++ [V.ref l2])) l2 = some (.lst [.str "number", .str tx]) := by rw [upd_ne (fun z => by have e2 := el2; rw [z, eT] at e2; cases e2)]; exact el2
        have hT2 : upd H28 t26 (HO.lst ([V.ref l1] ++ [V.ref l2])) t26 = some (HO.lst ([V.ref l1] ++ [V.ref l2])) := upd_same
        have q29 : KeepT p H25 (upd H28 t26 (HO.lst ([V.ref l1] ++ [V.ref l2]))) := kt_to n26 (KeepT.trans q26 (KeepT.trans q27 q28))
        have d29 := dice_upd (o := HO.lst ([V.ref l1] ++ [V.ref l2])) d28 ne26
        have b29 := tabs_list (ys := [V.ref l1] ++ [V.ref l2]) b28 eT
        generalize upd H28 t26 (HO.lst ([V.ref l1] ++ [V.ref l2])) = H29 at el1n el2n hT2 q29 d29 b29 ⊢
        have hto3 := (KeepT.trans q22 (KeepT.trans q23 (KeepT.trans q24 (KeepT.trans q25 q29)))) _ _ (not_p d21 h21 (fun _ z => by cases z)) h21 (fun _ z => by cases z)
        obtain ⟨hdv3, hn13, hn23, hsv3, hkv3⟩ := hfix _ hto3
        refine ⟨_, rfl, _, rfl, v, tx, rfl, hsv3, (by show 2 ≤ sizeLine; decide), fun t30 n30 => ?_⟩
        have ne30 := dice_ne d29 n30
        have s30 := same_new (o := HO.lst [V.str "number", V.str tx]) n30
        have h30 : upd H29 t30 (HO.lst [V.str "number", V.str tx]) t30 = some (HO.lst [V.str "number", V.str tx]) := upd_same
        have q30 : KeepT p H29 (upd H29 t30 (HO.lst [V.str "number", V.str tx])) := kt_same s30
        have d30 := dice_upd (o := HO.lst [V.str "number", V.str tx]) d29 ne30
        have b30 := b29.ext s30
        generalize upd H29 t30 (HO.lst [V.str "number", V.str tx]) = H30 at s30 h30 q30 d30 b30 ⊢
        refine ⟨(by show 1 ≤ sizeLine; decide), fun t31 n31 => ?_⟩
        have ne31 := dice_ne d30 n31
        have s31 := same_new (o := HO.lst [V.ref t30]) n31
        have h31 : upd H30 t31 (HO.lst [V.ref t30]) t31 = some (HO.lst [V.ref t30]) := upd_same
        have q31 : KeepT p H30 (upd H30 t31 (HO.lst [V.ref t30])) := kt_same s31
        have d31 := dice_upd (o := HO.lst [V.ref t30]) d30 ne31
        have b31 := b30.ext s31
        generalize upd H30 t31 (HO.lst [V.ref t30]) = H31 at s31 h31 q31 d31 b31 ⊢
        refine ⟨t31, 2, _, rfl, rfl, h31, by decide, by decide, (by show 1 * 2 ≤ sizeLine; decide), fun t32 n32 => ?_⟩
        rw [show (List.replicate (Int.toNat 2) [V.ref t30]).flatten = [V.ref t30, V.ref t30] from rfl]
        skip
        have ne32 := dice_ne d31 n32
        have s32 := same_new (o := HO.lst [V.ref t30, V.ref t30]) n32
        have h32 : upd H31 t32 (HO.lst [V.ref t30, V.ref t30]) t32 = some (HO.lst [V.ref t30, V.ref t30]) := upd_same
        have q32 : KeepT p H31 (upd H31 t32 (HO.lst [V.ref t30, V.ref t30])) := kt_same s32
        have d32 := dice_upd (o := HO.lst [V.ref t30, V.ref t30]) d31 ne32
        have b32 := b31.ext s32
        generalize upd H31 t32 (HO.lst [V.ref t30, V.ref t30]) = H32 at s32 h32 q32 d32 b32 ⊢
        have sh : SeqAt.shaped (.list [.list [.str "number", .str tx], .list [.str "number", .str tx]]) = true := by
          have w1 : PyData.strOk "number" = true := by decide +kernel
          show (PyData.canLay0 (.list [.list [.str "number", .str tx], .list [.str "number", .str tx]]) && decide (PyData.depth (.list [.list [.str "number", .str tx], .list [.str "number", .str tx]]) ≤ 64)) = true
          simp [PyData.canLay0, PyData.canLayAll0, PyData.depth, PyData.depthAll, w1, hkv3]
        refine ⟨.list [.list [.str "number", .str tx], .list [.str "number", .str tx]], .list [.list [.str "number", .str tx], .list [.str "number", .str tx]], .lst (SqL.of (lst_kt hT2 ne26 (KeepT.trans q30 (KeepT.trans q31 q32)))) (.cons (.lst (SqL.of (lst_kt el1n nel1 (KeepT.trans q30 (KeepT.trans q31 q32)))) (.cons (.str _) (.cons (.str _) .nil))) (.cons (.lst (SqL.of (lst_kt el2n nel2 (KeepT.trans q30 (KeepT.trans q31 q32)))) (.cons (.str _) (.cons (.str _) .nil))) .nil)), .lst (SqL.of h32) (.cons (.lst (SqL.of (lst_kt h30 ne30 (KeepT.trans q31 q32))) (.cons (.str _) (.cons (.str _) .nil))) (.cons (.lst (SqL.of (lst_kt h30 ne30 (KeepT.trans q31 q32))) (.cons (.str _) (.cons (.str _) .nil))) .nil)), sh, sh, _, rfl, ?_⟩
        rw [SeqAt.eqv_refl _ (SeqAt.canLay_of_shaped sh)]
        exact iteF ⟨⟨_, _, rfl⟩, (KeepT.trans q23 (KeepT.trans q24 (KeepT.trans q25 (KeepT.trans q29 (KeepT.trans q30 (KeepT.trans q31 q32)))))), d32, b32⟩
      rintro σ H33 ⟨⟨a1, b1, rfl⟩, q33, d33, b33⟩
      refine ⟨_, rfl, _, _, rfl, rfl, (by show 2 ≤ sizeLine; decide), fun t34 n34 => ?_⟩
      have ne34 := dice_ne d33 n34
      have s34 := same_new (o := HO.tup [V.str "go", V.int ((rs.length : Int) + 2)]) n34
      have h34 : upd H33 t34 (HO.tup [V.str "go", V.int ((rs.length : Int) + 2)]) t34 = some (HO.tup [V.str "go", V.int ((rs.length : Int) + 2)]) := upd_same
      have q34 : KeepT p H33 (upd H33 t34 (HO.tup [V.str "go", V.int ((rs.length : Int) + 2)])) := kt_same s34
      have d34 := dice_upd (o := HO.tup [V.str "go", V.int ((rs.length : Int) + 2)]) d33 ne34
      have b34 := b33.ext s34
      generalize upd H33 t34 (HO.tup [V.str "go", V.int ((rs.length : Int) + 2)]) = H34 at s34 h34 q34 d34 b34 ⊢
      refine ⟨(by show 1 ≤ sizeLine; decide), fun t35 n35 => ?_⟩
      have ne35 := dice_ne d34 n35
      have s35 := same_new (o := HO.tup [V.str "go"]) n35
      have h35 : upd H34 t35 (HO.tup [V.str "go"]) t35 = some (HO.tup [V.str "go"]) := upd_same
      have q35 : KeepT p H34 (upd H34 t35 (HO.tup [V.str "go"])) := kt_same s35
      have d35 := dice_upd (o := HO.tup [V.str "go"]) d34 ne35
      have b35 := b34.ext s35
      generalize upd H34 t35 (HO.tup [V.str "go"]) = H35 at s35 h35 q35 d35 b35 ⊢
      refine ⟨(by show 2 ≤ sizeLine; decide), fun t36 n36 => ?_⟩
      have ne36 := dice_ne d35 n36
      have s36 := same_new (o := HO.lst [V.str "go", V.int 0]) n36
      have h36 : upd H35 t36 (HO.lst [V.str "go", V.int 0]) t36 = some (HO.lst [V.str "go", V.int 0]) := upd_same
      have q36 : KeepT p H35 (upd H35 t36 (HO.lst [V.str "go", V.int 0])) := kt_same s36
      have d36 := dice_upd (o := HO.lst [V.str "go", V.int 0]) d35 ne36
      have b36 := b35.ext s36
      generalize upd H35 t36 (HO.lst [V.str "go", V.int 0]) = H36 at s36 h36 q36 d36 b36 ⊢
      refine ⟨(by show 2 ≤ sizeLine; decide), fun t37 n37 => ?_⟩
      have ne37 := dice_ne d36 n37
      have s37 := same_new (o := HO.tup [V.str "read", V.str "item"]) n37
      have h37 : upd H36 t37 (HO.tup [V.str "read", V.str "item"]) t37 = some (HO.tup [V.str "read", V.str "item"]) := upd_same
      have q37 : KeepT p H36 (upd H36 t37 (HO.tup [V.str "read", V.str "item"])) := kt_same s37
      have d37 := dice_upd (o := HO.tup [V.str "read", V.str "item"]) d36 ne37
      have b37 := b36.ext s37
      generalize upd H36 t37 (HO.tup [V.str "read", V.str "item"]) = H37 at s37 h37 q37 d37 b37 ⊢
      refine ⟨(by show 4 ≤ sizeLine; decide), fun t38 n38 => ?_⟩
      have ne38 := dice_ne d37 n38
      have s38 := same_new (o := HO.tup [V.str "if", V.str "item", V.str "live", V.bl true]) n38
      have h38 : upd H37 t38 (HO.tup [V.str "if", V.str "item", V.str "live", V.bl true]) t38 = some (HO.tup [V.str "if", V.str "item", V.str "live", V.bl true]) := upd_same
      have q38 : KeepT p H37 (upd H37 t38 (HO.tup [V.str "if", V.str "item", V.str "live", V.bl true])) := kt_same s38
      have d38 := dice_upd (o := HO.tup [V.str "if", V.str "item", V.str "live", V.bl true]) d37 ne38
      have b38 := b37.ext s38
      generalize upd H37 t38 (HO.tup [V.str "if", V.str "item", V.str "live", V.bl true]) = H38 at s38 h38 q38 d38 b38 ⊢
      refine ⟨(by show 2 ≤ sizeLine; decide), fun t39 n39 => ?_⟩
      have ne39 := dice_ne d38 n39
      have s39 := same_new (o := HO.tup [V.str "go", V.bl true]) n39
      have h39 : upd H38 t39 (HO.tup [V.str "go", V.bl true]) t39 = some (HO.tup [V.str "go", V.bl true]) := upd_same
      have q39 : KeepT p H38 (upd H38 t39 (HO.tup [V.str "go", V.bl true])) := kt_same s39
      have d39 := dice_upd (o := HO.tup [V.str "go", V.bl true]) d38 ne39
      have b39 := b38.ext s39
      generalize upd H38 t39 (HO.tup [V.str "go", V.bl true]) = H39 at s39 h39 q39 d39 b39 ⊢
      refine ⟨(by show 7 ≤ sizeLine; decide), fun t40 n40 => ?_⟩
      have ne40 := dice_ne d39 n40
      have s40 := same_new (o := HO.lst [V.non, V.ref t34, V.ref t35, V.ref t36, V.ref t37, V.ref t38, V.ref t39]) n40
      have h40 : upd H39 t40 (HO.lst [V.non, V.ref t34, V.ref t35, V.ref t36, V.ref t37, V.ref t38, V.ref t39]) t40 = some (HO.lst [V.non, V.ref t34, V.ref t35, V.ref t36, V.ref t37, V.ref t38, V.ref t39]) := upd_same
      have q40 : KeepT p H39 (upd H39 t40 (HO.lst [V.non, V.ref t34, V.ref t35, V.ref t36, V.ref t37, V.ref t38, V.ref t39])) := kt_same s40
      have d40 := dice_upd (o := HO.lst [V.non, V.ref t34, V.ref t35, V.ref t36, V.ref t37, V.ref t38, V.ref t39]) d39 ne40
      have b40 := b39.ext s40
      generalize upd H39 t40 (HO.lst [V.non, V.ref t34, V.ref t35, V.ref t36, V.ref t37, V.ref t38, V.ref t39]) = H40 at s40 h40 q40 d40 b40 ⊢
      have wrong : ∀ x ∈ [V.non, V.ref t34, V.ref t35, V.ref t36, V.ref t37, V.ref t38, V.ref t39], ∃ e, (∀ Hz, KeepT p H40 Hz → Dp K Hz x e) ∧ SeqAt.shaped e = true ∧ Mod_ e ∧ lineD e (rs.length + 1 : Nat) = false := by
        intro x hx
        simp only [List.mem_cons, List.not_mem_nil, or_false] at hx
        rcases hx with rfl | rfl | rfl | rfl | rfl | rfl | rfl
        · exact ⟨.none, fun _ _ => .non, by decide +kernel, mod_no2 (fun _ e => by cases e), rfl⟩
        · exact ⟨.tuple [.str "go", .int ((rs.length : Int) + 2)], fun Hz kz => .tup (sqT_kt (sqT_kt (SqT.of h34) d34 (KeepT.trans q35 (KeepT.trans q36 (KeepT.trans q37 (KeepT.trans q38 (KeepT.trans q39 q40)))))) d40 kz) (.cons (.str _) (.cons (.int _) .nil)), goInt_shaped, mod_tup2 rfl (by simp), wr_go⟩
        · exact ⟨.tuple [.str "go"], fun Hz kz => .tup (sqT_kt (sqT_kt (SqT.of h35) d35 (KeepT.trans q36 (KeepT.trans q37 (KeepT.trans q38 (KeepT.trans q39 q40))))) d40 kz) (.cons (.str _) .nil), by decide +kernel, mod_tup2 (by decide +kernel) (by simp), wr_one⟩
        · exact ⟨.list [.str "go", .int 0], fun Hz kz => .lst (SqL.of (lst_kt (lst_kt h36 ne36 (KeepT.trans q37 (KeepT.trans q38 (KeepT.trans q39 q40)))) ne36 kz)) (.cons (.str _) (.cons (.int _) .nil)), by decide +kernel, mod_no2 (fun _ e => by cases e), rfl⟩
        · exact ⟨.tuple [.str "read", .str "item"], fun Hz kz => .tup (sqT_kt (sqT_kt (SqT.of h37) d37 (KeepT.trans q38 (KeepT.trans q39 q40))) d40 kz) (.cons (.str _) (.cons (.str _) .nil)), by decide +kernel, mod_tup2 (by decide +kernel) (by simp), wr_read⟩
        · exact ⟨.tuple [.str "if", .str "item", .str "live", .bool true], fun Hz kz => .tup (sqT_kt (sqT_kt (SqT.of h38) d38 (KeepT.trans q39 q40)) d40 kz) (.cons (.str _) (.cons (.str _) (.cons (.str _) (.cons (.bl _) .nil)))), by decide +kernel, mod_tup2 (by decide +kernel) (by simp), wr_if⟩
        · exact ⟨.tuple [.str "go", .bool true], fun Hz kz => .tup (sqT_kt (sqT_kt (SqT.of h39) d39 q40) d40 kz) (.cons (.str _) (.cons (.bl _) .nil)), by decide +kernel, mod_tup2 (by decide +kernel) (by simp), wr_gob⟩
      refine ⟨_, rfl, _, rfl, p, t40, _, rfl, d40, h40, ne40, (by show 0 < 7; decide), (by show 7 < 1000; decide), fun ix xw ya yb yc hxw hya => ?_⟩
      have k41 : Keep p H40 (upd H40 p (HO.lst [V.int ya, V.int yb, V.int yc])) := keep_upd
      have d41 : DiceAt (upd H40 p (HO.lst [V.int ya, V.int yb, V.int yc])) p := .upd hya
      generalize upd H40 p (HO.lst [V.int ya, V.int yb, V.int yc]) = H41 at k41 d41 ⊢
      have q41 : KeepT p H40 H41 := kt_keep k41
      have b41 := tabs_keep b40 d40 k41
      obtain ⟨we, hwe, wsh, wmd, wbad⟩ := wrong xw (List.mem_of_getElem? hxw)
      refine ⟨b41, fun H42 e42 b42 => ?_⟩
      have q42 : KeepT p H41 H42 := kt_ext e42
      have d42 := dice_ext d41 e42
      refine ⟨_, rfl, r, dx, _, rfl, ((KeepT.trans q3 (KeepT.trans q4 (KeepT.trans q5 (KeepT.trans q6 (KeepT.trans q7 (KeepT.trans q8 (KeepT.trans q9 (KeepT.trans q10 (KeepT.trans q11 (KeepT.trans q12 (KeepT.trans q13 (KeepT.trans q14 (KeepT.trans q15 (KeepT.trans q16 (KeepT.trans q17 (KeepT.trans q18 (KeepT.trans q19 (KeepT.trans q20 (KeepT.trans q21 (KeepT.trans q22 (KeepT.trans q33 (KeepT.trans q34 (KeepT.trans q35 (KeepT.trans q36 (KeepT.trans q37 (KeepT.trans q38 (KeepT.trans q39 (KeepT.trans q40 (KeepT.trans q41 q42))))))))))))))))))))))))))))) _ _ (not_p d2 eR (fun _ z => by cases z)) eR (fun _ z => by cases z)), rd_no (by decide +kernel) (by decide +kernel), _, rfl, _, rfl, r, rs, _, _, _, rfl, (hR.kt d2 (KeepT.trans q3 (KeepT.trans q4 (KeepT.trans q5 (KeepT.trans q6 (KeepT.trans q7 (KeepT.trans q8 (KeepT.trans q9 (KeepT.trans q10 (KeepT.trans q11 (KeepT.trans q12 (KeepT.trans q13 (KeepT.trans q14 (KeepT.trans q15 (KeepT.trans q16 (KeepT.trans q17 (KeepT.trans q18 (KeepT.trans q19 (KeepT.trans q20 (KeepT.trans q21 (KeepT.trans q22 (KeepT.trans q33 (KeepT.trans q34 (KeepT.trans q35 (KeepT.trans q36 (KeepT.trans q37 (KeepT.trans q38 (KeepT.trans q39 (KeepT.trans q40 (KeepT.trans q41 q42)))))))))))))))))))))))))))))), ok, .int _, .inr ⟨n, rfl, hn, by omega, .inr ⟨we, hwe _ (KeepT.trans q41 q42), wsh, wmd, wbad, fun Hx sx0 => .inr ⟨rfl, fun H43 u1 sx1 nu1 eu1 => ?_⟩⟩⟩⟩
      have s43 := sx0.trans sx1
      have neu1 := dice_ne (dice_same2 d42 sx0) nu1
      have q43 : KeepT p H42 H43 := kt_same s43
      have d43 := dice_same2 d42 s43
      have b43 := b42.ext s43
      refine ⟨(by show 1 ≤ sizeLine; decide), fun t44 n44 => ?_⟩
      have ne44 := dice_ne d43 n44
      have s44 := same_new (o := HO.lst [V.ref u1]) n44
      have h44 : upd H43 t44 (HO.lst [V.ref u1]) t44 = some (HO.lst [V.ref u1]) := upd_same
      have q44 : KeepT p H43 (upd H43 t44 (HO.lst [V.ref u1])) := kt_same s44
      have d44 := dice_upd (o := HO.lst [V.ref u1]) d43 ne44
      have b44 := b43.ext s44
      generalize upd H43 t44 (HO.lst [V.ref u1]) = H44 at s44 h44 q44 d44 b44 ⊢
      refine ⟨_, rfl, Or.inl ⟨rfl, _, SqL.of h44⟩, b44, fun H45 e45 b45 => ?_⟩
      have q45 : KeepT p H44 H45 := kt_ext e45
      have d45 := dice_ext d44 e45
      obtain ⟨kz1, kz2⟩ := numb_ok rs.length (by omega)
      have shz : ∀ Hz : Hp, Shows Hz (V.int (rs.length : Int)) (toString (rs.length : Int)) := fun Hz => .inr (.inr (.inl ⟨_, rfl, kz2, rfl⟩))
      have bdz : numD (.int (rs.length : Int)) ((rs.length : Int) - 1) = false := by
        show (decide (0 ≤ (rs.length : Int)) && decide ((rs.length : Int) ≤ (rs.length : Int) - 1)) = false
        rw [Bool.and_eq_false_iff, decide_eq_false_iff_not, decide_eq_false_iff_not]; omega
      refine ⟨_, rfl, r, dx, _, rfl, ((KeepT.trans q3 (KeepT.trans q4 (KeepT.trans q5 (KeepT.trans q6 (KeepT.trans q7 (KeepT.trans q8 (KeepT.trans q9 (KeepT.trans q10 (KeepT.trans q11 (KeepT.trans q12 (KeepT.trans q13 (KeepT.trans q14 (KeepT.trans q15 (KeepT.trans q16 (KeepT.trans q17 (KeepT.trans q18 (KeepT.trans q19 (KeepT.trans q20 (KeepT.trans q21 (KeepT.trans q22 (KeepT.trans q33 (KeepT.trans q34 (KeepT.trans q35 (KeepT.trans q36 (KeepT.trans q37 (KeepT.trans q38 (KeepT.trans q39 (KeepT.trans q40 (KeepT.trans q41 (KeepT.trans q42 (KeepT.trans q43 (KeepT.trans q44 q45)))))))))))))))))))))))))))))))) _ _ (not_p d2 eR (fun _ z => by cases z)) eR (fun _ z => by cases z)), rd_no (by decide +kernel) (by decide +kernel), _, rfl, r, rs, _, _, rfl, (hR.kt d2 (KeepT.trans q3 (KeepT.trans q4 (KeepT.trans q5 (KeepT.trans q6 (KeepT.trans q7 (KeepT.trans q8 (KeepT.trans q9 (KeepT.trans q10 (KeepT.trans q11 (KeepT.trans q12 (KeepT.trans q13 (KeepT.trans q14 (KeepT.trans q15 (KeepT.trans q16 (KeepT.trans q17 (KeepT.trans q18 (KeepT.trans q19 (KeepT.trans q20 (KeepT.trans q21 (KeepT.trans q22 (KeepT.trans q33 (KeepT.trans q34 (KeepT.trans q35 (KeepT.trans q36 (KeepT.trans q37 (KeepT.trans q38 (KeepT.trans q39 (KeepT.trans q40 (KeepT.trans q41 (KeepT.trans q42 (KeepT.trans q43 (KeepT.trans q44 q45))))))))))))))))))))))))))))))))), ok, .int _, .inl ⟨bdz, fun ddz ndz => .inl ⟨rfl, ddz, _, _, rfl, upd_same, shz _, fun H46 u2 sx2 nu2 eu2 => ?_⟩⟩⟩
      have sdz := same_new (o := HO.xd [("value", V.int (rs.length : Int))]) ndz
      have s46 := sdz.trans sx2
      have neu2 := dice_ne (dice_same2 d45 sdz) nu2
      have q46 : KeepT p H45 H46 := kt_same s46
      have d46 := dice_same2 d45 s46
      have b46 := b45.ext s46
      have eT := (lst_kt h44 ne44 (KeepT.trans q45 q46))
      refine ⟨t44, _, _, rfl, rfl, eT, (by show 1 < sizeLine; decide), ?_⟩
      have eu1n : upd H46 t44 (HO.lst ([V.ref u1] ++ [V.ref u2])) u1 = some (.lst [.str "reader"]) := by rw [upd_ne (ne_of_none eu1 n44)]; exact lst_kt eu1 neu1 (KeepT.trans q44 (KeepT.trans q45 q46))
      have eu2n : upd H46 t44 (HO.lst ([V.ref u1] ++ [V.ref u2])) u2 = some (.lst [.str "number", .str (toString (rs.length : Int))]) := by rw [upd_ne (fun z => by have e2 := eu2; rw [z, eT] at e2; cases e2)]; exact eu2
      have hT2 : upd H46 t44 (HO.lst ([V.ref u1] ++ [V.ref u2])) t44 = some (HO.lst ([V.ref u1] ++ [V.ref u2])) := upd_same
      have q47 : KeepT p H43 (upd H46 t44 (HO.lst ([V.ref u1] ++ [V.ref u2]))) := kt_to n44 (KeepT.trans q44 (KeepT.trans q45 q46))
      have d47 := dice_upd (o := HO.lst ([V.ref u1] ++ [V.ref u2])) d46 ne44
      have b47 := tabs_list (ys := [V.ref u1] ++ [V.ref u2]) b46 eT
      generalize upd H46 t44 (HO.lst ([V.ref u1] ++ [V.ref u2])) = H47 at eu1n eu2n hT2 q47 d47 b47 ⊢
      refine ⟨_, rfl, (by show 1 ≤ sizeLine; decide), fun t48 n48 => ?_⟩
      have ne48 := dice_ne d47 n48
      have s48 := same_new (o := HO.lst [V.str "reader"]) n48
      have h48 : upd H47 t48 (HO.lst [V.str "reader"]) t48 = some (HO.lst [V.str "reader"]) := upd_same
      have q48 : KeepT p H47 (upd H47 t48 (HO.lst [V.str "reader"])) := kt_same s48
      have d48 := dice_upd (o := HO.lst [V.str "reader"]) d47 ne48
      have b48 := b47.ext s48
      generalize upd H47 t48 (HO.lst [V.str "reader"]) = H48 at s48 h48 q48 d48 b48 ⊢
      refine ⟨_, rfl, _, _, rfl, shz _, (by show 2 ≤ sizeLine; decide), fun t49 n49 => ?_⟩
      have ne49 := dice_ne d48 n49
      have s49 := same_new (o := HO.lst [V.str "number", V.str (toString (rs.length : Int))]) n49
      have h49 : upd H48 t49 (HO.lst [V.str "number", V.str (toString (rs.length : Int))]) t49 = some (HO.lst [V.str "number", V.str (toString (rs.length : Int))]) := upd_same
      have q49 : KeepT p H48 (upd H48 t49 (HO.lst [V.str "number", V.str (toString (rs.length : Int))])) := kt_same s49
      have d49 := dice_upd (o := HO.lst [V.str "number", V.str (toString (rs.length : Int))]) d48 ne49
      have b49 := b48.ext s49
      generalize upd H48 t49 (HO.lst [V.str "number", V.str (toString (rs.length : Int))]) = H49 at s49 h49 q49 d49 b49 ⊢
      refine ⟨(by show 2 ≤ sizeLine; decide), fun t50 n50 => ?_⟩
      have ne50 := dice_ne d49 n50
      have s50 := same_new (o := HO.lst [V.ref t48, V.ref t49]) n50
      have h50 : upd H49 t50 (HO.lst [V.ref t48, V.ref t49]) t50 = some (HO.lst [V.ref t48, V.ref t49]) := upd_same
      have q50 : KeepT p H49 (upd H49 t50 (HO.lst [V.ref t48, V.ref t49])) := kt_same s50
      have d50 := dice_upd (o := HO.lst [V.ref t48, V.ref t49]) d49 ne50
      have b50 := b49.ext s50
      generalize upd H49 t50 (HO.lst [V.ref t48, V.ref t49]) = H50 at s50 h50 q50 d50 b50 ⊢
      have sh : SeqAt.shaped (.list [.list [.str "reader"], .list [.str "number", .str (toString (rs.length : Int))]]) = true := by
        have w1 : PyData.strOk "number" = true := by decide +kernel
        have w2 : PyData.strOk "reader" = true := by decide +kernel
        have kk := kz1
        generalize toString (rs.length : Int) = zz at kk ⊢
        show (PyData.canLay0 _ && decide (PyData.depth _ ≤ 64)) = true
        simp [PyData.canLay0, PyData.canLayAll0, PyData.depth, PyData.depthAll, w1, w2, kk]
      refine ⟨.list [.list [.str "reader"], .list [.str "number", .str (toString (rs.length : Int))]], .list [.list [.str "reader"], .list [.str "number", .str (toString (rs.length : Int))]], .lst (SqL.of (lst_kt hT2 ne44 (KeepT.trans q48 (KeepT.trans q49 q50)))) (.cons (.lst (SqL.of (lst_kt eu1n neu1 (KeepT.trans q48 (KeepT.trans q49 q50)))) (.cons (.str _) .nil)) (.cons (.lst (SqL.of (lst_kt eu2n neu2 (KeepT.trans q48 (KeepT.trans q49 q50)))) (.cons (.str _) (.cons (.str _) .nil))) .nil)), .lst (SqL.of h50) (.cons (.lst (SqL.of (lst_kt h48 ne48 (KeepT.trans q49 q50))) (.cons (.str _) .nil)) (.cons (.lst (SqL.of (lst_kt h49 ne49 q50)) (.cons (.str _) (.cons (.str _) .nil))) .nil)), sh, sh, _, rfl, ?_⟩
      rw [SeqAt.eqv_refl _ (SeqAt.canLay_of_shaped sh)]
      refine iteT ?_
      refine ⟨_, rfl, r, dx, _, rfl, ((KeepT.trans q3 (KeepT.trans q4 (KeepT.trans q5 (KeepT.trans q6 (KeepT.trans q7 (KeepT.trans q8 (KeepT.trans q9 (KeepT.trans q10 (KeepT.trans q11 (KeepT.trans q12 (KeepT.trans q13 (KeepT.trans q14 (KeepT.trans q15 (KeepT.trans q16 (KeepT.trans q17 (KeepT.trans q18 (KeepT.trans q19 (KeepT.trans q20 (KeepT.trans q21 (KeepT.trans q22 (KeepT.trans q33 (KeepT.trans q34 (KeepT.trans q35 (KeepT.trans q36 (KeepT.trans q37 (KeepT.trans q38 (KeepT.trans q39 (KeepT.trans q40 (KeepT.trans q41 (KeepT.trans q42 (KeepT.trans q43 (KeepT.trans q47 (KeepT.trans q48 (KeepT.trans q49 q50)))))))))))))))))))))))))))))))))) _ _ (not_p d2 eR (fun _ z => by cases z)) eR (fun _ z => by cases z)), r, dx, _, _, rfl, ((KeepT.trans q3 (KeepT.trans q4 (KeepT.trans q5 (KeepT.trans q6 (KeepT.trans q7 (KeepT.trans q8 (KeepT.trans q9 (KeepT.trans q10 (KeepT.trans q11 (KeepT.trans q12 (KeepT.trans q13 (KeepT.trans q14 (KeepT.trans q15 (KeepT.trans q16 (KeepT.trans q17 (KeepT.trans q18 (KeepT.trans q19 (KeepT.trans q20 (KeepT.trans q21 (KeepT.trans q22 (KeepT.trans q33 (KeepT.trans q34 (KeepT.trans q35 (KeepT.trans q36 (KeepT.trans q37 (KeepT.trans q38 (KeepT.trans q39 (KeepT.trans q40 (KeepT.trans q41 (KeepT.trans q42 (KeepT.trans q43 (KeepT.trans q47 (KeepT.trans q48 (KeepT.trans q49 q50)))))))))))))))))))))))))))))))))) _ _ (not_p d2 eR (fun _ z => by cases z)) eR (fun _ z => by cases z)), rd_lines Lr Tr, _, rfl, _, _, (hLr.kt d2 (KeepT.trans q3 (KeepT.trans q4 (KeepT.trans q5 (KeepT.trans q6 (KeepT.trans q7 (KeepT.trans q8 (KeepT.trans q9 (KeepT.trans q10 (KeepT.trans q11 (KeepT.trans q12 (KeepT.trans q13 (KeepT.trans q14 (KeepT.trans q15 (KeepT.trans q16 (KeepT.trans q17 (KeepT.trans q18 (KeepT.trans q19 (KeepT.trans q20 (KeepT.trans q21 (KeepT.trans q22 (KeepT.trans q33 (KeepT.trans q34 (KeepT.trans q35 (KeepT.trans q36 (KeepT.trans q37 (KeepT.trans q38 (KeepT.trans q39 (KeepT.trans q40 (KeepT.trans q41 (KeepT.trans q42 (KeepT.trans q43 (KeepT.trans q47 (KeepT.trans q48 (KeepT.trans q49 q50))))))))))))))))))))))))))))))))))).dp, (hL.kt d1 (KeepT.trans q2 (KeepT.trans q3 (KeepT.trans q4 (KeepT.trans q5 (KeepT.trans q6 (KeepT.trans q7 (KeepT.trans q8 (KeepT.trans q9 (KeepT.trans q10 (KeepT.trans q11 (KeepT.trans q12 (KeepT.trans q13 (KeepT.trans q14 (KeepT.trans q15 (KeepT.trans q16 (KeepT.trans q17 (KeepT.trans q18 (KeepT.trans q19 (KeepT.trans q20 (KeepT.trans q21 (KeepT.trans q22 (KeepT.trans q33 (KeepT.trans q34 (KeepT.trans q35 (KeepT.trans q36 (KeepT.trans q37 (KeepT.trans q38 (KeepT.trans q39 (KeepT.trans q40 (KeepT.trans q41 (KeepT.trans q42 (KeepT.trans q43 (KeepT.trans q47 (KeepT.trans q48 (KeepT.trans q49 q50)))))))))))))))))))))))))))))))))))).dp, dls_shaped safe, dls_shaped safe, ?_⟩
      rw [dls_eqv, decide_eq_true rfl]
      exact k _ (KeepT.trans q1 (KeepT.trans q2 (KeepT.trans q3 (KeepT.trans q4 (KeepT.trans q5 (KeepT.trans q6 (KeepT.trans q7 (KeepT.trans q8 (KeepT.trans q9 (KeepT.trans q10 (KeepT.trans q11 (KeepT.trans q12 (KeepT.trans q13 (KeepT.trans q14 (KeepT.trans q15 (KeepT.trans q16 (KeepT.trans q17 (KeepT.trans q18 (KeepT.trans q19 (KeepT.trans q20 (KeepT.trans q21 (KeepT.trans q22 (KeepT.trans q33 (KeepT.trans q34 (KeepT.trans q35 (KeepT.trans q36 (KeepT.trans q37 (KeepT.trans q38 (KeepT.trans q39 (KeepT.trans q40 (KeepT.trans q41 (KeepT.trans q42 (KeepT.trans q43 (KeepT.trans q47 (KeepT.trans q48 (KeepT.trans q49 q50)))))))))))))))))))))))))))))))))))) d50 b50
    · skip
      refine ⟨_, rfl, r, dx, _, rfl, ((KeepT.trans q3 (KeepT.trans q4 (KeepT.trans q5 (KeepT.trans q6 (KeepT.trans q7 (KeepT.trans q8 (KeepT.trans q9 (KeepT.trans q10 q11)))))))) _ _ (not_p d2 eR (fun _ z => by cases z)) eR (fun _ z => by cases z)), rd_no (by decide +kernel) (by decide +kernel), _, rfl, _, rfl, _, _, rfl, rfl, (by show 2 ≤ sizeLine; decide), fun t12 n12 => ?_⟩
      have ne12 := dice_ne d11 n12
      have s12 := same_new (o := HO.tup [V.str "go", V.int ((n : Int) + 1)]) n12
      have h12 : upd H11 t12 (HO.tup [V.str "go", V.int ((n : Int) + 1)]) t12 = some (HO.tup [V.str "go", V.int ((n : Int) + 1)]) := upd_same
      have q12 : KeepT p H11 (upd H11 t12 (HO.tup [V.str "go", V.int ((n : Int) + 1)])) := kt_same s12
      have d12 := dice_upd (o := HO.tup [V.str "go", V.int ((n : Int) + 1)]) d11 ne12
      have b12 := b11.ext s12
      generalize upd H11 t12 (HO.tup [V.str "go", V.int ((n : Int) + 1)]) = H12 at s12 h12 q12 d12 b12 ⊢
      have okI : ∀ ws : RowsL, ws.map Prod.snd = putL n (.go (n + 1)) (lnsOf rs) → RdOk ws := fun ws e => by
        obtain ⟨a, b⟩ := put_drawn hdr (show (Ln.go (n + 1)).drawn (rs.length + 1) from (show n + 1 ≤ rs.length + 1 by omega)) hn e
        exact drawn_ok a (by omega)
      refine ⟨r, rs, _, _, _, rfl, (hR.kt d2 (KeepT.trans q3 (KeepT.trans q4 (KeepT.trans q5 (KeepT.trans q6 (KeepT.trans q7 (KeepT.trans q8 (KeepT.trans q9 (KeepT.trans q10 (KeepT.trans q11 q12)))))))))), ok, .int _, .inr ⟨n, rfl, hn, by omega, .inl ⟨t12, .go (n + 1), rfl, SqT.of (xs := (Ln.go (n + 1)).vs) h12, okI, fun H13 i is s13 ni ei hI => ?_⟩⟩⟩
      have q13 : KeepT p H12 H13 := kt_same s13
      have d13 := dice_same2 d12 s13
      have b13 := b12.ext s13
      obtain ⟨di, Li, Ti, pi_, eI, hLi, _⟩ := id hI
      obtain ⟨drI, lenI⟩ := put_drawn hdr (show (Ln.go (n + 1)).drawn (rs.length + 1) from (show n + 1 ≤ rs.length + 1 by omega)) hn ei
      refine ⟨12, rfl, by decide, by decide, fun D hD => ?_⟩
      have nDp := dice_ne d13 hD
      refine lc_range (n := 12) (fun j H' => KeepT p H13 H' ∧ DiceAt H' p ∧ Tabs TS H' ∧ ∃ bs : List Bool, H' D = some (.lst (bs.map V.bl)) ∧ bs.length = j) ⟨kt_same (same_new hD), dice_upd d13 nDp, b13.ext (same_new hD), [], upd_same, rfl⟩ ?_ ?_
      · rintro j Hj hj ⟨kj, dj, bj, bs, ej, lj⟩
        obtain ⟨xa, xb, xc, hp, ha⟩ := id dj
        refine ⟨rfl, tt_yes ?_⟩
        refine ⟨_, rfl, p, 2, xa, xb, xc, rfl, hp, ha, by decide, by decide, fun v ya yb yc v1 v2 v3 => ?_⟩
        have kk : Keep p Hj (upd Hj p (.lst [.int ya, .int yb, .int yc])) := keep_upd
        have e5 := kk _ _ nDp ej
        have dd : DiceAt (upd Hj p (.lst [.int ya, .int yb, .int yc])) p := .upd v3
        have bb := tabs_keep bj dj kk
        generalize upd Hj p (HO.lst [V.int ya, V.int yb, V.int yc]) = Hm at kk e5 dd bb ⊢
        refine ⟨rfl, _, e5, by rw [List.length_map, sizeLine_eq]; omega, ?_, dice_upd dd nDp, ?_, bs ++ [decide (V.int v = V.int 1)], by rw [upd_same, List.map_append]; rfl, by simp [lj]⟩
        · intro x o hx e tx
          rw [upd_ne (fun z => by rw [z, hD] at e; cases e)]
          exact kt_keep kk x o hx (kj x o hx e tx) tx
        · intro x hx
          obtain ⟨qs, z1, z2, z3⟩ := bb x hx
          have nx : x.1 ≠ D := fun z => by rw [z, e5] at z1; cases z1
          refine ⟨qs, by rw [upd_ne nx]; exact z1, z2, fun pos cv hc => ?_⟩
          obtain ⟨co, z4, z5⟩ := z3 pos cv hc
          exact ⟨co, z4, by rw [upd_ne (fun z => by rw [z, e5] at z5; unfold CodeO at z5; cases z5)]; exact z5⟩
      rintro H14 ⟨q14, d14, b14, bs, eD, lbs⟩
      have okJ := okI is ei
      refine ⟨_, rfl, _, rfl, i, di, _, rfl, (q14 _ _ (not_p d13 eI (fun _ z => by cases z)) eI (fun _ z => by cases z)), i, di, _, _, rfl, (q14 _ _ (not_p d13 eI (fun _ z => by cases z)) eI (fun _ z => by cases z)), rd_lines Li Ti, _, rfl, L, Li, D, rs, is, bs, rfl, (hL.kt d1 (KeepT.trans q2 (KeepT.trans q3 (KeepT.trans q4 (KeepT.trans q5 (KeepT.trans q6 (KeepT.trans q7 (KeepT.trans q8 (KeepT.trans q9 (KeepT.trans q10 (KeepT.trans q11 (KeepT.trans q12 (KeepT.trans q13 q14))))))))))))), (hLi.kt d13 q14), SqL.of eD, ok.fine, okJ.fine, by omega, fun H15 s15 => ⟨_, rfl, ?_⟩⟩
      have q15 : KeepT p H14 H15 := kt_same s15
      have d15 := dice_same2 d14 s15
      have b15 := b14.ext s15
      rw [show lnsOf is = putL n (.go (n + 1)) (lnsOf rs) from ei, alike_idle (by rw [List.length_map]; exact hn) (fun l hl => by obtain ⟨x, hx, rfl⟩ := List.mem_map.mp hl; rw [List.length_map]; exact ok.fine x hx) (by rw [List.length_map]; omega) (by omega)]
      refine iteF ?_
      have okx : ∀ xs : RowsL, xs.map Prod.snd = cutL n (lnsOf is) → RdOk xs := fun xs e => by
        obtain ⟨a, b⟩ := cut_drawn drI (by omega) e
        exact drawn_ok a (by omega)
      refine ⟨_, rfl, i, di, _, rfl, ((KeepT.trans q14 q15) _ _ (not_p d13 eI (fun _ z => by cases z)) eI (fun _ z => by cases z)), rd_no (by decide +kernel) (by decide +kernel), _, rfl, i, is, _, _, rfl, (hI.kt d13 (KeepT.trans q14 q15)), okJ, .int _, .inr ⟨n, rfl, by omega, okx, fun H16 x xs s16 nx ex hX => ?_⟩⟩
      have q16 : KeepT p H15 H16 := kt_same s16
      have d16 := dice_same2 d15 s16
      have b16 := b15.ext s16
      obtain ⟨dxx, Lx, Tx, px, eX, hLx, _⟩ := id hX
      have exr : lnsOf xs = lnsOf rs := by
        have e1 : lnsOf xs = cutL n (lnsOf is) := ex
        rw [e1, show lnsOf is = putL n (.go (n + 1)) (lnsOf rs) from ei, cut_put (by rw [List.length_map]; exact hn) fun y _ => mv_back y]
      refine ⟨_, rfl, x, dxx, _, .ref C, rfl, eX, rd_ty T.cl T.ii (hR.kt d2 (KeepT.trans q3 (KeepT.trans q4 (KeepT.trans q5 (KeepT.trans q6 (KeepT.trans q7 (KeepT.trans q8 (KeepT.trans q9 (KeepT.trans q10 (KeepT.trans q11 (KeepT.trans q12 (KeepT.trans q13 (KeepT.trans q14 (KeepT.trans q15 q16)))))))))))))), nf_self, x, xs, _, rfl, hX, okx xs ex, .inl ⟨r, rs, rfl, (hR.kt d2 (KeepT.trans q3 (KeepT.trans q4 (KeepT.trans q5 (KeepT.trans q6 (KeepT.trans q7 (KeepT.trans q8 (KeepT.trans q9 (KeepT.trans q10 (KeepT.trans q11 (KeepT.trans q12 (KeepT.trans q13 (KeepT.trans q14 (KeepT.trans q15 q16)))))))))))))), ok, _, rfl, _, rfl, ?_⟩⟩
      rw [decide_eq_true exr]
      refine iteF ?_
      refine ⟨_, rfl, _, _, rfl, rfl, _, rfl, (by show 1 ≤ sizeLine; decide), fun t17 n17 => ?_⟩
      have ne17 := dice_ne d16 n17
      have s17 := same_new (o := HO.tup [V.int 1]) n17
      have h17 : upd H16 t17 (HO.tup [V.int 1]) t17 = some (HO.tup [V.int 1]) := upd_same
      have q17 : KeepT p H16 (upd H16 t17 (HO.tup [V.int 1])) := kt_same s17
      have d17 := dice_upd (o := HO.tup [V.int 1]) d16 ne17
      have b17 := b16.ext s17
      generalize upd H16 t17 (HO.tup [V.int 1]) = H17 at s17 h17 q17 d17 b17 ⊢
      refine ⟨_, _, rfl, rfl, ⟨by decide, by decide +kernel⟩, (by show 7 ≤ sizeLine; decide), fun t18 n18 => ?_⟩
      have ne18 := dice_ne d17 n18
      have s18 := same_new (o := HO.tup (oddVs rs.length t17)) n18
      have h18 : upd H17 t18 (HO.tup (oddVs rs.length t17)) t18 = some (HO.tup (oddVs rs.length t17)) := upd_same
      have q18 : KeepT p H17 (upd H17 t18 (HO.tup (oddVs rs.length t17))) := kt_same s18
      have d18 := dice_upd (o := HO.tup (oddVs rs.length t17)) d17 ne18
      have b18 := b17.ext s18
      generalize upd H17 t18 (HO.tup (oddVs rs.length t17)) = H18 at s18 h18 q18 d18 b18 ⊢
      refine ⟨t18, rfl, ⟨_, SqT.of h18⟩, ?_⟩
      refine for_it (walk_tup (xs := oddVs rs.length t17)) (fun j σ H' => (∃ a b, σ = [some (.ref p), some (.ref L), some (.int (rs.length : Int)), some (.ref r), some (.int (n : Int)), some (.ref la), some (.ref m), none, none, some (.ref i), some (.ref D), none, a, b, none, none]) ∧ KeepT p H18 H' ∧ DiceAt H' p ∧ Tabs TS H') ⟨⟨_, _, rfl⟩, KeepT.refl, d18, b18⟩ (fun j σ H' _ hp => sqT_kt (SqT.of h18) d18 hp.2.1) ?_ ?_
      · rintro j v σ Hj H19 hj ⟨⟨a, b, rfl⟩, q19, d19, b19⟩ ⟨rfl, hv⟩
        obtain ⟨dv, tx, hfix⟩ := oddK_fix (K := K) (n := rs.length) (t := t17) (by omega) v (List.mem_of_getElem? hv)
        refine ⟨b19, fun H20 e20 b20 => ?_⟩
        have q20 : KeepT p H19 H20 := kt_ext e20
        have d20 := dice_ext d19 e20
        have hto1 := (KeepT.trans q18 (KeepT.trans q19 q20)) _ _ (not_p d17 h17 (fun _ z => by cases z)) h17 (fun _ z => by cases z)
        obtain ⟨hdv1, hn11, hn21, hsv1, hkv1⟩ := hfix _ hto1
        refine ⟨_, rfl, r, dx, _, rfl, ((KeepT.trans q3 (KeepT.trans q4 (KeepT.trans q5 (KeepT.trans q6 (KeepT.trans q7 (KeepT.trans q8 (KeepT.trans q9 (KeepT.trans q10 (KeepT.trans q11 (KeepT.trans q12 (KeepT.trans q13 (KeepT.trans q14 (KeepT.trans q15 (KeepT.trans q16 (KeepT.trans q17 (KeepT.trans q18 (KeepT.trans q19 q20))))))))))))))))) _ _ (not_p d2 eR (fun _ z => by cases z)) eR (fun _ z => by cases z)), rd_no (by decide +kernel) (by decide +kernel), _, rfl, r, rs, v, _, dv, rfl, (hR.kt d2 (KeepT.trans q3 (KeepT.trans q4 (KeepT.trans q5 (KeepT.trans q6 (KeepT.trans q7 (KeepT.trans q8 (KeepT.trans q9 (KeepT.trans q10 (KeepT.trans q11 (KeepT.trans q12 (KeepT.trans q13 (KeepT.trans q14 (KeepT.trans q15 (KeepT.trans q16 (KeepT.trans q17 (KeepT.trans q18 (KeepT.trans q19 q20)))))))))))))))))), ok, hdv1, .inl ⟨hn11, fun dd1 nd1 => .inl ⟨rfl, dd1, v, tx, rfl, upd_same, hsv1.up (same_new nd1), fun H21 l1 sx21 nl1 el1 => ?_⟩⟩⟩
        have sd1 := same_new (o := HO.xd [("value", v)]) nd1
        have s21 := sd1.trans sx21
        have nel1 := dice_ne (dice_same2 d20 sd1) nl1
        have q21 : KeepT p H20 H21 := kt_same s21
        have d21 := dice_same2 d20 s21
        have b21 := b20.ext s21
        refine ⟨(by show 1 ≤ sizeLine; decide), fun t22 n22 => ?_⟩
        have ne22 := dice_ne d21 n22
        have s22 := same_new (o := HO.lst [V.ref l1]) n22
        have h22 : upd H21 t22 (HO.lst [V.ref l1]) t22 = some (HO.lst [V.ref l1]) := upd_same
        have q22 : KeepT p H21 (upd H21 t22 (HO.lst [V.ref l1])) := kt_same s22
        have d22 := dice_upd (o := HO.lst [V.ref l1]) d21 ne22
        have b22 := b21.ext s22
        generalize upd H21 t22 (HO.lst [V.ref l1]) = H22 at s22 h22 q22 d22 b22 ⊢
        refine ⟨_, rfl, Or.inl ⟨rfl, _, SqL.of h22⟩, b22, fun H23 e23 b23 => ?_⟩
        have q23 : KeepT p H22 H23 := kt_ext e23
        have d23 := dice_ext d22 e23
        have hto2 := (KeepT.trans q18 (KeepT.trans q19 (KeepT.trans q20 (KeepT.trans q21 (KeepT.trans q22 q23))))) _ _ (not_p d17 h17 (fun _ z => by cases z)) h17 (fun _ z => by cases z)
        obtain ⟨hdv2, hn12, hn22, hsv2, hkv2⟩ := hfix _ hto2
        refine ⟨_, rfl, r, dx, _, rfl, ((KeepT.trans q3 (KeepT.trans q4 (KeepT.trans q5 (KeepT.trans q6 (KeepT.trans q7 (KeepT.trans q8 (KeepT.trans q9 (KeepT.trans q10 (KeepT.trans q11 (KeepT.trans q12 (KeepT.trans q13 (KeepT.trans q14 (KeepT.trans q15 (KeepT.trans q16 (KeepT.trans q17 (KeepT.trans q18 (KeepT.trans q19 (KeepT.trans q20 (KeepT.trans q21 (KeepT.trans q22 q23)))))))))))))))))))) _ _ (not_p d2 eR (fun _ z => by cases z)) eR (fun _ z => by cases z)), rd_no (by decide +kernel) (by decide +kernel), _, rfl, r, rs, v, dv, rfl, (hR.kt d2 (KeepT.trans q3 (KeepT.trans q4 (KeepT.trans q5 (KeepT.trans q6 (KeepT.trans q7 (KeepT.trans q8 (KeepT.trans q9 (KeepT.trans q10 (KeepT.trans q11 (KeepT.trans q12 (KeepT.trans q13 (KeepT.trans q14 (KeepT.trans q15 (KeepT.trans q16 (KeepT.trans q17 (KeepT.trans q18 (KeepT.trans q19 (KeepT.trans q20 (KeepT.trans q21 (KeepT.trans q22 q23))))))))))))))))))))), ok, hdv2, .inl ⟨hn22, fun dd2 nd2 => .inl ⟨rfl, dd2, v, tx, rfl, upd_same, hsv2.up (same_new nd2), fun H24 l2 sx24 nl2 el2 => ?_⟩⟩⟩
        have sd2 := same_new (o := HO.xd [("value", v)]) nd2
        have s24 := sd2.trans sx24
        have nel2 := dice_ne (dice_same2 d23 sd2) nl2
        have q24 : KeepT p H23 H24 := kt_same s24
        have d24 := dice_same2 d23 s24
        have b24 := b23.ext s24
        have eT := (lst_kt h22 ne22 (KeepT.trans q23 q24))
        refine ⟨t22, _, _, rfl, rfl, eT, (by show 1 < sizeLine; decide), ?_⟩
        have el1n : upd H24 t22 (HO.lst ([V.ref l1] ++ [V.ref l2])) l1 = some (.lst [.str "number", .str tx]) := by rw [upd_ne (ne_of_none el1 n22)]; exact lst_kt el1 nel1 (KeepT.trans q22 (KeepT.trans q23 q24))
        have el2n : upd H24 t22 (HO.lst ([V.ref l1] ++ [V.ref l2])) l2 = some (.lst [.str "number", .str tx]) := by rw [upd_ne (fun z => by have e2 := el2; rw [z, eT] at e2; cases e2)]; exact el2
        have hT2 : upd H24 t22 (HO.lst ([V.ref l1] ++ [V.ref l2])) t22 = some (HO.lst ([V.ref l1] ++ [V.ref l2])) := upd_same
        have q25 : KeepT p H21 (upd H24 t22 (HO.lst ([V.ref l1] ++ [V.ref l2]))) := kt_to n22 (KeepT.trans q22 (KeepT.trans q23 q24))
        have d25 := dice_upd (o := HO.lst ([V.ref l1] ++ [V.ref l2])) d24 ne22
        have b25 := tabs_list (ys := [V.ref l1] ++ [V.ref l2]) b24 eT
        generalize upd H24 t22 (HO.lst ([V.ref l1] ++ [V.ref l2])) = H25 at el1n el2n hT2 q25 d25 b25 ⊢
        have hto3 := (KeepT.trans q18 (KeepT.trans q19 (KeepT.trans q20 (KeepT.trans q21 q25)))) _ _ (not_p d17 h17 (fun _ z => by cases z)) h17 (fun _ z => by cases z)
        obtain ⟨hdv3, hn13, hn23, hsv3, hkv3⟩ := hfix _ hto3
        refine ⟨_, rfl, _, rfl, v, tx, rfl, hsv3, (by show 2 ≤ sizeLine; decide), fun t26 n26 => ?_⟩
        have ne26 := dice_ne d25 n26
        have s26 := same_new (o := HO.lst [V.str "number", V.str tx]) n26
        have h26 : upd H25 t26 (HO.lst [V.str "number", V.str tx]) t26 = some (HO.lst [V.str "number", V.str tx]) := upd_same
        have q26 : KeepT p H25 (upd H25 t26 (HO.lst [V.str "number", V.str tx])) := kt_same s26
        have d26 := dice_upd (o := HO.lst [V.str "number", V.str tx]) d25 ne26
        have b26 := b25.ext s26
        generalize upd H25 t26 (HO.lst [V.str "number", V.str tx]) = H26 at s26 h26 q26 d26 b26 ⊢
        refine ⟨(by show 1 ≤ sizeLine; decide), fun t27 n27 => ?_⟩
        have ne27 := dice_ne d26 n27
        have s27 := same_new (o := HO.lst [V.ref t26]) n27
        have h27 : upd H26 t27 (HO.lst [V.ref t26]) t27 = some (HO.lst [V.ref t26]) := upd_same
        have q27 : KeepT p H26 (upd H26 t27 (HO.lst [V.ref t26])) := kt_same s27
        have d27 := dice_upd (o := HO.lst [V.ref t26]) d26 ne27
        have b27 := b26.ext s27
        generalize upd H26 t27 (HO.lst [V.ref t26]) = H27 at s27 h27 q27 d27 b27 ⊢
        refine ⟨t27, 2, _, rfl, rfl, h27, by decide, by decide, (by show 1 * 2 ≤ sizeLine; decide), fun t28 n28 => ?_⟩
        rw [show (List.replicate (Int.toNat 2) [V.ref t26]).flatten = [V.ref t26, V.ref t26] from rfl]
        skip
        have ne28 := dice_ne d27 n28
        have s28 := same_new (o := HO.lst [V.ref t26, V.ref t26]) n28
        have h28 : upd H27 t28 (HO.lst [V.ref t26, V.ref t26]) t28 = some (HO.lst [V.ref t26, V.ref t26]) := upd_same
        have q28 : KeepT p H27 (upd H27 t28 (HO.lst [V.ref t26, V.ref t26])) := kt_same s28
        have d28 := dice_upd (o := HO.lst [V.ref t26, V.ref t26]) d27 ne28
        have b28 := b27.ext s28
        generalize upd H27 t28 (HO.lst [V.ref t26, V.ref t26]) = H28 at s28 h28 q28 d28 b28 ⊢
        have sh : SeqAt.shaped (.list [.list [.str "number", .str tx], .list [.str "number", .str tx]]) = true := by
          have w1 : PyData.strOk "number" = true := by decide +kernel
          show (PyData.canLay0 (.list [.list [.str "number", .str tx], .list [.str "number", .str tx]]) && decide (PyData.depth (.list [.list [.str "number", .str tx], .list [.str "number", .str tx]]) ≤ 64)) = true
          simp [PyData.canLay0, PyData.canLayAll0, PyData.depth, PyData.depthAll, w1, hkv3]
        refine ⟨.list [.list [.str "number", .str tx], .list [.str "number", .str tx]], .list [.list [.str "number", .str tx], .list [.str "number", .str tx]], .lst (SqL.of (lst_kt hT2 ne22 (KeepT.trans q26 (KeepT.trans q27 q28)))) (.cons (.lst (SqL.of (lst_kt el1n nel1 (KeepT.trans q26 (KeepT.trans q27 q28)))) (.cons (.str _) (.cons (.str _) .nil))) (.cons (.lst (SqL.of (lst_kt el2n nel2 (KeepT.trans q26 (KeepT.trans q27 q28)))) (.cons (.str _) (.cons (.str _) .nil))) .nil)), .lst (SqL.of h28) (.cons (.lst (SqL.of (lst_kt h26 ne26 (KeepT.trans q27 q28))) (.cons (.str _) (.cons (.str _) .nil))) (.cons (.lst (SqL.of (lst_kt h26 ne26 (KeepT.trans q27 q28))) (.cons (.str _) (.cons (.str _) .nil))) .nil)), sh, sh, _, rfl, ?_⟩
        rw [SeqAt.eqv_refl _ (SeqAt.canLay_of_shaped sh)]
        exact iteF ⟨⟨_, _, rfl⟩, (KeepT.trans q19 (KeepT.trans q20 (KeepT.trans q21 (KeepT.trans q25 (KeepT.trans q26 (KeepT.trans q27 q28)))))), d28, b28⟩
      rintro σ H29 ⟨⟨a1, b1, rfl⟩, q29, d29, b29⟩
      refine ⟨_, rfl, _, _, rfl, rfl, (by show 2 ≤ sizeLine; decide), fun t30 n30 => ?_⟩
      have ne30 := dice_ne d29 n30
      have s30 := same_new (o := HO.tup [V.str "go", V.int ((rs.length : Int) + 2)]) n30
      have h30 : upd H29 t30 (HO.tup [V.str "go", V.int ((rs.length : Int) + 2)]) t30 = some (HO.tup [V.str "go", V.int ((rs.length : Int) + 2)]) := upd_same
      have q30 : KeepT p H29 (upd H29 t30 (HO.tup [V.str "go", V.int ((rs.length : Int) + 2)])) := kt_same s30
      have d30 := dice_upd (o := HO.tup [V.str "go", V.int ((rs.length : Int) + 2)]) d29 ne30
      have b30 := b29.ext s30
      generalize upd H29 t30 (HO.tup [V.str "go", V.int ((rs.length : Int) + 2)]) = H30 at s30 h30 q30 d30 b30 ⊢
      refine ⟨(by show 1 ≤ sizeLine; decide), fun t31 n31 => ?_⟩
      have ne31 := dice_ne d30 n31
      have s31 := same_new (o := HO.tup [V.str "go"]) n31
      have h31 : upd H30 t31 (HO.tup [V.str "go"]) t31 = some (HO.tup [V.str "go"]) := upd_same
      have q31 : KeepT p H30 (upd H30 t31 (HO.tup [V.str "go"])) := kt_same s31
      have d31 := dice_upd (o := HO.tup [V.str "go"]) d30 ne31
      have b31 := b30.ext s31
      generalize upd H30 t31 (HO.tup [V.str "go"]) = H31 at s31 h31 q31 d31 b31 ⊢
      refine ⟨(by show 2 ≤ sizeLine; decide), fun t32 n32 => ?_⟩
      have ne32 := dice_ne d31 n32
      have s32 := same_new (o := HO.lst [V.str "go", V.int 0]) n32
      have h32 : upd H31 t32 (HO.lst [V.str "go", V.int 0]) t32 = some (HO.lst [V.str "go", V.int 0]) := upd_same
      have q32 : KeepT p H31 (upd H31 t32 (HO.lst [V.str "go", V.int 0])) := kt_same s32
      have d32 := dice_upd (o := HO.lst [V.str "go", V.int 0]) d31 ne32
      have b32 := b31.ext s32
      generalize upd H31 t32 (HO.lst [V.str "go", V.int 0]) = H32 at s32 h32 q32 d32 b32 ⊢
      refine ⟨(by show 2 ≤ sizeLine; decide), fun t33 n33 => ?_⟩
      have ne33 := dice_ne d32 n33
      have s33 := same_new (o := HO.tup [V.str "read", V.str "item"]) n33
      have h33 : upd H32 t33 (HO.tup [V.str "read", V.str "item"]) t33 = some (HO.tup [V.str "read", V.str "item"]) := upd_same
      have q33 : KeepT p H32 (upd H32 t33 (HO.tup [V.str "read", V.str "item"])) := kt_same s33
      have d33 := dice_upd (o := HO.tup [V.str "read", V.str "item"]) d32 ne33
      have b33 := b32.ext s33
      generalize upd H32 t33 (HO.tup [V.str "read", V.str "item"]) = H33 at s33 h33 q33 d33 b33 ⊢
      refine ⟨(by show 4 ≤ sizeLine; decide), fun t34 n34 => ?_⟩
      have ne34 := dice_ne d33 n34
      have s34 := same_new (o := HO.tup [V.str "if", V.str "item", V.str "live", V.bl true]) n34
      have h34 : upd H33 t34 (HO.tup [V.str "if", V.str "item", V.str "live", V.bl true]) t34 = some (HO.tup [V.str "if", V.str "item", V.str "live", V.bl true]) := upd_same
      have q34 : KeepT p H33 (upd H33 t34 (HO.tup [V.str "if", V.str "item", V.str "live", V.bl true])) := kt_same s34
      have d34 := dice_upd (o := HO.tup [V.str "if", V.str "item", V.str "live", V.bl true]) d33 ne34
      have b34 := b33.ext s34
      generalize upd H33 t34 (HO.tup [V.str "if", V.str "item", V.str "live", V.bl true]) = H34 at s34 h34 q34 d34 b34 ⊢
      refine ⟨(by show 2 ≤ sizeLine; decide), fun t35 n35 => ?_⟩
      have ne35 := dice_ne d34 n35
      have s35 := same_new (o := HO.tup [V.str "go", V.bl true]) n35
      have h35 : upd H34 t35 (HO.tup [V.str "go", V.bl true]) t35 = some (HO.tup [V.str "go", V.bl true]) := upd_same
      have q35 : KeepT p H34 (upd H34 t35 (HO.tup [V.str "go", V.bl true])) := kt_same s35
      have d35 := dice_upd (o := HO.tup [V.str "go", V.bl true]) d34 ne35
      have b35 := b34.ext s35
      generalize upd H34 t35 (HO.tup [V.str "go", V.bl true]) = H35 at s35 h35 q35 d35 b35 ⊢
      refine ⟨(by show 7 ≤ sizeLine; decide), fun t36 n36 => ?_⟩
      have ne36 := dice_ne d35 n36
      have s36 := same_new (o := HO.lst [V.non, V.ref t30, V.ref t31, V.ref t32, V.ref t33, V.ref t34, V.ref t35]) n36
      have h36 : upd H35 t36 (HO.lst [V.non, V.ref t30, V.ref t31, V.ref t32, V.ref t33, V.ref t34, V.ref t35]) t36 = some (HO.lst [V.non, V.ref t30, V.ref t31, V.ref t32, V.ref t33, V.ref t34, V.ref t35]) := upd_same
      have q36 : KeepT p H35 (upd H35 t36 (HO.lst [V.non, V.ref t30, V.ref t31, V.ref t32, V.ref t33, V.ref t34, V.ref t35])) := kt_same s36
      have d36 := dice_upd (o := HO.lst [V.non, V.ref t30, V.ref t31, V.ref t32, V.ref t33, V.ref t34, V.ref t35]) d35 ne36
      have b36 := b35.ext s36
      generalize upd H35 t36 (HO.lst [V.non, V.ref t30, V.ref t31, V.ref t32, V.ref t33, V.ref t34, V.ref t35]) = H36 at s36 h36 q36 d36 b36 ⊢
      have wrong : ∀ x ∈ [V.non, V.ref t30, V.ref t31, V.ref t32, V.ref t33, V.ref t34, V.ref t35], ∃ e, (∀ Hz, KeepT p H36 Hz → Dp K Hz x e) ∧ SeqAt.shaped e = true ∧ Mod_ e ∧ lineD e (rs.length + 1 : Nat) = false := by
        intro x hx
        simp only [List.mem_cons, List.not_mem_nil, or_false] at hx
        rcases hx with rfl | rfl | rfl | rfl | rfl | rfl | rfl
        · exact ⟨.none, fun _ _ => .non, by decide +kernel, mod_no2 (fun _ e => by cases e), rfl⟩
        · exact ⟨.tuple [.str "go", .int ((rs.length : Int) + 2)], fun Hz kz => .tup (sqT_kt (sqT_kt (SqT.of h30) d30 (KeepT.trans q31 (KeepT.trans q32 (KeepT.trans q33 (KeepT.trans q34 (KeepT.trans q35 q36)))))) d36 kz) (.cons (.str _) (.cons (.int _) .nil)), goInt_shaped, mod_tup2 rfl (by simp), wr_go⟩
        · exact ⟨.tuple [.str "go"], fun Hz kz => .tup (sqT_kt (sqT_kt (SqT.of h31) d31 (KeepT.trans q32 (KeepT.trans q33 (KeepT.trans q34 (KeepT.trans q35 q36))))) d36 kz) (.cons (.str _) .nil), by decide +kernel, mod_tup2 (by decide +kernel) (by simp), wr_one⟩
        · exact ⟨.list [.str "go", .int 0], fun Hz kz => .lst (SqL.of (lst_kt (lst_kt h32 ne32 (KeepT.trans q33 (KeepT.trans q34 (KeepT.trans q35 q36)))) ne32 kz)) (.cons (.str _) (.cons (.int _) .nil)), by decide +kernel, mod_no2 (fun _ e => by cases e), rfl⟩
        · exact ⟨.tuple [.str "read", .str "item"], fun Hz kz => .tup (sqT_kt (sqT_kt (SqT.of h33) d33 (KeepT.trans q34 (KeepT.trans q35 q36))) d36 kz) (.cons (.str _) (.cons (.str _) .nil)), by decide +kernel, mod_tup2 (by decide +kernel) (by simp), wr_read⟩
        · exact ⟨.tuple [.str "if", .str "item", .str "live", .bool true], fun Hz kz => .tup (sqT_kt (sqT_kt (SqT.of h34) d34 (KeepT.trans q35 q36)) d36 kz) (.cons (.str _) (.cons (.str _) (.cons (.str _) (.cons (.bl _) .nil)))), by decide +kernel, mod_tup2 (by decide +kernel) (by simp), wr_if⟩
        · exact ⟨.tuple [.str "go", .bool true], fun Hz kz => .tup (sqT_kt (sqT_kt (SqT.of h35) d35 q36) d36 kz) (.cons (.str _) (.cons (.bl _) .nil)), by decide +kernel, mod_tup2 (by decide +kernel) (by simp), wr_gob⟩
      refine ⟨_, rfl, _, rfl, p, t36, _, rfl, d36, h36, ne36, (by show 0 < 7; decide), (by show 7 < 1000; decide), fun ix xw ya yb yc hxw hya => ?_⟩
      have k37 : Keep p H36 (upd H36 p (HO.lst [V.int ya, V.int yb, V.int yc])) := keep_upd
      have d37 : DiceAt (upd H36 p (HO.lst [V.int ya, V.int yb, V.int yc])) p := .upd hya
      generalize upd H36 p (HO.lst [V.int ya, V.int yb, V.int yc]) = H37 at k37 d37 ⊢
      have q37 : KeepT p H36 H37 := kt_keep k37
      have b37 := tabs_keep b36 d36 k37
      obtain ⟨we, hwe, wsh, wmd, wbad⟩ := wrong xw (List.mem_of_getElem? hxw)
      refine ⟨b37, fun H38 e38 b38 => ?_⟩
      have q38 : KeepT p H37 H38 := kt_ext e38
      have d38 := dice_ext d37 e38
      refine ⟨_, rfl, r, dx, _, rfl, ((KeepT.trans q3 (KeepT.trans q4 (KeepT.trans q5 (KeepT.trans q6 (KeepT.trans q7 (KeepT.trans q8 (KeepT.trans q9 (KeepT.trans q10 (KeepT.trans q11 (KeepT.trans q12 (KeepT.trans q13 (KeepT.trans q14 (KeepT.trans q15 (KeepT.trans q16 (KeepT.trans q17 (KeepT.trans q18 (KeepT.trans q29 (KeepT.trans q30 (KeepT.trans q31 (KeepT.trans q32 (KeepT.trans q33 (KeepT.trans q34 (KeepT.trans q35 (KeepT.trans q36 (KeepT.trans q37 q38))))))))))))))))))))))))) _ _ (not_p d2 eR (fun _ z => by cases z)) eR (fun _ z => by cases z)), rd_no (by decide +kernel) (by decide +kernel), _, rfl, _, rfl, r, rs, _, _, _, rfl, (hR.kt d2 (KeepT.trans q3 (KeepT.trans q4 (KeepT.trans q5 (KeepT.trans q6 (KeepT.trans q7 (KeepT.trans q8 (KeepT.trans q9 (KeepT.trans q10 (KeepT.trans q11 (KeepT.trans q12 (KeepT.trans q13 (KeepT.trans q14 (KeepT.trans q15 (KeepT.trans q16 (KeepT.trans q17 (KeepT.trans q18 (KeepT.trans q29 (KeepT.trans q30 (KeepT.trans q31 (KeepT.trans q32 (KeepT.trans q33 (KeepT.trans q34 (KeepT.trans q35 (KeepT.trans q36 (KeepT.trans q37 q38)))))))))))))))))))))))))), ok, .int _, .inr ⟨n, rfl, hn, by omega, .inr ⟨we, hwe _ (KeepT.trans q37 q38), wsh, wmd, wbad, fun Hx sx0 => .inr ⟨rfl, fun H39 u1 sx1 nu1 eu1 => ?_⟩⟩⟩⟩
      have s39 := sx0.trans sx1
      have neu1 := dice_ne (dice_same2 d38 sx0) nu1
      have q39 : KeepT p H38 H39 := kt_same s39
      have d39 := dice_same2 d38 s39
      have b39 := b38.ext s39
      refine ⟨(by show 1 ≤ sizeLine; decide), fun t40 n40 => ?_⟩
      have ne40 := dice_ne d39 n40
      have s40 := same_new (o := HO.lst [V.ref u1]) n40
      have h40 : upd H39 t40 (HO.lst [V.ref u1]) t40 = some (HO.lst [V.ref u1]) := upd_same
      have q40 : KeepT p H39 (upd H39 t40 (HO.lst [V.ref u1])) := kt_same s40
      have d40 := dice_upd (o := HO.lst [V.ref u1]) d39 ne40
      have b40 := b39.ext s40
      generalize upd H39 t40 (HO.lst [V.ref u1]) = H40 at s40 h40 q40 d40 b40 ⊢
      refine ⟨_, rfl, Or.inl ⟨rfl, _, SqL.of h40⟩, b40, fun H41 e41 b41 => ?_⟩
      have q41 : KeepT p H40 H41 := kt_ext e41
      have d41 := dice_ext d40 e41
      obtain ⟨kz1, kz2⟩ := numb_ok rs.length (by omega)
      have shz : ∀ Hz : Hp, Shows Hz (V.int (rs.length : Int)) (toString (rs.length : Int)) := fun Hz => .inr (.inr (.inl ⟨_, rfl, kz2, rfl⟩))
      have bdz : numD (.int (rs.length : Int)) ((rs.length : Int) - 1) = false := by
        show (decide (0 ≤ (rs.length : Int)) && decide ((rs.length : Int) ≤ (rs.length : Int) - 1)) = false
        rw [Bool.and_eq_false_iff, decide_eq_false_iff_not, decide_eq_false_iff_not]; omega
      refine ⟨_, rfl, r, dx, _, rfl, ((KeepT.trans q3 (KeepT.trans q4 (KeepT.trans q5 (KeepT.trans q6 (KeepT.trans q7 (KeepT.trans q8 (KeepT.trans q9 (KeepT.trans q10 (KeepT.trans q11 (KeepT.trans q12 (KeepT.trans q13 (KeepT.trans q14 (KeepT.trans q15 (KeepT.trans q16 (KeepT.trans q17 (KeepT.trans q18 (KeepT.trans q29 (KeepT.trans q30 (KeepT.trans q31 (KeepT.trans q32 (KeepT.trans q33 (KeepT.trans q34 (KeepT.trans q35 (KeepT.trans q36 (KeepT.trans q37 (KeepT.trans q38 (KeepT.trans q39 (KeepT.trans q40 q41)))))))))))))))))))))))))))) _ _ (not_p d2 eR (fun _ z => by cases z)) eR (fun _ z => by cases z)), rd_no (by decide +kernel) (by decide +kernel), _, rfl, r, rs, _, _, rfl, (hR.kt d2 (KeepT.trans q3 (KeepT.trans q4 (KeepT.trans q5 (KeepT.trans q6 (KeepT.trans q7 (KeepT.trans q8 (KeepT.trans q9 (KeepT.trans q10 (KeepT.trans q11 (KeepT.trans q12 (KeepT.trans q13 (KeepT.trans q14 (KeepT.trans q15 (KeepT.trans q16 (KeepT.trans q17 (KeepT.trans q18 (KeepT.trans q29 (KeepT.trans q30 (KeepT.trans q31 (KeepT.trans q32 (KeepT.trans q33 (KeepT.trans q34 (KeepT.trans q35 (KeepT.trans q36 (KeepT.trans q37 (KeepT.trans q38 (KeepT.trans q39 (KeepT.trans q40 q41))))))))))))))))))))))))))))), ok, .int _, .inl ⟨bdz, fun ddz ndz => .inl ⟨rfl, ddz, _, _, rfl, upd_same, shz _, fun H42 u2 sx2 nu2 eu2 => ?_⟩⟩⟩
      have sdz := same_new (o := HO.xd [("value", V.int (rs.length : Int))]) ndz
      have s42 := sdz.trans sx2
      have neu2 := dice_ne (dice_same2 d41 sdz) nu2
      have q42 : KeepT p H41 H42 := kt_same s42
      have d42 := dice_same2 d41 s42
      have b42 := b41.ext s42
      have eT := (lst_kt h40 ne40 (KeepT.trans q41 q42))
      refine ⟨t40, _, _, rfl, rfl, eT, (by show 1 < sizeLine; decide), ?_⟩
      have eu1n : upd H42 t40 (HO.lst ([V.ref u1] ++ [V.ref u2])) u1 = some (.lst [.str "reader"]) := by rw [upd_ne (ne_of_none eu1 n40)]; exact lst_kt eu1 neu1 (KeepT.trans q40 (KeepT.trans q41 q42))
      have eu2n : upd H42 t40 (HO.lst ([V.ref u1] ++ [V.ref u2])) u2 = some (.lst [.str "number", .str (toString (rs.length : Int))]) := by rw [upd_ne (fun z => by have e2 := eu2; rw [z, eT] at e2; cases e2)]; exact eu2
      have hT2 : upd H42 t40 (HO.lst ([V.ref u1] ++ [V.ref u2])) t40 = some (HO.lst ([V.ref u1] ++ [V.ref u2])) := upd_same
      have q43 : KeepT p H39 (upd H42 t40 (HO.lst ([V.ref u1] ++ [V.ref u2]))) := kt_to n40 (KeepT.trans q40 (KeepT.trans q41 q42))
      have d43 := dice_upd (o := HO.lst ([V.ref u1] ++ [V.ref u2])) d42 ne40
      have b43 := tabs_list (ys := [V.ref u1] ++ [V.ref u2]) b42 eT
      generalize upd H42 t40 (HO.lst ([V.ref u1] ++ [V.ref u2])) = H43 at eu1n eu2n hT2 q43 d43 b43 ⊢
      refine ⟨_, rfl, (by show 1 ≤ sizeLine; decide), fun t44 n44 => ?_⟩
      have ne44 := dice_ne d43 n44
      have s44 := same_new (o := HO.lst [V.str "reader"]) n44
      have h44 : upd H43 t44 (HO.lst [V.str "reader"]) t44 = some (HO.lst [V.str "reader"]) := upd_same
      have q44 : KeepT p H43 (upd H43 t44 (HO.lst [V.str "reader"])) := kt_same s44
      have d44 := dice_upd (o := HO.lst [V.str "reader"]) d43 ne44
      have b44 := b43.ext s44
      generalize upd H43 t44 (HO.lst [V.str "reader"]) = H44 at s44 h44 q44 d44 b44 ⊢
      refine ⟨_, rfl, _, _, rfl, shz _, (by show 2 ≤ sizeLine; decide), fun t45 n45 => ?_⟩
      have ne45 := dice_ne d44 n45
      have s45 := same_new (o := HO.lst [V.str "number", V.str (toString (rs.length : Int))]) n45
      have h45 : upd H44 t45 (HO.lst [V.str "number", V.str (toString (rs.length : Int))]) t45 = some (HO.lst [V.str "number", V.str (toString (rs.length : Int))]) := upd_same
      have q45 : KeepT p H44 (upd H44 t45 (HO.lst [V.str "number", V.str (toString (rs.length : Int))])) := kt_same s45
      have d45 := dice_upd (o := HO.lst [V.str "number", V.str (toString (rs.length : Int))]) d44 ne45
      have b45 := b44.ext s45
      generalize upd H44 t45 (HO.lst [V.str "number", V.str (toString (rs.length : Int))]) = H45 at s45 h45 q45 d45 b45 ⊢
      refine ⟨(by show 2 ≤ sizeLine; decide), fun t46 n46 => ?_⟩
      have ne46 := dice_ne d45 n46
      have s46 := same_new (o := HO.lst [V.ref t44, V.ref t45]) n46
      have h46 : upd H45 t46 (HO.lst [V.ref t44, V.ref t45]) t46 = some (HO.lst [V.ref t44, V.ref t45]) := upd_same
      have q46 : KeepT p H45 (upd H45 t46 (HO.lst [V.ref t44, V.ref t45])) := kt_same s46
      have d46 := dice_upd (o := HO.lst [V.ref t44, V.ref t45]) d45 ne46
      have b46 := b45.ext s46
      generalize upd H45 t46 (HO.lst [V.ref t44, V.ref t45]) = H46 at s46 h46 q46 d46 b46 ⊢
      have sh : SeqAt.shaped (.list [.list [.str "reader"], .list [.str "number", .str (toString (rs.length : Int))]]) = true := by
        have w1 : PyData.strOk "number" = true := by decide +kernel
        have w2 : PyData.strOk "reader" = true := by decide +kernel
        have kk := kz1
        generalize toString (rs.length : Int) = zz at kk ⊢
        show (PyData.canLay0 _ && decide (PyData.depth _ ≤ 64)) = true
        simp [PyData.canLay0, PyData.canLayAll0, PyData.depth, PyData.depthAll, w1, w2, kk]
      refine ⟨.list [.list [.str "reader"], .list [.str "number", .str (toString (rs.length : Int))]], .list [.list [.str "reader"], .list [.str "number", .str (toString (rs.length : Int))]], .lst (SqL.of (lst_kt hT2 ne40 (KeepT.trans q44 (KeepT.trans q45 q46)))) (.cons (.lst (SqL.of (lst_kt eu1n neu1 (KeepT.trans q44 (KeepT.trans q45 q46)))) (.cons (.str _) .nil)) (.cons (.lst (SqL.of (lst_kt eu2n neu2 (KeepT.trans q44 (KeepT.trans q45 q46)))) (.cons (.str _) (.cons (.str _) .nil))) .nil)), .lst (SqL.of h46) (.cons (.lst (SqL.of (lst_kt h44 ne44 (KeepT.trans q45 q46))) (.cons (.str _) .nil)) (.cons (.lst (SqL.of (lst_kt h45 ne45 q46)) (.cons (.str _) (.cons (.str _) .nil))) .nil)), sh, sh, _, rfl, ?_⟩
      rw [SeqAt.eqv_refl _ (SeqAt.canLay_of_shaped sh)]
      refine iteT ?_
      refine ⟨_, rfl, r, dx, _, rfl, ((KeepT.trans q3 (KeepT.trans q4 (KeepT.trans q5 (KeepT.trans q6 (KeepT.trans q7 (KeepT.trans q8 (KeepT.trans q9 (KeepT.trans q10 (KeepT.trans q11 (KeepT.trans q12 (KeepT.trans q13 (KeepT.trans q14 (KeepT.trans q15 (KeepT.trans q16 (KeepT.trans q17 (KeepT.trans q18 (KeepT.trans q29 (KeepT.trans q30 (KeepT.trans q31 (KeepT.trans q32 (KeepT.trans q33 (KeepT.trans q34 (KeepT.trans q35 (KeepT.trans q36 (KeepT.trans q37 (KeepT.trans q38 (KeepT.trans q39 (KeepT.trans q43 (KeepT.trans q44 (KeepT.trans q45 q46)))))))))))))))))))))))))))))) _ _ (not_p d2 eR (fun _ z => by cases z)) eR (fun _ z => by cases z)), r, dx, _, _, rfl, ((KeepT.trans q3 (KeepT.trans q4 (KeepT.trans q5 (KeepT.trans q6 (KeepT.trans q7 (KeepT.trans q8 (KeepT.trans q9 (KeepT.trans q10 (KeepT.trans q11 (KeepT.trans q12 (KeepT.trans q13 (KeepT.trans q14 (KeepT.trans q15 (KeepT.trans q16 (KeepT.trans q17 (KeepT.trans q18 (KeepT.trans q29 (KeepT.trans q30 (KeepT.trans q31 (KeepT.trans q32 (KeepT.trans q33 (KeepT.trans q34 (KeepT.trans q35 (KeepT.trans q36 (KeepT.trans q37 (KeepT.trans q38 (KeepT.trans q39 (KeepT.trans q43 (KeepT.trans q44 (KeepT.trans q45 q46)))))))))))))))))))))))))))))) _ _ (not_p d2 eR (fun _ z => by cases z)) eR (fun _ z => by cases z)), rd_lines Lr Tr, _, rfl, _, _, (hLr.kt d2 (KeepT.trans q3 (KeepT.trans q4 (KeepT.trans q5 (KeepT.trans q6 (KeepT.trans q7 (KeepT.trans q8 (KeepT.trans q9 (KeepT.trans q10 (KeepT.trans q11 (KeepT.trans q12 (KeepT.trans q13 (KeepT.trans q14 (KeepT.trans q15 (KeepT.trans q16 (KeepT.trans q17 (KeepT.trans q18 (KeepT.trans q29 (KeepT.trans q30 (KeepT.trans q31 (KeepT.trans q32 (KeepT.trans q33 (KeepT.trans q34 (KeepT.trans q35 (KeepT.trans q36 (KeepT.trans q37 (KeepT.trans q38 (KeepT.trans q39 (KeepT.trans q43 (KeepT.trans q44 (KeepT.trans q45 q46))))))))))))))))))))))))))))))).dp, (hL.kt d1 (KeepT.trans q2 (KeepT.trans q3 (KeepT.trans q4 (KeepT.trans q5 (KeepT.trans q6 (KeepT.trans q7 (KeepT.trans q8 (KeepT.trans q9 (KeepT.trans q10 (KeepT.trans q11 (KeepT.trans q12 (KeepT.trans q13 (KeepT.trans q14 (KeepT.trans q15 (KeepT.trans q16 (KeepT.trans q17 (KeepT.trans q18 (KeepT.trans q29 (KeepT.trans q30 (KeepT.trans q31 (KeepT.trans q32 (KeepT.trans q33 (KeepT.trans q34 (KeepT.trans q35 (KeepT.trans q36 (KeepT.trans q37 (KeepT.trans q38 (KeepT.trans q39 (KeepT.trans q43 (KeepT.trans q44 (KeepT.trans q45 q46)))))))))))))))))))))))))))))))).dp, dls_shaped safe, dls_shaped safe, ?_⟩
      rw [dls_eqv, decide_eq_true rfl]
      exact k _ (KeepT.trans q1 (KeepT.trans q2 (KeepT.trans q3 (KeepT.trans q4 (KeepT.trans q5 (KeepT.trans q6 (KeepT.trans q7 (KeepT.trans q8 (KeepT.trans q9 (KeepT.trans q10 (KeepT.trans q11 (KeepT.trans q12 (KeepT.trans q13 (KeepT.trans q14 (KeepT.trans q15 (KeepT.trans q16 (KeepT.trans q17 (KeepT.trans q18 (KeepT.trans q29 (KeepT.trans q30 (KeepT.trans q31 (KeepT.trans q32 (KeepT.trans q33 (KeepT.trans q34 (KeepT.trans q35 (KeepT.trans q36 (KeepT.trans q37 (KeepT.trans q38 (KeepT.trans q39 (KeepT.trans q43 (KeepT.trans q44 (KeepT.trans q45 q46)))))))))))))))))))))))))))))))) d46 b46
end
end Rd

/-! Too many lines, or too many tested pairs: InvalidReader -/
namespace Rd
open PySem PySem.Spec PyProof.Rows L2 Tq Dn Dc Ox
/-- too many lines, or lines of which too many pairs are tested -/
def TooMany (K : PySem.W.Frag) (H : Hp) (xs : List V) : Prop := 16 < xs.length ∨ ∃ rs : RowsL, xs = rs.map (fun r => V.ref r.1) ∧ (∀ r ∈ rs, SqT K H r.1 r.2.vs) ∧ rs.length ≤ 16 ∧ (∀ r ∈ rs, r.2.fine rs.length = true) ∧ ∀ ps, Asc (keysOf ["if"] (rs.map Prod.snd)) ps → 6 < ps.length
theorem TooMany.up {K : PySem.W.Frag} {H H' : Hp} {xs : List V} (h : TooMany K H xs) (s : Same H H') : TooMany K H' xs :=
  h.imp id fun ⟨rs, a, b, c⟩ => ⟨rs, a, fun r hr => sqT_up (b r hr) s, c⟩
def spInitY (K : PySem.W.Frag) (C CR : Addr) : Sp := fun vs H Q E => ∃ (x dx L : Addr) (xs : List V), vs = [.ref x, .ref L] ∧ H x = some (.ins C dx []) ∧ SqT K H L xs ∧ TooMany K H xs ∧ ∀ H', Keep x H H' → E (.ref CR) none H'
def spOfY (K : PySem.W.Frag) (C CR : Addr) : Sp := fun vs H Q E => ∃ (L : Addr) (xs : List V), vs = [.ref C, .ref L] ∧ SqT K H L xs ∧ xs.length ≤ 1000 ∧ (∃ ds, DpAll K H xs ds) ∧ TooMany K H xs ∧ ∀ H', Same H H' → E (.ref CR) none H'
section
variable {P : Program} {w : World} {K : PySem.W.Frag} {mg : Str → Option Value} {base : Heap}
theorem ok_initY {C CR f : Addr} {fd : FuncData} (F : Fun K "__init__" "Reader.__init__" sInit f fd) (T : TxX K mg P w base C CR) : FnR P w K mg base (L2N.CX P w) 5 f (spStar 1 (spInitY K C CR)) := by
  obtain ⟨g, gd, mG, kG, bG, GG⟩ := T.line
  obtain ⟨q, qd, mQ, kQ, bQ, GQ⟩ := T.pairs
  obtain ⟨tl, mL⟩ := T.mxL
  obtain ⟨tt, mT⟩ := T.mxT
  refine okStarN (ps := ["self"]) (pv := "lines") F scIn (fun kV doc pm an cdv ct => StX.bind_star1 (B := fun us => bindArgs _ ⟨us, []⟩) (p1 := "self") (pv := "lines") (fun a => rfl) (fun a r rs => rfl)) (fun cdv A outer s H vs Q E hr h => ?_)
  obtain ⟨x, dx, L, xs, rfl, hx, hL, hbad, k⟩ := h
  have hr2 := hr.mono (show 2 ≤ 4 by decide)
  refine ⟨_, pss_cons (ps_if (pt_cmpR op_gt (pe_callB call_lenT (by rfl) T.len PySem.boot_len (pa_cons (pv 1) pa_nil)) (pe_glob (v := .int 16) (by rfl) mL ⟨_, rfl⟩) (nomark _)) (pss_one (L2N.ps_raise rfl (L2N.takes_of rfl rfl rfl rfl) (L2N.pmk_own PySem.F.excBase_ValueError T.xR T.gR T.kR (raises_own T.bR T.tR) (by rfl)))) pss_nil)
    (pss_cons (ps_if (pt_not (pt_val (pe_callB (cr_all rfl) (by rfl) T.all PyProof.Rows.boot_all (pa_cons (pe_lc (own := [("line", 2)]) (g := gName 2) (tt := tYes) (te := tCall (spLine K) [] E0 (tCons (tVar 2) (tCons (tCB (rLenT K) (tCons (tVar 1) tNil)) tNil))) rfl scIn.nd (pi_tup (pv 1))
        (blkOk_by (N := ["self", "lines", "line"]) (sc := defScope sInit) (by decide +kernel)) (fun _ _ _ _ _ => pg_name (i := 2) scIn.nd rfl (Or.inl rfl)) (fun _ _ _ _ _ => pts_nil)
        (fun _ _ _ _ _ => pe_call GG hr (by rfl) mG kG bG .nil pass0 (pa_cons (pv 2) (pa_cons (pe_callB call_lenT (by rfl) T.len PySem.boot_len (pa_cons (pv 1) pa_nil)) pa_nil)))) pa_nil)))) (pss_one (L2N.ps_raise rfl (L2N.takes_of rfl rfl rfl rfl) (L2N.pmk_own PySem.F.excBase_ValueError T.xR T.gR T.kR (raises_own T.bR T.tR) (by rfl)))) pss_nil)
    (pss_cons (ps_fld (pv 0) (pv 1) rfl)
    (pss_cons (ps_fld (pv 0) (pe_call GQ hr2 (by rfl) mQ kQ bQ .nil pass0 (pa_cons (pv 1) (pa_cons (pe_tup (pa_cons pe_str pa_nil)) pa_nil))) rfl)
    (pss_one (ps_if (pt_cmpR op_gt (pe_callB call_lenT (by rfl) T.len PySem.boot_len (pa_cons (pe_fld (pv 0) rfl) pa_nil)) (pe_glob (v := .int 6) (by rfl) mT ⟨_, rfl⟩) (nomark _)) (pss_one (L2N.ps_raise rfl (L2N.takes_of rfl rfl rfl rfl) (L2N.pmk_own PySem.F.excBase_ValueError T.xR T.gR T.kR (raises_own T.bR T.tR) (by rfl)))) pss_nil))))), ?_⟩
  refine ⟨_, rfl, L, _, rfl, hL, _, _, rfl, rfl, _, rfl, ?_⟩
  rcases hbad with many | ⟨rs, rfl, hrs, few, fine, six⟩
  · rw [show decide ((xs.length : Int) > 16) = true from decide_eq_true (by omega)]
    exact iteT (k H fun _ _ _ h => h)
  have hL : LinesAt K H L rs := ⟨hL, hrs⟩
  refine ite2 (fun z => absurd (of_decide_eq_true z) (by rw [List.length_map]; omega)) (fun _ => ?_)
  refine ⟨_, rfl, L, rfl, ⟨_, hL.1⟩, fun D hD => ?_⟩
  have off : Off D (fun i acc (_ : Hp) => acc = (rs.take i).map fun _ => V.bl true) := fun _ _ _ _ _ _ _ z => z
  refine lc_fil walk_tup hD (fun i acc _ => acc = (rs.take i).map fun _ => V.bl true) (by simp) (fun H' s' => sqT_up hL.1 s') ?_ ?_
  · rintro i v acc H2 H3 hi s2 e2 rfl ⟨rfl, hv⟩
    rw [List.getElem?_map] at hv
    obtain ⟨r, hri, rfl⟩ := Option.map_eq_some_iff.mp hv
    have hr := sqT_up (hL.2 r (List.mem_of_getElem? hri)) s2
    have fr := fine r (List.mem_of_getElem? hri)
    refine ⟨rfl, tt_yes ?_⟩
    refine ⟨_, rfl, _, rfl, L, _, rfl, sqT_up hL.1 s2, _, _, rfl, .inl ⟨r.2.d, ln_dp hr, fine_shaped fr, fine_mod fr, fun H4 s4 => ?_⟩⟩
    refine put_of hD off s2 e2 s4 ?_ ?_
    · rw [List.length_map, List.length_take, sizeLine_eq]; omega
    · rw [List.length_map, fine_line fr, List.take_add_one, hri, List.map_append]; rfl
  · rintro acc H2 s2 e2 rfl
    refine ⟨D, rs.map fun _ => true, rfl, SqL.of (by rw [e2, List.length_map, List.take_length, List.map_map]; rfl), ?_⟩
    refine ⟨_, rfl, ?_⟩
    show (if (!((rs.map fun _ => true).all id)) = true then _ else _)
    rw [show ((rs.map fun _ => true).all id) = true by rw [List.all_map]; exact List.all_eq_true.mpr fun _ _ => rfl]
    refine iteF ?_
    have hx2 := s2 _ _ hx
    have kx : Keep x H2 (upd H2 x (.ins C dx (putF "_lines" (.ref L) []))) := keep_upd
    refine ⟨_, rfl, _, rfl, x, C, dx, [], rfl, hx2, T.cl, T.nL, (by show 0 < 1000; decide), ?_⟩
    have hL3 := (hL.up s2).off hx2 kx
    refine ⟨_, rfl, (by show 1 ≤ sizeLine; decide), fun t nt => ?_⟩
    have st := same_new (o := HO.tup [V.str "if"]) nt
    refine ⟨L, t, rs, ["if"], rfl, hL3.up st, SqT.of upd_same, (by decide +kernel), by omega, fun H' p ps s' np hA hP => ?_⟩
    have hx4 := s' _ _ (st _ _ (show upd H2 x (.ins C dx (putF "_lines" (.ref L) [])) x = _ from upd_same))
    have k5 : Keep x H' (upd H' x (.ins C dx (putF "_tested" (.ref p) (putF "_lines" (.ref L) [])))) := keep_upd
    refine ⟨_, rfl, x, C, dx, _, rfl, hx4, T.cl, T.nT, (by show 1 < 1000; decide), ?_⟩
    rw [rd_flds] at k5 ⊢
    have hP5 := hP.off hx4 k5
    obtain ⟨prs, ep, hp1, hp2⟩ := id hP5
    refine ⟨_, rfl, x, C, dx, _, _, rfl, upd_same, T.cl, T.nT, rd_tested L p, p, _, rfl, hp1, _, _, rfl, rfl, _, rfl, ?_⟩
    have h6 := six ps hA
    rw [← ep, List.length_map] at h6
    rw [show decide (((prs.map fun r => V.ref r.1).length : Int) > 6) = true from decide_eq_true (by rw [List.length_map]; omega)]
    exact iteT (k _ ((((same_keep s2).trans kx).trans (same_keep (st.trans s'))).trans k5))
structure TxX2 (K : PySem.W.Frag) (mg : Str → Option Value) (P : Program) (w : World) (base : Heap) (C CR : Addr) : Prop extends TxX K mg P w base C CR where
  madeY : ∃ f, Mk K C f ∧ FnR P w K mg base (L2N.CX P w) 5 f (spStar 1 (spInitY K C CR))
theorem ok_ofY {C CR f : Addr} {fd : FuncData} (F : Fun K "of" "Reader.of" sOf f fd) (T : TxX2 K mg P w base C CR) : FnOk P w K mg base (L2N.CX P w) 7 f fd ["cls", "lines"] (spOfY K C CR) := by
  obtain ⟨g, M, G⟩ := T.madeY
  refine okN F scOf (fun vs H Q E h => ?_) (fun cdv A outer s H vs Q E hr h => ?_)
  · obtain ⟨L, xs, rfl, _⟩ := h; rfl
  · obtain ⟨L, xs, rfl, hL, few, ⟨ds, hds⟩, hb, k⟩ := h
    refine ⟨_, pss_cons (ps_if (pt_not (pt_val (pe_callB call_isi (by rfl) T.isi PyProof.Rows.boot_isinstance (pa_cons (pv 1) (pa_cons (pe_bltn (v := .ty "tuple") (by rfl) T.tuple PyProof.Rows.boot_tuple rfl) pa_nil))))) (pss_one (L2N.ps_raise rfl (L2N.takes_of rfl rfl rfl rfl) (L2N.pmk_own PySem.F.excBase_ValueError T.xR T.gR T.kR (raises_own T.bR T.tR) (by rfl)))) pss_nil)
      (pss_one (ps_ret (pe_makeS (i := 0) (E := E) M G hr (L2N.passes_call (L2N.takes_of rfl rfl rfl rfl) (fun _ _ _ _ h => h)) rfl (Or.inl rfl) (pv 1)))), ?_⟩
    refine ⟨_, rfl, .ref L, .ty "tuple", .type "tuple", .type "tuple", true, rfl, .ty _, dp_ty (Dp.tup hL hds), kit_ty (by decide +kernel), _, rfl, iteF ?_⟩
    refine ⟨rfl, _, rfl, L, _, rfl, .inl hL, fun x dx nx nd ne => ?_⟩
    have s1 : Same H (upd (upd H dx (.own x)) x (.ins C dx [])) := same_to nx (same_new nd)
    refine ⟨[.ref x], xs, rfl, rfl, by rw [sizeLine_eq]; omega, fun p np => ?_⟩
    have s2 := same_new (o := HO.tup xs) np
    exact ⟨x, dx, p, xs, rfl, s2 _ _ upd_same, SqT.of upd_same, hb.up (s1.trans s2), fun H' kp => k H' (fun b o hb => kp b o (ne_of_none hb nx) ((s1.trans s2) b o hb))⟩
/-- a line put in that makes too many lines, or too many tested pairs -/
def spWithY (K : PySem.W.Frag) (C CR : Addr) : Sp := fun vs H Q E => ∃ (r : Addr) (rs : RowsL) (n : Nat) (a : Addr) (l : Ln), vs = [.ref r, .int n, .ref a] ∧ RdAt K C H r rs ∧ RdOk rs ∧ n ≤ rs.length ∧ SqT K H a l.vs ∧
  (rs.length = 16 ∨ (rs.length < 16 ∧ l.fine (rs.length + 1) = true ∧ ∀ ps, Asc (keysOf ["if"] (putL n l (lnsOf rs))) ps → 6 < ps.length)) ∧ ∀ H', Same H H' → E (.ref CR) none H'
structure TxB4 (K : PySem.W.Frag) (mg : Str → Option Value) (P : Program) (w : World) (base : Heap) (C CN CR : Addr) : Prop extends TxB3 K mg P w base C CN CR where
  ofY : ∃ mc p g, ClX.CRead K C mc ∧ ClX.CMet K C mc "of" p g ∧ FnR P w K mg base (L2N.CX P w) 7 g (spOfY K C CR)
theorem ok_withY {C CN CR f : Addr} {fd : FuncData} (F : Fun K "with_line" "Reader.with_line" sWith f fd) (T : TxB4 K mg P w base C CN CR) : FnOk P w K mg base (L2N.CX P w) 8 f fd ["self", "at", "line"] (spWithY K C CR) := by
  obtain ⟨g, gd, mG, kG, bG, GG⟩ := T.within_
  obtain ⟨gW, gdW, mW, kW, bW, GW⟩ := T.wn
  obtain ⟨mc, p0, g0, cr, cm, G0⟩ := T.ofY
  obtain ⟨J, oN⟩ := T.oN
  refine okN F scWt (fun vs H Q E h => ?_) (fun cdv A outer s H vs Q E hr h => ?_)
  · obtain ⟨r, rs, n, a, l, rfl, _⟩ := h; rfl
  · obtain ⟨r, rs, n, a, ln, rfl, hR, ok, hn, ha, hbad, k⟩ := h
    have r1 := hr.mono (show 1 ≤ 7 by decide)
    have r3 := hr.mono (show 3 ≤ 7 by decide)
    refine ⟨_, pss_cons (ps_if (pt_not (pt_val (pe_call GG r3 (by rfl) mG kG bG .nil pass0 (pa_cons (pv 1) (pa_cons (pe_callB call_lenT (by rfl) T.len PySem.boot_len (pa_cons (pe_fld (pv 0) rfl) pa_nil)) pa_nil)))))
        (pss_one (L2N.ps_raise rfl (L2N.takes_of rfl rfl rfl rfl) (pmk_oi oN T.gN hr (pa_cons (pv 1) pa_nil)))) pss_nil)
      (pss_cons (ps_setLc (i := 3) (own := [("other", 4)]) (g := gName 4) (tt := tYes) (te := tCall (spWn K) [] E0 (tCons (tVar 4) (tCons (tVar 1) (tCons (tC (.int 1)) tNil)))) rfl scWt.nd rfl rfl (sw_true rfl rfl rfl rfl) (pi_tup (pe_fld (pv 0) rfl))
        (blkOk_by (N := ["self", "at", "line", "lines", "other"]) (sc := defScope sWith) (by decide +kernel)) (fun _ _ _ _ _ => pg_name (i := 4) scWt.nd rfl (Or.inl rfl)) (fun _ _ _ _ _ => pts_nil)
        (fun _ _ _ _ _ => pe_call GW r1 (by rfl) mW kW bW .nil pass0 (pa_cons (pv 4) (pa_cons (pv 1) (pa_cons pe_int pa_nil)))))
      (pss_cons (ps_expr (pe_bm PySem.F.plainAttrs_list PySem.F.slot_list_insert PySem.F.type_list_insert mt_insert (pv 3) (pa_cons (pv 1) (pa_cons (pv 2) pa_nil))))
      (pss_one (ps_ret (ClX.pe_cmeth (E := E) (pe_glob (v := .ref C) (by rfl) T.mgC rfl) cr cm G0 hr (L2N.passes_call (L2N.takes_of rfl rfl rfl rfl) (fun _ _ _ _ h => h)) (pa_cons (pe_callTy call_tupOf (by rfl) T.tuple PyProof.Rows.boot_tuple (pa_cons (pv 3) pa_nil)) pa_nil)))))), ?_⟩
    obtain ⟨dx, L, TT, ps, eR, hL, _⟩ := id hR
    refine ⟨_, rfl, _, rfl, r, C, dx, _, _, rfl, eR, T.cl, T.nL, rd_lines L TT, L, _, rfl, hL.1, .int n, .int n, _, rfl, .int _, ?_⟩
    rw [List.length_map]
    refine ⟨_, rfl, ?_⟩
    have hn1 : numD (.int (n : Int)) rs.length = true := by
      show (decide (0 ≤ (n : Int)) && decide ((n : Int) ≤ rs.length)) = true
      rw [decide_eq_true (by omega), decide_eq_true (by omega)]; rfl
    rw [hn1]
    refine iteF ?_
    refine ⟨_, rfl, r, C, dx, _, _, rfl, eR, T.cl, T.nL, rd_lines L TT, L, rfl, ⟨_, hL.1⟩, fun D hD => ?_⟩
    have off : Off D (fun i acc H' => ∃ ks : RowsL, acc = (ks.map fun r => V.ref r.1) ∧ (∀ r ∈ ks, SqT K H' r.1 r.2.vs) ∧ ks.map Prod.snd = ((lnsOf rs).take i).map (Ln.mv n 1)) :=
      fun i acc l H2 H3 e kp ⟨ks, z1, z2, z3⟩ => ⟨ks, z1, fun r hr => off_seq e kp (z2 r hr), z3⟩
    refine lc_fil walk_tup hD (fun i acc H' => ∃ ks : RowsL, acc = (ks.map fun r => V.ref r.1) ∧ (∀ r ∈ ks, SqT K H' r.1 r.2.vs) ∧ ks.map Prod.snd = ((lnsOf rs).take i).map (Ln.mv n 1)) ⟨[], rfl, fun r z => (by cases z), rfl⟩ (fun H' s' => sqT_up hL.1 s') ?_ ?_
    · rintro i v acc H2 H3 hi s2 e2 ⟨ks, rfl, hk, ek⟩ ⟨rfl, hv⟩
      rw [List.getElem?_map] at hv
      obtain ⟨q, hq, rfl⟩ := Option.map_eq_some_iff.mp hv
      refine ⟨rfl, tt_yes ?_⟩
      refine ⟨_, rfl, _, rfl, q.1, q.2, n, 1, rfl, sqT_up (hL.2 q (List.mem_of_getElem? hq)) s2, fun m h => by omega, fun H4 b s4 hb => ?_⟩
      have hl2 : (lnsOf rs)[i]? = some q.2 := by rw [List.getElem?_map, hq]; rfl
      refine put_of hD off s2 e2 s4 ?_ ⟨ks ++ [(b, q.2.mv n 1)], by rw [List.map_append]; rfl, fun r hr => ?_, ?_⟩
      · have h1 := congrArg List.length ek
        rw [List.length_map, List.length_map, List.length_take, List.length_map] at h1
        rw [List.length_map, sizeLine_eq]; have := ok.few; omega
      · rcases List.mem_append.mp hr with z | z
        · exact sqT_up (hk r z) s4
        · rw [List.mem_singleton.mp z]; exact hb
      · rw [List.map_append, ek, List.take_add_one, hl2, List.map_append]; rfl
    rintro acc H2 s2 e2 ⟨ks, rfl, hk, ek⟩
    have ek' : ks.map Prod.snd = (lnsOf rs).map (Ln.mv n 1) := by rw [ek, List.length_map, ← List.length_map (as := rs) (f := Prod.snd), List.take_length]
    have lk : ks.length = rs.length := by have := congrArg List.length ek'; simpa using this
    have few := ok.few
    refine ⟨_, rfl, Or.inl ⟨rfl, _, SqL.of e2⟩, _, rfl, _, rfl, D, _, n, .ref a, rfl, rfl, e2, (by rw [List.length_map, sizeLine_eq]; omega), by omega, by omega, ?_⟩
    rw [Int.toNat_natCast]
    have ev : (ks.map fun r => V.ref r.1).take n ++ [V.ref a] ++ (ks.map fun r => V.ref r.1).drop n = (ks.take n ++ [(a, ln)] ++ ks.drop n).map fun r => V.ref r.1 := by
      rw [List.map_append, List.map_append, List.map_take, List.map_drop]; rfl
    have er : (ks.take n ++ [(a, ln)] ++ ks.drop n).map Prod.snd = putL n ln (lnsOf rs) := by
      unfold putL
      rw [← ek', List.map_append, List.map_append, List.map_take, List.map_drop]; rfl
    rw [ev]
    generalize hss : ks.take n ++ [(a, ln)] ++ ks.drop n = ss at er ⊢
    have s3 : Same H (upd H2 D (.lst (ss.map fun r => V.ref r.1))) := same_to hD s2
    have e3 : upd H2 D (.lst (ss.map fun r => V.ref r.1)) D = some (.lst (ss.map fun r => V.ref r.1)) := upd_same
    have hk3 : ∀ r ∈ ks, SqT K (upd H2 D (.lst (ss.map fun r => V.ref r.1))) r.1 r.2.vs := fun r hr => off_seq e2 keep_upd (hk r hr)
    generalize upd H2 D (HO.lst (ss.map fun r => V.ref r.1)) = H3 at s3 e3 hk3 ⊢
    refine ⟨rfl, _, rfl, D, _, rfl, SqL.of e3, fun l nl => ?_⟩
    have s4 := same_new (o := HO.tup (ss.map fun r => V.ref r.1)) nl
    have e4 : upd H3 l (HO.tup (ss.map fun r => V.ref r.1)) l = some (HO.tup (ss.map fun r => V.ref r.1)) := upd_same
    generalize upd H3 l (HO.tup (ss.map fun r => V.ref r.1)) = H4 at s4 e4 ⊢
    have s04 := s3.trans s4
    have hs4 : ∀ r ∈ ss, SqT K H4 r.1 r.2.vs := fun r hr => by
      rw [← hss] at hr
      rcases List.mem_append.mp hr with hr | hr
      · rcases List.mem_append.mp hr with hr | hr
        · exact sqT_up (hk3 r (List.mem_of_mem_take hr)) s4
        · rw [List.mem_singleton.mp hr]; exact sqT_up ha s04
      · exact sqT_up (hk3 r (List.mem_of_mem_drop hr)) s4
    have ls : ss.length = rs.length + 1 := by
      have := congrArg List.length er
      rw [put_len (by rw [List.length_map]; exact hn)] at this
      simpa using this
    refine ⟨l, _, rfl, SqT.of e4, by rw [List.length_map]; omega, ⟨_, lns_dp hs4⟩, ?_, fun H' s' => k H' (s04.trans s')⟩
    rcases hbad with h16 | ⟨few, fl, six⟩
    · exact .inl (by rw [List.length_map]; omega)
    · refine .inr ⟨ss, rfl, hs4, by omega, fun r hr => ?_, fun ps hA => six ps (by rw [← er]; exact hA)⟩
      rw [ls]
      rw [← hss] at hr
      have old : r ∈ ks → r.2.fine (rs.length + 1) = true := fun hr => by
        have hm : r.2 ∈ (lnsOf rs).map (Ln.mv n 1) := by rw [← ek']; exact List.mem_map_of_mem hr
        obtain ⟨y, hy, e⟩ := List.mem_map.mp hm
        obtain ⟨q, hq, rfl⟩ := List.mem_map.mp hy
        rw [← e]
        exact fine_put (ok.fine q hq)
      rcases List.mem_append.mp hr with hr | hr
      · rcases List.mem_append.mp hr with hr | hr
        · exact old (List.mem_of_mem_take hr)
        · rw [List.mem_singleton.mp hr]; exact fl
      · exact old (List.mem_of_mem_drop hr)
end
end Rd

/-! The law: lines put in and taken out -/
namespace Rd
open PySem PySem.Spec PyProof.Rows L2 Tq Dn Dc Ox LamX
abbrev sLw : Stmt := top 60
structure TxW (K : PySem.W.Frag) (mg : Str → Option Value) (P : Program) (w : World) (base : Heap) (C CN CR : Addr) (TS : List (Addr × Str)) : Prop extends TxF K mg P w base C CN CR where
  dice : Has P w K mg base "_law_dice" 1 ["_law_script", "_law_at"] (spDice K)
  right : ∃ f fd, mg "_law_right" = some (.ref f) ∧ PySem.W.keepIn K (.ref f) = true ∧ Binds K fd ["_law_dice_here"] [] ∧ FnG P w K mg base 11 f fd ["_law_dice_here"] (spRj TS)
  made_ : ∃ f, Mk K C f ∧ FnR P w K mg base CX0 5 f (spStar 1 (spInit K C))
  wiY : ∃ f fd, Meth K C "with_line" f ∧ Binds K fd ["self", "at", "line"] [] ∧ FnOk P w K mg base (L2N.CX P w) 8 f fd ["self", "at", "line"] (spWithY K C CR)
def spLw (K : PySem.W.Frag) (T : List (Addr × Str)) : Sp := fun vs H Q _ => ∃ (a : Addr) (ns : List Int), vs = [.ref a] ∧ SqL K H a (ns.map V.int) ∧ Tabs T H ∧ ∀ H', Q (.bl true) H'
open Classical in
noncomputable def hidT (H : Hp) : Hp := fun b => if ∃ ps, H b = some (.tbl ps) then none else H b
theorem sqL_ext {K : PySem.W.Frag} {H H' : Hp} {a : Addr} {xs : List V} (h : SqL K H a xs) (s : ExtN H H') : SqL K H' a xs := by
  have sm : Same (hidT H) H' := fun b o e => by
    unfold hidT at e
    by_cases z : ∃ ps, H b = some (.tbl ps)
    · rw [if_pos z] at e; cases e
    · rw [if_neg z] at e; exact s b o e fun ps q => z ⟨ps, by rw [e, q]⟩
  have at_ : ∀ {b : Addr} {o : HO}, H b = some o → (∀ ps, o ≠ .tbl ps) → hidT H b = some o := fun {b o} e n => by
    unfold hidT
    rw [if_neg]
    · exact e
    · rintro ⟨ps, z⟩; rw [e] at z; cases z; exact n _ rfl
  refine sqL_up ?_ sm
  rcases h with (h | ⟨o, h⟩) | h
  · exact .inl (.inl (at_ h fun _ e => by cases e))
  · exact .inl (.inr ⟨o, at_ h fun _ e => by cases e⟩)
  · exact .inr h
theorem lines_ok {ls : List Ln} (h : (decide (ls.length ≤ 16) && (ls.all fun l => l.fine ls.length) && decide ((keysOf ["if"] ls).length ≤ 6)) = true) {rs : RowsL} (e : rs.map Prod.snd = ls) : RdOk rs := by
  simp only [Bool.and_eq_true, decide_eq_true_eq, List.all_eq_true] at h
  obtain ⟨⟨h1, h2⟩, h3⟩ := h
  have len : rs.length = ls.length := by rw [← e, List.length_map]
  refine ⟨by omega, fun r hr => ?_, fun ps hA => ?_⟩
  · rw [len]; exact h2 _ (by rw [← e]; exact List.mem_map_of_mem hr)
  · rw [e] at hA
    exact Nat.le_trans (sub_len (up_nodup hA.up) fun k hk => (hA.mem k).mp hk) h3
/-- tuples of lines in a list that is being filled -/
def LL (K : PySem.W.Frag) (due : List (List Ln)) (i : Nat) (acc : List V) (H : Hp) : Prop := ∃ qs : List (Addr × RowsL), acc = (qs.map fun q => V.ref q.1) ∧ (∀ q ∈ qs, LinesAt K H q.1 q.2) ∧ qs.map (fun q => lnsOf q.2) = due.take i
section
variable {K : PySem.W.Frag} {H H' : Hp} {due : List (List Ln)} {i : Nat} {acc : List V}
theorem LinesAt.offL {D L : Addr} {l : List V} {rs : RowsL} (hD : H D = some (.lst l)) (k : Keep D H H') (h : LinesAt K H L rs) : LinesAt K H' L rs := ⟨off_seq hD k h.1, fun r hr => off_seq hD k (h.2 r hr)⟩
theorem LL.off {D : Addr} : Off D (LL K due) := fun i acc l H2 H3 e kp ⟨ks, z1, z2, z3⟩ => ⟨ks, z1, fun q hq => (z2 q hq).offL e kp, z3⟩
theorem LL.up (h : LL K due i acc H) (s : Same H H') : LL K due i acc H' := let ⟨ks, z1, z2, z3⟩ := h; ⟨ks, z1, fun q hq => (z2 q hq).up s, z3⟩
theorem LL.kt {p : Addr} (h : LL K due i acc H) (d : DiceAt H p) (k : KeepT p H H') : LL K due i acc H' := let ⟨ks, z1, z2, z3⟩ := h; ⟨ks, z1, fun q hq => (z2 q hq).kt d k, z3⟩
theorem LL.nil : LL K due 0 [] H := ⟨[], rfl, fun q z => (by cases z), rfl⟩
theorem LL.put {L : Addr} {rs : RowsL} (h : LL K due i acc H) (hL : LinesAt K H L rs) (e : due[i]? = some (lnsOf rs)) : LL K due (i + 1) (acc ++ [.ref L]) H := by
  obtain ⟨ks, z1, z2, z3⟩ := h
  refine ⟨ks ++ [(L, rs)], by rw [z1, List.map_append]; rfl, fun q hq => ?_, ?_⟩
  · rcases List.mem_append.mp hq with z | z
    · exact z2 q z
    · rw [List.mem_singleton.mp z]; exact hL
  · rw [List.map_append, z3, List.take_add_one, e]; rfl
theorem LL.len (h : LL K due i acc H) : acc.length ≤ i := by
  obtain ⟨ks, z1, _, z3⟩ := h
  have := congrArg List.length z3
  rw [List.length_map, List.length_take] at this
  rw [z1, List.length_map]; omega
theorem ll_dp : ∀ {qs : List (Addr × RowsL)}, (∀ q ∈ qs, LinesAt K H q.1 q.2) → DpAll K H (qs.map fun q => V.ref q.1) ((qs.map fun q => lnsOf q.2).map dls)
  | [], _ => .nil
  | q :: qs, h => .cons (h q List.mem_cons_self).dp (ll_dp fun x hx => h x (.tail _ hx))
theorem LL.dp (h : LL K due due.length acc H) : DpAll K H acc (due.map dls) := by
  obtain ⟨ks, rfl, z2, z3⟩ := h
  rw [List.take_length] at z3
  rw [← z3]; exact ll_dp z2
end
def loopL : List Ln := [.go 0, .ift "a" "x" 1, .go 2, .ift "a" "x" 3]
def rdL : Ln := .read "a" "x"
def dueW : List (List Ln) := [[.read "a" "x", .go 0, .ift "a" "x" 2, .go 3, .ift "a" "x" 4], [.go 0, .read "a" "x", .ift "a" "x" 1, .go 3, .ift "a" "x" 4], [.go 0, .ift "a" "x" 1, .go 2, .ift "a" "x" 3, .read "a" "x"]]
def dueC : List (List Ln) := [[.go 0, .go 1, .ift "a" "x" 2], [.go 0, .ift "a" "x" 1, .go 2]]
def okB (ls : List Ln) : Bool := decide (ls.length ≤ 16) && (ls.all fun l => l.fine ls.length) && decide ((keysOf ["if"] ls).length ≤ 6)
theorem okB_ok {ls : List Ln} (h : okB ls = true) {rs : RowsL} (e : rs.map Prod.snd = ls) : RdOk rs := lines_ok h e
theorem w_put : ∀ i, i < 3 → ∃ n : Nat, [V.int 0, V.int 1, V.int 4][i]? = some (.int n) ∧ n ≤ 4 ∧ dueW[i]? = some (putL n rdL loopL) ∧ okB (putL n rdL loopL) = true
  | 0, _ => ⟨0, rfl, by decide, by decide +kernel, by decide +kernel⟩
  | 1, _ => ⟨1, rfl, by decide, by decide +kernel, by decide +kernel⟩
  | 2, _ => ⟨4, rfl, by decide, by decide +kernel, by decide +kernel⟩
  | i + 3, h => absurd h (by omega)
theorem w_cut : ∀ i, i < 2 → ∃ n : Nat, [V.int 1, V.int 3][i]? = some (.int n) ∧ n < 4 ∧ dueC[i]? = some (cutL n loopL) ∧ okB (cutL n loopL) = true
  | 0, _ => ⟨1, rfl, by decide, by decide +kernel, by decide +kernel⟩
  | 1, _ => ⟨3, rfl, by decide, by decide +kernel, by decide +kernel⟩
  | i + 2, h => absurd h (by omega)
def abcL : List Str := ["a", "b", "c", "d", "e", "f"]
def sixL : List Ln := abcL.map fun s => .ift s "x" 0
theorem abc_at : ∀ i, i < 6 → (("abcdef" : Str).cps[i]?).map (fun c => (⟨#[c]⟩ : Str)) = abcL[i]? := by decide +kernel
theorem abc_size : ("abcdef" : Str).cps.size = 6 := by decide +kernel
def sevL : List Ln := putL 6 (.ift "g" "x" 0) sixL
theorem sev_nd : (keysOf ["if"] sevL).Nodup := by decide +kernel
theorem sev_len : (keysOf ["if"] sevL).length = 7 := by decide +kernel
theorem sev_many {ps : List (List Str)} (h : Asc (keysOf ["if"] sevL) ps) : 6 < ps.length := by
  have := sub_len sev_nd fun k hk => (h.mem k).mpr hk
  rw [sev_len] at this; omega
def fullL : List Ln := List.replicate 16 (.go 16)
def lessL : List Ln := List.replicate 15 (.go 15)
theorem full_cut : cutL 0 fullL = lessL := by decide +kernel
section
variable {P : Program} {w : World} {K : PySem.W.Frag} {mg : Str → Option Value} {base : Heap}
/-- a reader made by its class -/
theorem made_at {C : Addr} {H : Hp} {rs : RowsL} (hL : ∀ r ∈ rs, SqT K H r.1 r.2.vs) (ok : RdOk rs) {x dx : Addr} (nx : H x = Option.none) (nd : H dx = Option.none) (ne : dx ≠ x) {W : V → Hp → Prop} (k : ∀ H', Same H H' → RdAt K C H' x rs → W .non H') :
    spStar 1 (spInit K C) (V.ref x :: (rs.map fun r => V.ref r.1)) (upd (upd H dx (.own x)) x (.ins C dx [])) W E0 := by
  have s1 : Same H (upd (upd H dx (.own x)) x (.ins C dx [])) := same_to nx (same_new nd)
  refine ⟨[.ref x], _, rfl, rfl, by rw [List.length_map, sizeLine_eq]; have := ok.few; omega, fun p np => ?_⟩
  have s2 := same_new (o := HO.tup (rs.map fun r => V.ref r.1)) np
  refine ⟨x, dx, p, rs, rfl, s2 _ _ upd_same, ⟨SqT.of upd_same, fun r hr => sqT_up (hL r hr) (s1.trans s2)⟩, ok, fun H' T ps kp e hA hP => ?_⟩
  have hx0 : upd (upd (upd H dx (.own x)) x (.ins C dx [])) p (HO.tup (rs.map fun r => V.ref r.1)) x = some (.ins C dx []) := s2 _ _ upd_same
  refine k H' (fun b o hb => ?_) (rd_new e (LinesAt.off hx0 kp ⟨SqT.of upd_same, fun r hr => sqT_up (hL r hr) (s1.trans s2)⟩) hA hP)
  exact kp b o (ne_of_none hb nx) ((s1.trans s2) b o hb)
abbrev nLw : List Str := ["_law_script", "_law_at", "_law_dice_here", "_law_turn", "_law_loop", "_law_told", "_law_due", "_law_last", "_law_full", "_law_six", "_law_word"]
theorem scLw : FnScope nLw ["_law_script"] (defScope sLw) := ⟨rfl, rfl, rfl, by decide +kernel, rfl, by decide +kernel, by decide +kernel⟩
theorem ok_lw {C CN CR f PT cc : Addr} {fd : FuncData} {TS : List (Addr × Str)} (F : Fun K "law" "law" sLw f fd) (T : TxW K mg P w base C CN CR TS) (hcd : fd.code = .ref cc) (TB : TabB base mg cc PT)
    (hmT : ∀ n, (PT, (envOfC "law" (defScope sLw) n f (.ref cc)).qual ++ "<lambda>") ∈ TS) (hu' : ∀ n, ∀ p ∈ TS, p.1 = PT → p.2 = (envOfC "law" (defScope sLw) n f (.ref cc)).qual ++ "<lambda>") : FnG P w K mg base 12 f fd ["_law_script"] (spLw K TS) := by
  obtain ⟨mc, p0, g0, cr, cm, G0⟩ := T.of_
  obtain ⟨fM, MK, GMk⟩ := T.made_
  obtain ⟨p1, _, fd1, P1, B1, G1⟩ := T.lines_
  obtain ⟨fD, fdD, mD, kD, bD, GD⟩ := T.dice
  obtain ⟨fR, fdR, mR, kR, bR, GR⟩ := T.right
  obtain ⟨gW, gdW, MW, bW, GW⟩ := T.wi
  obtain ⟨gY, gdY, MY, bY, GY⟩ := T.wiY
  obtain ⟨gU, gdU, MU, bU, GU⟩ := T.wo
  obtain ⟨gM, ocM, kVM, dcM, pmM, cdM, ctM, odM, anM, slM, mM, kM, cM, lM, bM⟩ := T.met
  refine okGc hcd F scLw (fun vs H Q E h => ?_) (fun A outer s H vs Q E hgd hr h => ?_)
  · obtain ⟨a, ns, rfl, _⟩ := h; rfl
  · obtain ⟨a, ns, rfl, hS, tb, k⟩ := h
    have hu := hr.units
    have hsm := T.y.sysm
    have r1 := hr.mono (show 1 ≤ 11 by decide)
    have r2 := hr.mono (show 2 ≤ 11 by decide)
    have r6 := hr.mono (show 6 ≤ 11 by decide)
    have r7 := hr.mono (show 7 ≤ 11 by decide)
    have r8 := hr.mono (show 8 ≤ 11 by decide)
    have r10 := hr.mono (show 10 ≤ 11 by decide)
    have pe_lam1 := fun {params : Arguments} {body : Expr} {scope : Scope} {t : XK → TE} {p lpos pos : Pos} (L : LamS (defScope sLw) scope) (hdef) (hbind) (hbody) => Rl.pe_lamN (X := (cxOf CX0 P w K mg base nLw "law" (defScope sLw) f (.ref cc) A outer s H E).nox) (T := TS) (TT := TTmet CN CR) (x := "_law_met") (a := "_law_call") (g := gM) (c := cc) (P := PT) (k := 8) (Ng := ["_law_call", "e"]) (params := params) (body := body) (scope := scope) (t := t) (p := p) (lpos := lpos) (pos := pos)
      (by rfl) mM kM lM cM bM scMet rfl (fun _ => rfl) (.inl rfl) (met_gives hgd T.y) TB rfl (hmT _) (hu' _) r10 L hdef hbind hbody
    refine ⟨_, pss_cons (ps_for PassesOwn.never rfl (pi_range1 (by rfl) T.range (pa_cons (pe_callB (call_max2 rfl) (by rfl) T.max PyProof.Rows.boot_max (pa_cons pe_int (pa_cons (pe_callB (call_min2 rfl) (by rfl) T.min PyProof.Rows.boot_min (pa_cons pe_int (pa_cons (pe_callB call_len_seq (by rfl) T.len PySem.boot_len (pa_cons (pv 0) pa_nil)) pa_nil))) pa_nil))) pa_nil)) (pg_name (i := 1) scLw.nd rfl (.inl rfl))
        (pss_cons (ps_set (i := 2) scLw.nd rfl (Or.inl rfl) (pe_call GD r1 (by rfl) mD kD bD .nil pass0 (pa_cons (pv 0) (pa_cons (pv 1) pa_nil))))
        (pss_one (ps_for PassesOwn.never rfl (pi_range1 (by rfl) T.range (pa_cons pe_int pa_nil)) (pg_name (i := 3) scLw.nd rfl (.inl rfl))
          (pss_one (ps_if (pt_not (pt_val (pe_callG GR hgd hr (by rfl) mR kR bR (pa_cons (pv 2) pa_nil)))) (pss_one (ps_ret pe_bl)) pss_nil))))))
      (pss_cons (ps_set (i := 4) scLw.nd rfl (Or.inr rfl) (StX.pe_makeR MK GMk r6 (by rfl) T.mgC pass0 (pa_cons (pe_tup (pa_cons pe_str (pa_cons pe_int pa_nil))) (pa_cons (pe_tup (pa_cons pe_str (pa_cons pe_str (pa_cons pe_str (pa_cons pe_int pa_nil))))) (pa_cons (pe_tup (pa_cons pe_str (pa_cons pe_int pa_nil))) (pa_cons (pe_tup (pa_cons pe_str (pa_cons pe_str (pa_cons pe_str (pa_cons pe_int pa_nil))))) pa_nil))))))
      (pss_cons (ps_setLc (i := 5) (own := [("_law_at", 1)]) (g := gName 1) (tt := tYes) (te := tProp C (getSp C "_lines") [] E0 (tMeth C "with_line" (spWith K C CN CR) [] E0 (tVar 4) (tCons (tVar 1) (tCons (tTup (tCons (tC (.str "read")) (tCons (tC (.str "a")) (tCons (tC (.str "x")) tNil)))) tNil)))) rfl scLw.nd rfl rfl (sw_true rfl rfl rfl rfl) (pi_tup (pe_tup (pa_cons pe_int (pa_cons pe_int (pa_cons pe_int pa_nil))))) (blkOk_by (N := nLw) (sc := defScope sLw) (by decide +kernel)) (fun _ _ _ _ _ => pg_name (i := 1) scLw.nd rfl (Or.inl rfl)) (fun _ _ _ _ _ => pts_nil) (fun _ _ _ _ _ => (pe_prop (pe_meth (E := E0) (pv 4) T.cl MW GW r8 bW .nil passM (pa_cons (pv 1) (pa_cons (pe_tup (pa_cons pe_str (pa_cons pe_str (pa_cons pe_str pa_nil)))) pa_nil))) T.cl P1 G1 r2 B1 .nil pass0 (by rfl))))
      (pss_cons (ps_set (i := 6) scLw.nd rfl (Or.inl rfl) (pe_lst (pa_cons (pe_tup (pa_cons (pe_tup (pa_cons pe_str (pa_cons pe_str (pa_cons pe_str pa_nil)))) (pa_cons (pe_tup (pa_cons pe_str (pa_cons pe_int pa_nil))) (pa_cons (pe_tup (pa_cons pe_str (pa_cons pe_str (pa_cons pe_str (pa_cons pe_int pa_nil))))) (pa_cons (pe_tup (pa_cons pe_str (pa_cons pe_int pa_nil))) (pa_cons (pe_tup (pa_cons pe_str (pa_cons pe_str (pa_cons pe_str (pa_cons pe_int pa_nil))))) pa_nil)))))) pa_nil)))
      (pss_cons (ps_expr (pe_bm PySem.F.plainAttrs_list PySem.F.slot_list_append PySem.F.type_list_append mt_append (pv 6) (pa_cons (pe_tup (pa_cons (pe_tup (pa_cons pe_str (pa_cons pe_int pa_nil))) (pa_cons (pe_tup (pa_cons pe_str (pa_cons pe_str (pa_cons pe_str pa_nil)))) (pa_cons (pe_tup (pa_cons pe_str (pa_cons pe_str (pa_cons pe_str (pa_cons pe_int pa_nil))))) (pa_cons (pe_tup (pa_cons pe_str (pa_cons pe_int pa_nil))) (pa_cons (pe_tup (pa_cons pe_str (pa_cons pe_str (pa_cons pe_str (pa_cons pe_int pa_nil))))) pa_nil)))))) pa_nil)))
      (pss_cons (ps_expr (pe_bm PySem.F.plainAttrs_list PySem.F.slot_list_append PySem.F.type_list_append mt_append (pv 6) (pa_cons (pe_tup (pa_cons (pe_tup (pa_cons pe_str (pa_cons pe_int pa_nil))) (pa_cons (pe_tup (pa_cons pe_str (pa_cons pe_str (pa_cons pe_str (pa_cons pe_int pa_nil))))) (pa_cons (pe_tup (pa_cons pe_str (pa_cons pe_int pa_nil))) (pa_cons (pe_tup (pa_cons pe_str (pa_cons pe_str (pa_cons pe_str (pa_cons pe_int pa_nil))))) (pa_cons (pe_tup (pa_cons pe_str (pa_cons pe_str (pa_cons pe_str pa_nil)))) pa_nil)))))) pa_nil)))
      (pss_cons (ps_if (PW.pt (pw_or (pt_cmpR (op_neD hu) (pv 5) (pv 6) (nomark _)) (pw_or1 (pt_cmpR (op_neD hu) (pe_lc (own := [("_law_at", 1)]) (g := gName 1) (tt := tYes) (te := tProp C (getSp C "_lines") [] E0 (tMeth C "without_line" (spWout K C CN) [] E0 (tVar 4) (tCons (tVar 1) tNil))) rfl scLw.nd (pi_tup (pe_tup (pa_cons pe_int (pa_cons pe_int pa_nil)))) (blkOk_by (N := nLw) (sc := defScope sLw) (by decide +kernel)) (fun _ _ _ _ _ => pg_name (i := 1) scLw.nd rfl (Or.inl rfl)) (fun _ _ _ _ _ => pts_nil) (fun _ _ _ _ _ => (pe_prop (pe_meth (E := E0) (pv 4) T.cl MU GU r8 bU .nil passM (pa_cons (pv 1) pa_nil)) T.cl P1 G1 r2 B1 .nil pass0 (by rfl)))) (pe_lst (pa_cons (pe_tup (pa_cons (pe_tup (pa_cons pe_str (pa_cons pe_int pa_nil))) (pa_cons (pe_tup (pa_cons pe_str (pa_cons pe_int pa_nil))) (pa_cons (pe_tup (pa_cons pe_str (pa_cons pe_str (pa_cons pe_str (pa_cons pe_int pa_nil))))) pa_nil)))) (pa_cons (pe_tup (pa_cons (pe_tup (pa_cons pe_str (pa_cons pe_int pa_nil))) (pa_cons (pe_tup (pa_cons pe_str (pa_cons pe_str (pa_cons pe_str (pa_cons pe_int pa_nil))))) (pa_cons (pe_tup (pa_cons pe_str (pa_cons pe_int pa_nil))) pa_nil)))) pa_nil))) (nomark _))))) (pss_one (ps_ret pe_bl)) pss_nil)
      (pss_cons (ps_asg (pe_tup (pa_cons (ClX.pe_cmeth (pe_glob (v := .ref C) (by rfl) T.mgC rfl) cr cm G0 r7 pass0 (pa_cons (pe_op op_repT (pe_tup (pa_cons (pe_tup (pa_cons pe_str (pa_cons pe_int pa_nil))) pa_nil)) pe_int) pa_nil)) (pa_cons (StX.pe_makeR MK GMk r6 (by rfl) T.mgC pass0 (pa_cons (pe_tup (pa_cons pe_str (pa_cons pe_int pa_nil))) pa_nil)) pa_nil))) (pg_tup rfl (pgs_cons (pg_name (i := 8) scLw.nd rfl (.inr rfl)) (pgs_cons (pg_name (i := 7) scLw.nd rfl (.inl rfl)) pgs_nil))))
      (pss_cons (ps_set (i := 5) scLw.nd rfl (Or.inl rfl) (pe_lst (pa_cons (pe_lam1 (lamS_by (by rfl)) rfl (fun _ _ _ _ _ => rfl) (fun A outer s H E f c hr2 => (pe_meth (E := E) (pv 8) T.cl MY GY hr2 bY .nil (L2N.passes_call (L2N.takes_of rfl rfl rfl rfl) (fun _ _ _ _ h => h)) (pa_cons pe_int (pa_cons (pe_tup (pa_cons pe_str (pa_cons pe_int pa_nil))) pa_nil))))) pa_nil)))
      (pss_cons (ps_expr (pe_bm PySem.F.plainAttrs_list PySem.F.slot_list_append PySem.F.type_list_append mt_append (pv 5) (pa_cons (pe_lam1 (lamS_by (by rfl)) rfl (fun _ _ _ _ _ => rfl) (fun A outer s H E f c hr2 => (pe_meth (E := E) (pv 8) T.cl MW GW hr2 bW .nil (L2N.passes_call (L2N.takes_of rfl rfl rfl rfl) (fun _ _ _ _ h => h)) (pa_cons pe_int (pa_cons (pe_tup (pa_cons pe_str (pa_cons pe_int pa_nil))) pa_nil))))) pa_nil)))
      (pss_cons (ps_set (i := 5) scLw.nd rfl (Or.inl rfl) (pe_op op_cat (pv 5) (pe_lst (pa_cons (pe_prop (pe_meth (E := E0) (pv 7) T.cl MW GW r8 bW .nil passM (pa_cons pe_int (pa_cons (pe_tup (pa_cons pe_str (pa_cons pe_int pa_nil))) pa_nil))) T.cl P1 G1 r2 B1 .nil pass0 (by rfl)) (pa_cons (pe_prop (pe_meth (E := E0) (pv 7) T.cl MW GW r8 bW .nil passM (pa_cons pe_int (pa_cons (pe_tup (pa_cons pe_str (pa_cons pe_int pa_nil))) pa_nil))) T.cl P1 G1 r2 B1 .nil pass0 (by rfl)) (pa_cons (pe_prop (pe_meth (E := E0) (pv 7) T.cl MU GU r8 bU .nil passM (pa_cons pe_int pa_nil)) T.cl P1 G1 r2 B1 .nil pass0 (by rfl)) pa_nil))))))
      (pss_cons (ps_expr (pe_bm PySem.F.plainAttrs_list PySem.F.slot_list_append PySem.F.type_list_append mt_append (pv 5) (pa_cons (pe_cmpR (op_eqD hu) (pe_prop (pe_meth (E := E0) (pv 8) T.cl MU GU r8 bU .nil passM (pa_cons pe_int pa_nil)) T.cl P1 G1 r2 B1 .nil pass0 (by rfl)) (pe_op op_repT (pe_tup (pa_cons (pe_tup (pa_cons pe_str (pa_cons pe_int pa_nil))) pa_nil)) pe_int) (nomark _)) pa_nil)))
      (pss_cons (ps_set (i := 6) scLw.nd rfl (Or.inl rfl) (pe_lst (pa_cons (pe_lst (pa_cons pe_str pa_nil)) (pa_cons (pe_lst (pa_cons pe_str (pa_cons pe_str pa_nil))) (pa_cons (pe_tup (pa_cons (pe_tup (pa_cons pe_str (pa_cons pe_int pa_nil))) (pa_cons (pe_tup (pa_cons pe_str (pa_cons pe_int pa_nil))) pa_nil))) (pa_cons (pe_tup (pa_cons (pe_tup (pa_cons pe_str (pa_cons pe_int pa_nil))) (pa_cons (pe_tup (pa_cons pe_str (pa_cons pe_int pa_nil))) pa_nil))) (pa_cons (pe_tup pa_nil) (pa_cons pe_bl pa_nil))))))))
      (pss_cons (ps_set (i := 9) scLw.nd rfl (Or.inr rfl) (ClX.pe_cmeth (pe_glob (v := .ref C) (by rfl) T.mgC rfl) cr cm G0 r7 pass0 (pa_cons (pe_callTy call_tupOf (by rfl) T.tuple PyProof.Rows.boot_tuple (pa_cons (pe_lc (own := [("_law_word", 10)]) (g := gName 10) (tt := tYes) (te := tTup (tCons (tC (.str "if")) (tCons (tVar 10) (tCons (tC (.str "x")) (tCons (tC (.int 0)) tNil))))) rfl scLw.nd (pi_str pe_str) (blkOk_by (N := nLw) (sc := defScope sLw) (by decide +kernel)) (fun _ _ _ _ _ => pg_name (i := 10) scLw.nd rfl (Or.inl rfl)) (fun _ _ _ _ _ => pts_nil) (fun _ _ _ _ _ => (pe_tup (pa_cons pe_str (pa_cons (pv 10) (pa_cons pe_str (pa_cons pe_int pa_nil))))))) pa_nil)) pa_nil)))
      (pss_one (ps_ret (pe_and (pe_cmpR (op_eqD hu) (pv 5) (pv 6) (nomark _)) (pe_one (pe_cmpR (op_eqD hu) (pe_lam1 (lamS_by (by rfl)) rfl (fun _ _ _ _ _ => rfl) (fun A outer s H E f c hr2 => (pe_meth (E := E) (pv 9) T.cl MY GY hr2 bY .nil (L2N.passes_call (L2N.takes_of rfl rfl rfl rfl) (fun _ _ _ _ h => h)) (pa_cons pe_int (pa_cons (pe_tup (pa_cons pe_str (pa_cons pe_str (pa_cons pe_str (pa_cons pe_int pa_nil))))) pa_nil))))) (pe_lst (pa_cons pe_str pa_nil)) (nomark _))))))))))))))))))), ?_⟩
    have hj : ∀ m : Nat, 1 ≤ (if (if ((m : Nat) : Int) < 5 then ((m : Nat) : Int) else 5) > 1 then (if ((m : Nat) : Int) < 5 then ((m : Nat) : Int) else 5) else 1) ∧ (if (if ((m : Nat) : Int) < 5 then ((m : Nat) : Int) else 5) > 1 then (if ((m : Nat) : Int) < 5 then ((m : Nat) : Int) else 5) else 1) ≤ 5 := fun m => by
      constructor <;> (repeat' split) <;> omega
    refine ⟨_, rfl, a, _, rfl, .inl hS, _, _, rfl, _, _, rfl, _, rfl, ?_, ?_, ?_⟩
    · have := (hj (ns.map V.int).length).1; exact Int.le_trans (by decide) this
    · have := (hj (ns.map V.int).length).2; exact Int.lt_of_le_of_lt this (by decide)
    have hn := (hj (ns.map V.int).length).2
    have hn1 := (hj (ns.map V.int).length).1
    generalize (if (if (((ns.map V.int).length : Nat) : Int) < 5 then (((ns.map V.int).length : Nat) : Int) else 5) > 1 then (if (((ns.map V.int).length : Nat) : Int) < 5 then (((ns.map V.int).length : Nat) : Int) else 5) else 1) = jj at hn hn1 ⊢
    clear hj
    refine for_it walk_range (fun i σ H' => (∃ b c d, σ = [some (.ref a), b, c, d, none, none, none, none, none, none, none]) ∧ ExtN H H' ∧ Tabs TS H' ∧ (0 < i → ∃ p, DiceAt H' p)) ⟨⟨_, _, _, rfl⟩, fun _ _ h _ => h, tb, fun z => absurd z (by decide)⟩ (fun _ _ _ _ _ => trivial) ?_ ?_
    · rintro i x σ Ha Hb hi ⟨⟨b, c, d, rfl⟩, s0, t0, _⟩ ⟨rfl, rfl⟩
      refine ⟨_, rfl, _, rfl, a, ns, i, by (show [V.ref a, V.int (0 + ((i : Nat) : Int))] = _; rw [Int.zero_add]), sqL_ext hS s0, by omega, fun p x y np hx => ?_⟩
      have dp : DiceAt (upd Hb p (.lst [.int x, .int y, .int 0])) p := ⟨_, _, _, upd_same, hx⟩
      have sp := same_new (o := HO.lst [V.int x, V.int y, V.int 0]) np
      have tp := t0.ext sp
      refine ⟨3, rfl, by decide, by decide, ?_⟩
      refine for_it walk_range (fun i σ H' => (∃ b d, σ = [some (.ref a), b, some (.ref p), d, none, none, none, none, none, none, none]) ∧ ExtN Hb H' ∧ Tabs TS H' ∧ DiceAt H' p) ⟨⟨_, _, rfl⟩, fun b o h _ => sp b o h, tp, dp⟩ (fun _ _ _ _ _ => trivial) ?_ ?_
      · rintro j y2 σ Hc Hd hj ⟨⟨b2, d2, rfl⟩, sc, tc, dc⟩ ⟨rfl, rfl⟩
        refine ⟨_, rfl, p, rfl, dc, tc, fun He ke de te => ⟨_, rfl, iteF ?_⟩⟩
        exact ⟨⟨_, _, rfl⟩, fun z u e nt => ke z u (fun q => by rw [q, np] at e; cases e) (sc z u e nt) nt, te, de⟩
      · rintro σ Hf ⟨⟨b2, d2, rfl⟩, sf, tf, df⟩
        exact ⟨⟨_, _, _, rfl⟩, fun z u e nt => sf z u (s0 z u e nt) nt, tf, fun _ => ⟨p, df⟩⟩
    rintro σ H0 ⟨⟨x1, x2, x3, rfl⟩, s0, b0, hp0⟩
    obtain ⟨p, d0⟩ := hp0 (by omega)
    clear s0 hS tb hp0
    refine ⟨(by show 2 ≤ sizeLine; decide), fun t1 n1 => ?_⟩
    have ne1 := dice_ne d0 n1
    have s1 := same_new (o := HO.tup [V.str "go", V.int 0]) n1
    have h1 : upd H0 t1 (HO.tup [V.str "go", V.int 0]) t1 = some (HO.tup [V.str "go", V.int 0]) := upd_same
    have q1 : KeepT p H0 (upd H0 t1 (HO.tup [V.str "go", V.int 0])) := kt_same s1
    have d1 := dice_upd (o := HO.tup [V.str "go", V.int 0]) d0 ne1
    have b1 := b0.ext s1
    generalize upd H0 t1 (HO.tup [V.str "go", V.int 0]) = H1 at s1 h1 q1 d1 b1 ⊢
    refine ⟨(by show 4 ≤ sizeLine; decide), fun t2 n2 => ?_⟩
    have ne2 := dice_ne d1 n2
    have s2 := same_new (o := HO.tup [V.str "if", V.str "a", V.str "x", V.int 1]) n2
    have h2 : upd H1 t2 (HO.tup [V.str "if", V.str "a", V.str "x", V.int 1]) t2 = some (HO.tup [V.str "if", V.str "a", V.str "x", V.int 1]) := upd_same
    have q2 : KeepT p H1 (upd H1 t2 (HO.tup [V.str "if", V.str "a", V.str "x", V.int 1])) := kt_same s2
    have d2 := dice_upd (o := HO.tup [V.str "if", V.str "a", V.str "x", V.int 1]) d1 ne2
    have b2 := b1.ext s2
    generalize upd H1 t2 (HO.tup [V.str "if", V.str "a", V.str "x", V.int 1]) = H2 at s2 h2 q2 d2 b2 ⊢
    refine ⟨(by show 2 ≤ sizeLine; decide), fun t3 n3 => ?_⟩
    have ne3 := dice_ne d2 n3
    have s3 := same_new (o := HO.tup [V.str "go", V.int 2]) n3
    have h3 : upd H2 t3 (HO.tup [V.str "go", V.int 2]) t3 = some (HO.tup [V.str "go", V.int 2]) := upd_same
    have q3 : KeepT p H2 (upd H2 t3 (HO.tup [V.str "go", V.int 2])) := kt_same s3
    have d3 := dice_upd (o := HO.tup [V.str "go", V.int 2]) d2 ne3
    have b3 := b2.ext s3
    generalize upd H2 t3 (HO.tup [V.str "go", V.int 2]) = H3 at s3 h3 q3 d3 b3 ⊢
    refine ⟨(by show 4 ≤ sizeLine; decide), fun t4 n4 => ?_⟩
    have ne4 := dice_ne d3 n4
    have s4 := same_new (o := HO.tup [V.str "if", V.str "a", V.str "x", V.int 3]) n4
    have h4 : upd H3 t4 (HO.tup [V.str "if", V.str "a", V.str "x", V.int 3]) t4 = some (HO.tup [V.str "if", V.str "a", V.str "x", V.int 3]) := upd_same
    have q4 : KeepT p H3 (upd H3 t4 (HO.tup [V.str "if", V.str "a", V.str "x", V.int 3])) := kt_same s4
    have d4 := dice_upd (o := HO.tup [V.str "if", V.str "a", V.str "x", V.int 3]) d3 ne4
    have b4 := b3.ext s4
    generalize upd H3 t4 (HO.tup [V.str "if", V.str "a", V.str "x", V.int 3]) = H4 at s4 h4 q4 d4 b4 ⊢
    have hrs4 : ∀ r ∈ ([(t1, Ln.go 0), (t2, Ln.ift "a" "x" 1), (t3, Ln.go 2), (t4, Ln.ift "a" "x" 3)] : RowsL), SqT K H4 r.1 r.2.vs := by
      intro r hr
      simp only [List.mem_cons, List.not_mem_nil, or_false] at hr
      rcases hr with rfl | rfl | rfl | rfl
      · exact (sqT_kt (SqT.of h1) d1 (KeepT.trans q2 (KeepT.trans q3 q4)))
      · exact (sqT_kt (SqT.of h2) d2 (KeepT.trans q3 q4))
      · exact (sqT_kt (SqT.of h3) d3 q4)
      · exact (SqT.of h4)
    intro r5 dr5 nr5 nd5 ne5
    refine made_at (rs := [(t1, Ln.go 0), (t2, Ln.ift "a" "x" 1), (t3, Ln.go 2), (t4, Ln.ift "a" "x" 3)]) hrs4 (okB_ok (ls := loopL) (by decide +kernel) rfl) nr5 nd5 ne5 (fun H5 s5 hR5 => ⟨rfl, ?_⟩)
    have q5 : KeepT p H4 H5 := kt_same s5
    have d5 := dice_same2 d4 s5
    have b5 := b4.ext s5
    obtain ⟨rs, ers, hRl⟩ : ∃ rs : RowsL, lnsOf rs = loopL ∧ RdAt K C H5 r5 rs := ⟨_, rfl, hR5⟩
    clear hR5
    have ok : RdOk rs := okB_ok (ls := loopL) (by decide +kernel) ers
    have len4 : rs.length = 4 := by have := congrArg List.length ers; rw [List.length_map] at this; exact this
    obtain ⟨dx, Lr, Tr, pr, eR, hLr, _⟩ := id hRl
    refine ⟨(by show 3 ≤ sizeLine; decide), fun t6 n6 => ?_⟩
    have ne6 := dice_ne d5 n6
    have s6 := same_new (o := HO.tup [V.int 0, V.int 1, V.int 4]) n6
    have h6 : upd H5 t6 (HO.tup [V.int 0, V.int 1, V.int 4]) t6 = some (HO.tup [V.int 0, V.int 1, V.int 4]) := upd_same
    have q6 : KeepT p H5 (upd H5 t6 (HO.tup [V.int 0, V.int 1, V.int 4])) := kt_same s6
    have d6 := dice_upd (o := HO.tup [V.int 0, V.int 1, V.int 4]) d5 ne6
    have b6 := b5.ext s6
    generalize upd H5 t6 (HO.tup [V.int 0, V.int 1, V.int 4]) = H6 at s6 h6 q6 d6 b6 ⊢
    refine ⟨t6, rfl, ⟨_, SqT.of h6⟩, fun D1 nD1 => ?_⟩
    refine lc_fil (walk_tup (xs := [V.int 0, V.int 1, V.int 4])) nD1 (LL K dueW) LL.nil (fun H' s' => sqT_up (SqT.of h6) s') ?_ ?_
    · rintro i v acc Ha Hb hi sa ea hacc ⟨rfl, hv⟩
      have hi3 : i < 3 := hi
      obtain ⟨n, hn1, hn2, hn3, hn4⟩ := w_put i hi
      obtain rfl : v = V.int n := by rw [hn1] at hv; exact (Option.some.inj hv).symm
      refine ⟨rfl, tt_yes ?_⟩
      refine ⟨_, rfl, r5, dx, _, rfl, sa _ _ (q6 _ _ (not_p d5 eR (fun _ z => by cases z)) eR (fun _ z => by cases z)), rd_no (by decide +kernel) (by decide +kernel), _, rfl, (by show 3 ≤ sizeLine; decide), fun t nt => ?_⟩
      have st := same_new (o := HO.tup [V.str "read", V.str "a", V.str "x"]) nt
      have hR2 := (RdAt.up (hRl.kt d5 q6) sa).up st
      refine ⟨r5, rs, _, _, _, rfl, hR2, ok, .int _, .inr ⟨n, rfl, by omega, by omega, .inl ⟨t, rdL, rfl, SqT.of upd_same, fun ss e => okB_ok hn4 (by rw [e, ers]), fun Hc m ms sc nm em hM => ?_⟩⟩⟩
      obtain ⟨dm, Lm, Tm, pm, eM, hLm, _⟩ := id hM
      refine ⟨m, dm, _, rfl, eM, m, dm, _, _, rfl, eM, rd_lines Lm Tm, ?_⟩
      refine put_of nD1 LL.off sa ea (st.trans sc) (by have := hacc.len; rw [sizeLine_eq]; omega) ((hacc.up (st.trans sc)).put hLm ?_)
      rw [hn3, show lnsOf ms = putL n rdL (lnsOf rs) from em, ers]
    rintro acc H7 s7 e7 hacc7
    have q7 : KeepT p H6 H7 := kt_same s7
    have ne7 := dice_ne d6 nD1
    have d7 := dice_same2 d6 s7
    have b7 := b6.ext s7
    have hlen7 := hacc7.len
    rw [show ([V.int 0, V.int 1, V.int 4] : List V).length = dueW.length from rfl] at hacc7 hlen7
    refine ⟨(by show 3 ≤ sizeLine; decide), fun t8 n8 => ?_⟩
    have ne8 := dice_ne d7 n8
    have s8 := same_new (o := HO.tup [V.str "read", V.str "a", V.str "x"]) n8
    have h8 : upd H7 t8 (HO.tup [V.str "read", V.str "a", V.str "x"]) t8 = some (HO.tup [V.str "read", V.str "a", V.str "x"]) := upd_same
    have q8 : KeepT p H7 (upd H7 t8 (HO.tup [V.str "read", V.str "a", V.str "x"])) := kt_same s8
    have d8 := dice_upd (o := HO.tup [V.str "read", V.str "a", V.str "x"]) d7 ne8
    have b8 := b7.ext s8
    generalize upd H7 t8 (HO.tup [V.str "read", V.str "a", V.str "x"]) = H8 at s8 h8 q8 d8 b8 ⊢
    refine ⟨(by show 2 ≤ sizeLine; decide), fun t9 n9 => ?_⟩
    have ne9 := dice_ne d8 n9
    have s9 := same_new (o := HO.tup [V.str "go", V.int 0]) n9
    have h9 : upd H8 t9 (HO.tup [V.str "go", V.int 0]) t9 = some (HO.tup [V.str "go", V.int 0]) := upd_same
    have q9 : KeepT p H8 (upd H8 t9 (HO.tup [V.str "go", V.int 0])) := kt_same s9
    have d9 := dice_upd (o := HO.tup [V.str "go", V.int 0]) d8 ne9
    have b9 := b8.ext s9
    generalize upd H8 t9 (HO.tup [V.str "go", V.int 0]) = H9 at s9 h9 q9 d9 b9 ⊢
    refine ⟨(by show 4 ≤ sizeLine; decide), fun t10 n10 => ?_⟩
    have ne10 := dice_ne d9 n10
    have s10 := same_new (o := HO.tup [V.str "if", V.str "a", V.str "x", V.int 2]) n10
    have h10 : upd H9 t10 (HO.tup [V.str "if", V.str "a", V.str "x", V.int 2]) t10 = some (HO.tup [V.str "if", V.str "a", V.str "x", V.int 2]) := upd_same
    have q10 : KeepT p H9 (upd H9 t10 (HO.tup [V.str "if", V.str "a", V.str "x", V.int 2])) := kt_same s10
    have d10 := dice_upd (o := HO.tup [V.str "if", V.str "a", V.str "x", V.int 2]) d9 ne10
    have b10 := b9.ext s10
    generalize upd H9 t10 (HO.tup [V.str "if", V.str "a", V.str "x", V.int 2]) = H10 at s10 h10 q10 d10 b10 ⊢
    refine ⟨(by show 2 ≤ sizeLine; decide), fun t11 n11 => ?_⟩
    have ne11 := dice_ne d10 n11
    have s11 := same_new (o := HO.tup [V.str "go", V.int 3]) n11
    have h11 : upd H10 t11 (HO.tup [V.str "go", V.int 3]) t11 = some (HO.tup [V.str "go", V.int 3]) := upd_same
    have q11 : KeepT p H10 (upd H10 t11 (HO.tup [V.str "go", V.int 3])) := kt_same s11
    have d11 := dice_upd (o := HO.tup [V.str "go", V.int 3]) d10 ne11
    have b11 := b10.ext s11
    generalize upd H10 t11 (HO.tup [V.str "go", V.int 3]) = H11 at s11 h11 q11 d11 b11 ⊢
    refine ⟨(by show 4 ≤ sizeLine; decide), fun t12 n12 => ?_⟩
    have ne12 := dice_ne d11 n12
    have s12 := same_new (o := HO.tup [V.str "if", V.str "a", V.str "x", V.int 4]) n12
    have h12 : upd H11 t12 (HO.tup [V.str "if", V.str "a", V.str "x", V.int 4]) t12 = some (HO.tup [V.str "if", V.str "a", V.str "x", V.int 4]) := upd_same
    have q12 : KeepT p H11 (upd H11 t12 (HO.tup [V.str "if", V.str "a", V.str "x", V.int 4])) := kt_same s12
    have d12 := dice_upd (o := HO.tup [V.str "if", V.str "a", V.str "x", V.int 4]) d11 ne12
    have b12 := b11.ext s12
    generalize upd H11 t12 (HO.tup [V.str "if", V.str "a", V.str "x", V.int 4]) = H12 at s12 h12 q12 d12 b12 ⊢
    refine ⟨(by show 5 ≤ sizeLine; decide), fun t13 n13 => ?_⟩
    have ne13 := dice_ne d12 n13
    have s13 := same_new (o := HO.tup [V.ref t8, V.ref t9, V.ref t10, V.ref t11, V.ref t12]) n13
    have h13 : upd H12 t13 (HO.tup [V.ref t8, V.ref t9, V.ref t10, V.ref t11, V.ref t12]) t13 = some (HO.tup [V.ref t8, V.ref t9, V.ref t10, V.ref t11, V.ref t12]) := upd_same
    have q13 : KeepT p H12 (upd H12 t13 (HO.tup [V.ref t8, V.ref t9, V.ref t10, V.ref t11, V.ref t12])) := kt_same s13
    have d13 := dice_upd (o := HO.tup [V.ref t8, V.ref t9, V.ref t10, V.ref t11, V.ref t12]) d12 ne13
    have b13 := b12.ext s13
    generalize upd H12 t13 (HO.tup [V.ref t8, V.ref t9, V.ref t10, V.ref t11, V.ref t12]) = H13 at s13 h13 q13 d13 b13 ⊢
    have hDu13 : LinesAt K H13 t13 ([(t8, Ln.read "a" "x"), (t9, Ln.go 0), (t10, Ln.ift "a" "x" 2), (t11, Ln.go 3), (t12, Ln.ift "a" "x" 4)] : RowsL) := by
      refine ⟨SqT.of h13, fun r hr => ?_⟩
      simp only [List.mem_cons, List.not_mem_nil, or_false] at hr
      rcases hr with rfl | rfl | rfl | rfl | rfl
      · exact (sqT_kt (SqT.of h8) d8 (KeepT.trans q9 (KeepT.trans q10 (KeepT.trans q11 (KeepT.trans q12 q13)))))
      · exact (sqT_kt (SqT.of h9) d9 (KeepT.trans q10 (KeepT.trans q11 (KeepT.trans q12 q13))))
      · exact (sqT_kt (SqT.of h10) d10 (KeepT.trans q11 (KeepT.trans q12 q13)))
      · exact (sqT_kt (SqT.of h11) d11 (KeepT.trans q12 q13))
      · exact (sqT_kt (SqT.of h12) d12 q13)
    refine ⟨(by show 1 ≤ sizeLine; decide), fun t14 n14 => ?_⟩
    have ne14 := dice_ne d13 n14
    have s14 := same_new (o := HO.lst [V.ref t13]) n14
    have h14 : upd H13 t14 (HO.lst [V.ref t13]) t14 = some (HO.lst [V.ref t13]) := upd_same
    have q14 : KeepT p H13 (upd H13 t14 (HO.lst [V.ref t13])) := kt_same s14
    have d14 := dice_upd (o := HO.lst [V.ref t13]) d13 ne14
    have b14 := b13.ext s14
    generalize upd H13 t14 (HO.lst [V.ref t13]) = H14 at s14 h14 q14 d14 b14 ⊢
    refine ⟨_, rfl, Or.inl ⟨rfl, _, SqL.of h14⟩, ?_⟩
    refine ⟨(by show 2 ≤ sizeLine; decide), fun t15 n15 => ?_⟩
    have ne15 := dice_ne d14 n15
    have s15 := same_new (o := HO.tup [V.str "go", V.int 0]) n15
    have h15 : upd H14 t15 (HO.tup [V.str "go", V.int 0]) t15 = some (HO.tup [V.str "go", V.int 0]) := upd_same
    have q15 : KeepT p H14 (upd H14 t15 (HO.tup [V.str "go", V.int 0])) := kt_same s15
    have d15 := dice_upd (o := HO.tup [V.str "go", V.int 0]) d14 ne15
    have b15 := b14.ext s15
    generalize upd H14 t15 (HO.tup [V.str "go", V.int 0]) = H15 at s15 h15 q15 d15 b15 ⊢
    refine ⟨(by show 3 ≤ sizeLine; decide), fun t16 n16 => ?_⟩
    have ne16 := dice_ne d15 n16
    have s16 := same_new (o := HO.tup [V.str "read", V.str "a", V.str "x"]) n16
    have h16 : upd H15 t16 (HO.tup [V.str "read", V.str "a", V.str "x"]) t16 = some (HO.tup [V.str "read", V.str "a", V.str "x"]) := upd_same
    have q16 : KeepT p H15 (upd H15 t16 (HO.tup [V.str "read", V.str "a", V.str "x"])) := kt_same s16
    have d16 := dice_upd (o := HO.tup [V.str "read", V.str "a", V.str "x"]) d15 ne16
    have b16 := b15.ext s16
    generalize upd H15 t16 (HO.tup [V.str "read", V.str "a", V.str "x"]) = H16 at s16 h16 q16 d16 b16 ⊢
    refine ⟨(by show 4 ≤ sizeLine; decide), fun t17 n17 => ?_⟩
    have ne17 := dice_ne d16 n17
    have s17 := same_new (o := HO.tup [V.str "if", V.str "a", V.str "x", V.int 1]) n17
    have h17 : upd H16 t17 (HO.tup [V.str "if", V.str "a", V.str "x", V.int 1]) t17 = some (HO.tup [V.str "if", V.str "a", V.str "x", V.int 1]) := upd_same
    have q17 : KeepT p H16 (upd H16 t17 (HO.tup [V.str "if", V.str "a", V.str "x", V.int 1])) := kt_same s17
    have d17 := dice_upd (o := HO.tup [V.str "if", V.str "a", V.str "x", V.int 1]) d16 ne17
    have b17 := b16.ext s17
    generalize upd H16 t17 (HO.tup [V.str "if", V.str "a", V.str "x", V.int 1]) = H17 at s17 h17 q17 d17 b17 ⊢
    refine ⟨(by show 2 ≤ sizeLine; decide), fun t18 n18 => ?_⟩
    have ne18 := dice_ne d17 n18
    have s18 := same_new (o := HO.tup [V.str "go", V.int 3]) n18
    have h18 : upd H17 t18 (HO.tup [V.str "go", V.int 3]) t18 = some (HO.tup [V.str "go", V.int 3]) := upd_same
    have q18 : KeepT p H17 (upd H17 t18 (HO.tup [V.str "go", V.int 3])) := kt_same s18
    have d18 := dice_upd (o := HO.tup [V.str "go", V.int 3]) d17 ne18
    have b18 := b17.ext s18
    generalize upd H17 t18 (HO.tup [V.str "go", V.int 3]) = H18 at s18 h18 q18 d18 b18 ⊢
    refine ⟨(by show 4 ≤ sizeLine; decide), fun t19 n19 => ?_⟩
    have ne19 := dice_ne d18 n19
    have s19 := same_new (o := HO.tup [V.str "if", V.str "a", V.str "x", V.int 4]) n19
    have h19 : upd H18 t19 (HO.tup [V.str "if", V.str "a", V.str "x", V.int 4]) t19 = some (HO.tup [V.str "if", V.str "a", V.str "x", V.int 4]) := upd_same
    have q19 : KeepT p H18 (upd H18 t19 (HO.tup [V.str "if", V.str "a", V.str "x", V.int 4])) := kt_same s19
    have d19 := dice_upd (o := HO.tup [V.str "if", V.str "a", V.str "x", V.int 4]) d18 ne19
    have b19 := b18.ext s19
    generalize upd H18 t19 (HO.tup [V.str "if", V.str "a", V.str "x", V.int 4]) = H19 at s19 h19 q19 d19 b19 ⊢
    refine ⟨(by show 5 ≤ sizeLine; decide), fun t20 n20 => ?_⟩
    have ne20 := dice_ne d19 n20
    have s20 := same_new (o := HO.tup [V.ref t15, V.ref t16, V.ref t17, V.ref t18, V.ref t19]) n20
    have h20 : upd H19 t20 (HO.tup [V.ref t15, V.ref t16, V.ref t17, V.ref t18, V.ref t19]) t20 = some (HO.tup [V.ref t15, V.ref t16, V.ref t17, V.ref t18, V.ref t19]) := upd_same
    have q20 : KeepT p H19 (upd H19 t20 (HO.tup [V.ref t15, V.ref t16, V.ref t17, V.ref t18, V.ref t19])) := kt_same s20
    have d20 := dice_upd (o := HO.tup [V.ref t15, V.ref t16, V.ref t17, V.ref t18, V.ref t19]) d19 ne20
    have b20 := b19.ext s20
    generalize upd H19 t20 (HO.tup [V.ref t15, V.ref t16, V.ref t17, V.ref t18, V.ref t19]) = H20 at s20 h20 q20 d20 b20 ⊢
    have hDu20 : LinesAt K H20 t20 ([(t15, Ln.go 0), (t16, Ln.read "a" "x"), (t17, Ln.ift "a" "x" 1), (t18, Ln.go 3), (t19, Ln.ift "a" "x" 4)] : RowsL) := by
      refine ⟨SqT.of h20, fun r hr => ?_⟩
      simp only [List.mem_cons, List.not_mem_nil, or_false] at hr
      rcases hr with rfl | rfl | rfl | rfl | rfl
      · exact (sqT_kt (SqT.of h15) d15 (KeepT.trans q16 (KeepT.trans q17 (KeepT.trans q18 (KeepT.trans q19 q20)))))
      · exact (sqT_kt (SqT.of h16) d16 (KeepT.trans q17 (KeepT.trans q18 (KeepT.trans q19 q20))))
      · exact (sqT_kt (SqT.of h17) d17 (KeepT.trans q18 (KeepT.trans q19 q20)))
      · exact (sqT_kt (SqT.of h18) d18 (KeepT.trans q19 q20))
      · exact (sqT_kt (SqT.of h19) d19 q20)
    have eT21 : H20 t14 = some (.lst [V.ref t13]) := (lst_kt h14 ne14 (KeepT.trans q15 (KeepT.trans q16 (KeepT.trans q17 (KeepT.trans q18 (KeepT.trans q19 q20))))))
    refine ⟨t14, _, _, rfl, rfl, eT21, (by show 1 < sizeLine; decide), ?_⟩
    have q21 : KeepT p H13 (upd H20 t14 (HO.lst ([V.ref t13] ++ [V.ref t20]))) := kt_to n14 (KeepT.trans q14 (KeepT.trans q15 (KeepT.trans q16 (KeepT.trans q17 (KeepT.trans q18 (KeepT.trans q19 q20))))))
    have h21 : upd H20 t14 (HO.lst ([V.ref t13] ++ [V.ref t20])) t14 = some (HO.lst ([V.ref t13] ++ [V.ref t20])) := upd_same
    have ku21 : Keep t14 H20 (upd H20 t14 (HO.lst ([V.ref t13] ++ [V.ref t20]))) := keep_upd
    have hDu20_21 := LinesAt.offL eT21 ku21 hDu20
    have d21 := dice_upd (o := HO.lst ([V.ref t13] ++ [V.ref t20])) d20 ne14
    have b21 := tabs_list (ys := [V.ref t13] ++ [V.ref t20]) b20 eT21
    clear ku21
    generalize upd H20 t14 (HO.lst ([V.ref t13] ++ [V.ref t20])) = H21 at q21 h21 d21 b21 hDu20_21 ⊢
    refine ⟨_, rfl, Or.inl ⟨rfl, _, SqL.of h21⟩, ?_⟩
    refine ⟨(by show 2 ≤ sizeLine; decide), fun t22 n22 => ?_⟩
    have ne22 := dice_ne d21 n22
    have s22 := same_new (o := HO.tup [V.str "go", V.int 0]) n22
    have h22 : upd H21 t22 (HO.tup [V.str "go", V.int 0]) t22 = some (HO.tup [V.str "go", V.int 0]) := upd_same
    have q22 : KeepT p H21 (upd H21 t22 (HO.tup [V.str "go", V.int 0])) := kt_same s22
    have d22 := dice_upd (o := HO.tup [V.str "go", V.int 0]) d21 ne22
    have b22 := b21.ext s22
    generalize upd H21 t22 (HO.tup [V.str "go", V.int 0]) = H22 at s22 h22 q22 d22 b22 ⊢
    refine ⟨(by show 4 ≤ sizeLine; decide), fun t23 n23 => ?_⟩
    have ne23 := dice_ne d22 n23
    have s23 := same_new (o := HO.tup [V.str "if", V.str "a", V.str "x", V.int 1]) n23
    have h23 : upd H22 t23 (HO.tup [V.str "if", V.str "a", V.str "x", V.int 1]) t23 = some (HO.tup [V.str "if", V.str "a", V.str "x", V.int 1]) := upd_same
    have q23 : KeepT p H22 (upd H22 t23 (HO.tup [V.str "if", V.str "a", V.str "x", V.int 1])) := kt_same s23
    have d23 := dice_upd (o := HO.tup [V.str "if", V.str "a", V.str "x", V.int 1]) d22 ne23
    have b23 := b22.ext s23
    generalize upd H22 t23 (HO.tup [V.str "if", V.str "a", V.str "x", V.int 1]) = H23 at s23 h23 q23 d23 b23 ⊢
    refine ⟨(by show 2 ≤ sizeLine; decide), fun t24 n24 => ?_⟩
    have ne24 := dice_ne d23 n24
    have s24 := same_new (o := HO.tup [V.str "go", V.int 2]) n24
    have h24 : upd H23 t24 (HO.tup [V.str "go", V.int 2]) t24 = some (HO.tup [V.str "go", V.int 2]) := upd_same
    have q24 : KeepT p H23 (upd H23 t24 (HO.tup [V.str "go", V.int 2])) := kt_same s24
    have d24 := dice_upd (o := HO.tup [V.str "go", V.int 2]) d23 ne24
    have b24 := b23.ext s24
    generalize upd H23 t24 (HO.tup [V.str "go", V.int 2]) = H24 at s24 h24 q24 d24 b24 ⊢
    refine ⟨(by show 4 ≤ sizeLine; decide), fun t25 n25 => ?_⟩
    have ne25 := dice_ne d24 n25
    have s25 := same_new (o := HO.tup [V.str "if", V.str "a", V.str "x", V.int 3]) n25
    have h25 : upd H24 t25 (HO.tup [V.str "if", V.str "a", V.str "x", V.int 3]) t25 = some (HO.tup [V.str "if", V.str "a", V.str "x", V.int 3]) := upd_same
    have q25 : KeepT p H24 (upd H24 t25 (HO.tup [V.str "if", V.str "a", V.str "x", V.int 3])) := kt_same s25
    have d25 := dice_upd (o := HO.tup [V.str "if", V.str "a", V.str "x", V.int 3]) d24 ne25
    have b25 := b24.ext s25
    generalize upd H24 t25 (HO.tup [V.str "if", V.str "a", V.str "x", V.int 3]) = H25 at s25 h25 q25 d25 b25 ⊢
    refine ⟨(by show 3 ≤ sizeLine; decide), fun t26 n26 => ?_⟩
    have ne26 := dice_ne d25 n26
    have s26 := same_new (o := HO.tup [V.str "read", V.str "a", V.str "x"]) n26
    have h26 : upd H25 t26 (HO.tup [V.str "read", V.str "a", V.str "x"]) t26 = some (HO.tup [V.str "read", V.str "a", V.str "x"]) := upd_same
    have q26 : KeepT p H25 (upd H25 t26 (HO.tup [V.str "read", V.str "a", V.str "x"])) := kt_same s26
    have d26 := dice_upd (o := HO.tup [V.str "read", V.str "a", V.str "x"]) d25 ne26
    have b26 := b25.ext s26
    generalize upd H25 t26 (HO.tup [V.str "read", V.str "a", V.str "x"]) = H26 at s26 h26 q26 d26 b26 ⊢
    refine ⟨(by show 5 ≤ sizeLine; decide), fun t27 n27 => ?_⟩
    have ne27 := dice_ne d26 n27
    have s27 := same_new (o := HO.tup [V.ref t22, V.ref t23, V.ref t24, V.ref t25, V.ref t26]) n27
    have h27 : upd H26 t27 (HO.tup [V.ref t22, V.ref t23, V.ref t24, V.ref t25, V.ref t26]) t27 = some (HO.tup [V.ref t22, V.ref t23, V.ref t24, V.ref t25, V.ref t26]) := upd_same
    have q27 : KeepT p H26 (upd H26 t27 (HO.tup [V.ref t22, V.ref t23, V.ref t24, V.ref t25, V.ref t26])) := kt_same s27
    have d27 := dice_upd (o := HO.tup [V.ref t22, V.ref t23, V.ref t24, V.ref t25, V.ref t26]) d26 ne27
    have b27 := b26.ext s27
    generalize upd H26 t27 (HO.tup [V.ref t22, V.ref t23, V.ref t24, V.ref t25, V.ref t26]) = H27 at s27 h27 q27 d27 b27 ⊢
    have hDu27 : LinesAt K H27 t27 ([(t22, Ln.go 0), (t23, Ln.ift "a" "x" 1), (t24, Ln.go 2), (t25, Ln.ift "a" "x" 3), (t26, Ln.read "a" "x")] : RowsL) := by
      refine ⟨SqT.of h27, fun r hr => ?_⟩
      simp only [List.mem_cons, List.not_mem_nil, or_false] at hr
      rcases hr with rfl | rfl | rfl | rfl | rfl
      · exact (sqT_kt (SqT.of h22) d22 (KeepT.trans q23 (KeepT.trans q24 (KeepT.trans q25 (KeepT.trans q26 q27)))))
      · exact (sqT_kt (SqT.of h23) d23 (KeepT.trans q24 (KeepT.trans q25 (KeepT.trans q26 q27))))
      · exact (sqT_kt (SqT.of h24) d24 (KeepT.trans q25 (KeepT.trans q26 q27)))
      · exact (sqT_kt (SqT.of h25) d25 (KeepT.trans q26 q27))
      · exact (sqT_kt (SqT.of h26) d26 q27)
    have eT28 : H27 t14 = some (.lst [V.ref t13, V.ref t20]) := (lst_kt h21 ne14 (KeepT.trans q22 (KeepT.trans q23 (KeepT.trans q24 (KeepT.trans q25 (KeepT.trans q26 q27))))))
    refine ⟨t14, _, _, rfl, rfl, eT28, (by show 2 < sizeLine; decide), ?_⟩
    have q28 : KeepT p H13 (upd H27 t14 (HO.lst ([V.ref t13, V.ref t20] ++ [V.ref t27]))) := kt_to n14 (KeepT.trans q21 (KeepT.trans q22 (KeepT.trans q23 (KeepT.trans q24 (KeepT.trans q25 (KeepT.trans q26 q27))))))
    have h28 : upd H27 t14 (HO.lst ([V.ref t13, V.ref t20] ++ [V.ref t27])) t14 = some (HO.lst ([V.ref t13, V.ref t20] ++ [V.ref t27])) := upd_same
    have ku28 : Keep t14 H27 (upd H27 t14 (HO.lst ([V.ref t13, V.ref t20] ++ [V.ref t27]))) := keep_upd
    have hDu20_21_28 := LinesAt.offL eT28 ku28 (hDu20_21.kt d21 (KeepT.trans q22 (KeepT.trans q23 (KeepT.trans q24 (KeepT.trans q25 (KeepT.trans q26 q27))))))
    have hDu27_28 := LinesAt.offL eT28 ku28 hDu27
    have d28 := dice_upd (o := HO.lst ([V.ref t13, V.ref t20] ++ [V.ref t27])) d27 ne14
    have b28 := tabs_list (ys := [V.ref t13, V.ref t20] ++ [V.ref t27]) b27 eT28
    clear ku28
    generalize upd H27 t14 (HO.lst ([V.ref t13, V.ref t20] ++ [V.ref t27])) = H28 at q28 h28 d28 b28 hDu20_21_28 hDu27_28 ⊢
    have shW : SeqAt.shaped (.list (dueW.map dls)) = true := by decide +kernel
    refine ⟨_, rfl, _, rfl, .list (dueW.map dls), .list (dueW.map dls), .lst (SqL.of (lst_kt e7 ne7 (KeepT.trans q8 (KeepT.trans q9 (KeepT.trans q10 (KeepT.trans q11 (KeepT.trans q12 (KeepT.trans q13 q28)))))))) (LL.kt hacc7 d7 (KeepT.trans q8 (KeepT.trans q9 (KeepT.trans q10 (KeepT.trans q11 (KeepT.trans q12 (KeepT.trans q13 q28))))))).dp, .lst (SqL.of h28) (.cons (hDu13.kt d13 q28).dp (.cons hDu20_21_28.dp (.cons hDu27_28.dp .nil))), shW, shW, _, rfl, ?_⟩
    rw [SeqAt.eqv_refl _ (SeqAt.canLay_of_shaped shW)]
    refine iteF ?_
    refine ⟨(by show 2 ≤ sizeLine; decide), fun t29 n29 => ?_⟩
    have ne29 := dice_ne d28 n29
    have s29 := same_new (o := HO.tup [V.int 1, V.int 3]) n29
    have h29 : upd H28 t29 (HO.tup [V.int 1, V.int 3]) t29 = some (HO.tup [V.int 1, V.int 3]) := upd_same
    have q29 : KeepT p H28 (upd H28 t29 (HO.tup [V.int 1, V.int 3])) := kt_same s29
    have d29 := dice_upd (o := HO.tup [V.int 1, V.int 3]) d28 ne29
    have b29 := b28.ext s29
    generalize upd H28 t29 (HO.tup [V.int 1, V.int 3]) = H29 at s29 h29 q29 d29 b29 ⊢
    refine ⟨t29, rfl, ⟨_, SqT.of h29⟩, fun D2 nD2 => ?_⟩
    refine lc_fil (walk_tup (xs := [V.int 1, V.int 3])) nD2 (LL K dueC) LL.nil (fun H' s' => sqT_up (SqT.of h29) s') ?_ ?_
    · rintro i v acc Ha Hb hi sa ea hacc ⟨rfl, hv⟩
      have hi3 : i < 2 := hi
      obtain ⟨n, hn1, hn2, hn3, hn4⟩ := w_cut i hi
      obtain rfl : v = V.int n := by rw [hn1] at hv; exact (Option.some.inj hv).symm
      refine ⟨rfl, tt_yes ?_⟩
      refine ⟨_, rfl, r5, dx, _, rfl, sa _ _ ((KeepT.trans q6 (KeepT.trans q7 (KeepT.trans q8 (KeepT.trans q9 (KeepT.trans q10 (KeepT.trans q11 (KeepT.trans q12 (KeepT.trans q13 (KeepT.trans q28 q29))))))))) _ _ (not_p d5 eR (fun _ z => by cases z)) eR (fun _ z => by cases z)), rd_no (by decide +kernel) (by decide +kernel), _, rfl, r5, rs, _, _, rfl, RdAt.up (hRl.kt d5 (KeepT.trans q6 (KeepT.trans q7 (KeepT.trans q8 (KeepT.trans q9 (KeepT.trans q10 (KeepT.trans q11 (KeepT.trans q12 (KeepT.trans q13 (KeepT.trans q28 q29)))))))))) sa, ok, .int _, .inr ⟨n, rfl, by omega, fun ss e => okB_ok hn4 (by rw [e, ers]), fun Hc m ms sc nm em hM => ?_⟩⟩
      obtain ⟨dm, Lm, Tm, pm, eM, hLm, _⟩ := id hM
      refine ⟨m, dm, _, rfl, eM, m, dm, _, _, rfl, eM, rd_lines Lm Tm, ?_⟩
      refine put_of nD2 LL.off sa ea sc (by have := hacc.len; rw [sizeLine_eq]; omega) ((hacc.up sc).put hLm ?_)
      rw [hn3, show lnsOf ms = cutL n (lnsOf rs) from em, ers]
    rintro acc H30 s30 e30 hacc30
    have q30 : KeepT p H29 H30 := kt_same s30
    have ne30 := dice_ne d29 nD2
    have d30 := dice_same2 d29 s30
    have b30 := b29.ext s30
    have hlen30 := hacc30.len
    rw [show ([V.int 1, V.int 3] : List V).length = dueC.length from rfl] at hacc30 hlen30
    refine ⟨(by show 2 ≤ sizeLine; decide), fun t31 n31 => ?_⟩
    have ne31 := dice_ne d30 n31
    have s31 := same_new (o := HO.tup [V.str "go", V.int 0]) n31
    have h31 : upd H30 t31 (HO.tup [V.str "go", V.int 0]) t31 = some (HO.tup [V.str "go", V.int 0]) := upd_same
    have q31 : KeepT p H30 (upd H30 t31 (HO.tup [V.str "go", V.int 0])) := kt_same s31
    have d31 := dice_upd (o := HO.tup [V.str "go", V.int 0]) d30 ne31
    have b31 := b30.ext s31
    generalize upd H30 t31 (HO.tup [V.str "go", V.int 0]) = H31 at s31 h31 q31 d31 b31 ⊢
    refine ⟨(by show 2 ≤ sizeLine; decide), fun t32 n32 => ?_⟩
    have ne32 := dice_ne d31 n32
    have s32 := same_new (o := HO.tup [V.str "go", V.int 1]) n32
    have h32 : upd H31 t32 (HO.tup [V.str "go", V.int 1]) t32 = some (HO.tup [V.str "go", V.int 1]) := upd_same
    have q32 : KeepT p H31 (upd H31 t32 (HO.tup [V.str "go", V.int 1])) := kt_same s32
    have d32 := dice_upd (o := HO.tup [V.str "go", V.int 1]) d31 ne32
    have b32 := b31.ext s32
    generalize upd H31 t32 (HO.tup [V.str "go", V.int 1]) = H32 at s32 h32 q32 d32 b32 ⊢
    refine ⟨(by show 4 ≤ sizeLine; decide), fun t33 n33 => ?_⟩
    have ne33 := dice_ne d32 n33
    have s33 := same_new (o := HO.tup [V.str "if", V.str "a", V.str "x", V.int 2]) n33
    have h33 : upd H32 t33 (HO.tup [V.str "if", V.str "a", V.str "x", V.int 2]) t33 = some (HO.tup [V.str "if", V.str "a", V.str "x", V.int 2]) := upd_same
    have q33 : KeepT p H32 (upd H32 t33 (HO.tup [V.str "if", V.str "a", V.str "x", V.int 2])) := kt_same s33
    have d33 := dice_upd (o := HO.tup [V.str "if", V.str "a", V.str "x", V.int 2]) d32 ne33
    have b33 := b32.ext s33
    generalize upd H32 t33 (HO.tup [V.str "if", V.str "a", V.str "x", V.int 2]) = H33 at s33 h33 q33 d33 b33 ⊢
    refine ⟨(by show 3 ≤ sizeLine; decide), fun t34 n34 => ?_⟩
    have ne34 := dice_ne d33 n34
    have s34 := same_new (o := HO.tup [V.ref t31, V.ref t32, V.ref t33]) n34
    have h34 : upd H33 t34 (HO.tup [V.ref t31, V.ref t32, V.ref t33]) t34 = some (HO.tup [V.ref t31, V.ref t32, V.ref t33]) := upd_same
    have q34 : KeepT p H33 (upd H33 t34 (HO.tup [V.ref t31, V.ref t32, V.ref t33])) := kt_same s34
    have d34 := dice_upd (o := HO.tup [V.ref t31, V.ref t32, V.ref t33]) d33 ne34
    have b34 := b33.ext s34
    generalize upd H33 t34 (HO.tup [V.ref t31, V.ref t32, V.ref t33]) = H34 at s34 h34 q34 d34 b34 ⊢
    have hDu34 : LinesAt K H34 t34 ([(t31, Ln.go 0), (t32, Ln.go 1), (t33, Ln.ift "a" "x" 2)] : RowsL) := by
      refine ⟨SqT.of h34, fun r hr => ?_⟩
      simp only [List.mem_cons, List.not_mem_nil, or_false] at hr
      rcases hr with rfl | rfl | rfl
      · exact (sqT_kt (SqT.of h31) d31 (KeepT.trans q32 (KeepT.trans q33 q34)))
      · exact (sqT_kt (SqT.of h32) d32 (KeepT.trans q33 q34))
      · exact (sqT_kt (SqT.of h33) d33 q34)
    refine ⟨(by show 2 ≤ sizeLine; decide), fun t35 n35 => ?_⟩
    have ne35 := dice_ne d34 n35
    have s35 := same_new (o := HO.tup [V.str "go", V.int 0]) n35
    have h35 : upd H34 t35 (HO.tup [V.str "go", V.int 0]) t35 = some (HO.tup [V.str "go", V.int 0]) := upd_same
    have q35 : KeepT p H34 (upd H34 t35 (HO.tup [V.str "go", V.int 0])) := kt_same s35
    have d35 := dice_upd (o := HO.tup [V.str "go", V.int 0]) d34 ne35
    have b35 := b34.ext s35
    generalize upd H34 t35 (HO.tup [V.str "go", V.int 0]) = H35 at s35 h35 q35 d35 b35 ⊢
    refine ⟨(by show 4 ≤ sizeLine; decide), fun t36 n36 => ?_⟩
    have ne36 := dice_ne d35 n36
    have s36 := same_new (o := HO.tup [V.str "if", V.str "a", V.str "x", V.int 1]) n36
    have h36 : upd H35 t36 (HO.tup [V.str "if", V.str "a", V.str "x", V.int 1]) t36 = some (HO.tup [V.str "if", V.str "a", V.str "x", V.int 1]) := upd_same
    have q36 : KeepT p H35 (upd H35 t36 (HO.tup [V.str "if", V.str "a", V.str "x", V.int 1])) := kt_same s36
    have d36 := dice_upd (o := HO.tup [V.str "if", V.str "a", V.str "x", V.int 1]) d35 ne36
    have b36 := b35.ext s36
    generalize upd H35 t36 (HO.tup [V.str "if", V.str "a", V.str "x", V.int 1]) = H36 at s36 h36 q36 d36 b36 ⊢
    refine ⟨(by show 2 ≤ sizeLine; decide), fun t37 n37 => ?_⟩
    have ne37 := dice_ne d36 n37
    have s37 := same_new (o := HO.tup [V.str "go", V.int 2]) n37
    have h37 : upd H36 t37 (HO.tup [V.str "go", V.int 2]) t37 = some (HO.tup [V.str "go", V.int 2]) := upd_same
    have q37 : KeepT p H36 (upd H36 t37 (HO.tup [V.str "go", V.int 2])) := kt_same s37
    have d37 := dice_upd (o := HO.tup [V.str "go", V.int 2]) d36 ne37
    have b37 := b36.ext s37
    generalize upd H36 t37 (HO.tup [V.str "go", V.int 2]) = H37 at s37 h37 q37 d37 b37 ⊢
    refine ⟨(by show 3 ≤ sizeLine; decide), fun t38 n38 => ?_⟩
    have ne38 := dice_ne d37 n38
    have s38 := same_new (o := HO.tup [V.ref t35, V.ref t36, V.ref t37]) n38
    have h38 : upd H37 t38 (HO.tup [V.ref t35, V.ref t36, V.ref t37]) t38 = some (HO.tup [V.ref t35, V.ref t36, V.ref t37]) := upd_same
    have q38 : KeepT p H37 (upd H37 t38 (HO.tup [V.ref t35, V.ref t36, V.ref t37])) := kt_same s38
    have d38 := dice_upd (o := HO.tup [V.ref t35, V.ref t36, V.ref t37]) d37 ne38
    have b38 := b37.ext s38
    generalize upd H37 t38 (HO.tup [V.ref t35, V.ref t36, V.ref t37]) = H38 at s38 h38 q38 d38 b38 ⊢
    have hDu38 : LinesAt K H38 t38 ([(t35, Ln.go 0), (t36, Ln.ift "a" "x" 1), (t37, Ln.go 2)] : RowsL) := by
      refine ⟨SqT.of h38, fun r hr => ?_⟩
      simp only [List.mem_cons, List.not_mem_nil, or_false] at hr
      rcases hr with rfl | rfl | rfl
      · exact (sqT_kt (SqT.of h35) d35 (KeepT.trans q36 (KeepT.trans q37 q38)))
      · exact (sqT_kt (SqT.of h36) d36 (KeepT.trans q37 q38))
      · exact (sqT_kt (SqT.of h37) d37 q38)
    refine ⟨(by show 2 ≤ sizeLine; decide), fun t39 n39 => ?_⟩
    have ne39 := dice_ne d38 n39
    have s39 := same_new (o := HO.lst [V.ref t34, V.ref t38]) n39
    have h39 : upd H38 t39 (HO.lst [V.ref t34, V.ref t38]) t39 = some (HO.lst [V.ref t34, V.ref t38]) := upd_same
    have q39 : KeepT p H38 (upd H38 t39 (HO.lst [V.ref t34, V.ref t38])) := kt_same s39
    have d39 := dice_upd (o := HO.lst [V.ref t34, V.ref t38]) d38 ne39
    have b39 := b38.ext s39
    generalize upd H38 t39 (HO.lst [V.ref t34, V.ref t38]) = H39 at s39 h39 q39 d39 b39 ⊢
    have shC : SeqAt.shaped (.list (dueC.map dls)) = true := by decide +kernel
    refine ⟨.list (dueC.map dls), .list (dueC.map dls), .lst (SqL.of (lst_kt e30 ne30 (KeepT.trans q31 (KeepT.trans q32 (KeepT.trans q33 (KeepT.trans q34 (KeepT.trans q35 (KeepT.trans q36 (KeepT.trans q37 (KeepT.trans q38 q39)))))))))) (LL.kt hacc30 d30 (KeepT.trans q31 (KeepT.trans q32 (KeepT.trans q33 (KeepT.trans q34 (KeepT.trans q35 (KeepT.trans q36 (KeepT.trans q37 (KeepT.trans q38 q39))))))))).dp, .lst (SqL.of h39) (.cons (hDu34.kt d34 (KeepT.trans q35 (KeepT.trans q36 (KeepT.trans q37 (KeepT.trans q38 q39))))).dp (.cons (hDu38.kt d38 q39).dp .nil)), shC, shC, _, rfl, ?_⟩
    rw [SeqAt.eqv_refl _ (SeqAt.canLay_of_shaped shC)]
    refine iteF ?_
    refine ⟨rfl, ?_⟩
    refine ⟨(by show 2 ≤ sizeLine; decide), fun t40 n40 => ?_⟩
    have ne40 := dice_ne d39 n40
    have s40 := same_new (o := HO.tup [V.str "go", V.int 16]) n40
    have h40 : upd H39 t40 (HO.tup [V.str "go", V.int 16]) t40 = some (HO.tup [V.str "go", V.int 16]) := upd_same
    have q40 : KeepT p H39 (upd H39 t40 (HO.tup [V.str "go", V.int 16])) := kt_same s40
    have d40 := dice_upd (o := HO.tup [V.str "go", V.int 16]) d39 ne40
    have b40 := b39.ext s40
    generalize upd H39 t40 (HO.tup [V.str "go", V.int 16]) = H40 at s40 h40 q40 d40 b40 ⊢
    refine ⟨(by show 1 ≤ sizeLine; decide), fun t41 n41 => ?_⟩
    have ne41 := dice_ne d40 n41
    have s41 := same_new (o := HO.tup [V.ref t40]) n41
    have h41 : upd H40 t41 (HO.tup [V.ref t40]) t41 = some (HO.tup [V.ref t40]) := upd_same
    have q41 : KeepT p H40 (upd H40 t41 (HO.tup [V.ref t40])) := kt_same s41
    have d41 := dice_upd (o := HO.tup [V.ref t40]) d40 ne41
    have b41 := b40.ext s41
    generalize upd H40 t41 (HO.tup [V.ref t40]) = H41 at s41 h41 q41 d41 b41 ⊢
    refine ⟨t41, 16, [V.ref t40], rfl, rfl, SqT.of h41, (fun z => nomatch z), by decide, by decide, (by show 1 ≤ 1000; decide), fun t42 n42 => ?_⟩
    rw [show (List.replicate (Int.toNat 16) [V.ref t40]).flatten = List.replicate 16 (V.ref t40) from rfl]
    skip
    have ne42 := dice_ne d41 n42
    have s42 := same_new (o := HO.tup (List.replicate 16 (V.ref t40))) n42
    have h42 : upd H41 t42 (HO.tup (List.replicate 16 (V.ref t40))) t42 = some (HO.tup (List.replicate 16 (V.ref t40))) := upd_same
    have q42 : KeepT p H41 (upd H41 t42 (HO.tup (List.replicate 16 (V.ref t40)))) := kt_same s42
    have d42 := dice_upd (o := HO.tup (List.replicate 16 (V.ref t40))) d41 ne42
    have b42 := b41.ext s42
    generalize upd H41 t42 (HO.tup (List.replicate 16 (V.ref t40))) = H42 at s42 h42 q42 d42 b42 ⊢
    obtain ⟨fs, efs, hFfs⟩ : ∃ fs : RowsL, lnsOf fs = List.replicate 16 (.go 16) ∧ LinesAt K H42 t42 fs := by
      refine ⟨List.replicate 16 (t40, Ln.go 16), List.map_replicate, ?_, fun r hr => ?_⟩
      · rw [List.map_replicate]; exact SqT.of h42
      · rw [List.eq_of_mem_replicate hr]; exact (sqT_kt (SqT.of h40) d40 (KeepT.trans q41 q42))
    have okF : RdOk fs := okB_ok (ls := fullL) (by decide +kernel) efs
    have len16 : fs.length = 16 := by have := congrArg List.length efs; rw [List.length_map, List.length_replicate] at this; exact this
    refine ⟨t42, fs, rfl, hFfs, okF, fun H43 rf s43 nrf hRf => ?_⟩
    have q43 : KeepT p H42 H43 := kt_same s43
    have d43 := dice_same2 d42 s43
    have b43 := b42.ext s43
    obtain ⟨df, Lf, Tf, pf, eF, hLf, _⟩ := id hRf
    refine ⟨(by show 2 ≤ sizeLine; decide), fun t44 n44 => ?_⟩
    have ne44 := dice_ne d43 n44
    have s44 := same_new (o := HO.tup [V.str "go", V.int 1]) n44
    have h44 : upd H43 t44 (HO.tup [V.str "go", V.int 1]) t44 = some (HO.tup [V.str "go", V.int 1]) := upd_same
    have q44 : KeepT p H43 (upd H43 t44 (HO.tup [V.str "go", V.int 1])) := kt_same s44
    have d44 := dice_upd (o := HO.tup [V.str "go", V.int 1]) d43 ne44
    have b44 := b43.ext s44
    generalize upd H43 t44 (HO.tup [V.str "go", V.int 1]) = H44 at s44 h44 q44 d44 b44 ⊢
    have hrs44 : ∀ r ∈ ([(t44, Ln.go 1)] : RowsL), SqT K H44 r.1 r.2.vs := by
      intro r hr
      simp only [List.mem_cons, List.not_mem_nil, or_false] at hr
      rcases hr with rfl
      · exact (SqT.of h44)
    intro r45 dr45 nr45 nd45 ne45
    refine made_at (rs := [(t44, Ln.go 1)]) hrs44 (okB_ok (ls := [.go 1]) (by decide +kernel) rfl) nr45 nd45 ne45 (fun H45 s45 hR45 => ⟨rfl, ?_⟩)
    have q45 : KeepT p H44 H45 := kt_same s45
    have d45 := dice_same2 d44 s45
    have b45 := b44.ext s45
    obtain ⟨ls, els, hRL⟩ : ∃ ls : RowsL, lnsOf ls = [.go 1] ∧ RdAt K C H45 r45 ls := ⟨_, rfl, hR45⟩
    clear hR45
    have okL : RdOk ls := okB_ok (ls := [.go 1]) (by decide +kernel) els
    have len1 : ls.length = 1 := by have := congrArg List.length els; rw [List.length_map] at this; exact this
    obtain ⟨dl, Ll, Tl, pl, eL, hLl, _⟩ := id hRL
    refine ⟨(by show 2 ≤ sizeLine; decide), fun t46 n46 => ?_⟩
    have ne46 := dice_ne d45 n46
    have s46 := same_new (o := HO.tup [V.ref rf, V.ref r45]) n46
    have h46 : upd H45 t46 (HO.tup [V.ref rf, V.ref r45]) t46 = some (HO.tup [V.ref rf, V.ref r45]) := upd_same
    have q46 : KeepT p H45 (upd H45 t46 (HO.tup [V.ref rf, V.ref r45])) := kt_same s46
    have d46 := dice_upd (o := HO.tup [V.ref rf, V.ref r45]) d45 ne46
    have b46 := b45.ext s46
    generalize upd H45 t46 (HO.tup [V.ref rf, V.ref r45]) = H46 at s46 h46 q46 d46 b46 ⊢
    refine ⟨t46, _, rfl, SqT.of h46, rfl, _, _, rfl, _, _, rfl, rfl, ?_⟩
    refine ⟨b46, fun H47 e47 b47 => ?_⟩
    have q47 : KeepT p H46 H47 := kt_ext e47
    have d47 := dice_ext d46 e47
    refine ⟨_, rfl, rf, df, _, rfl, ((KeepT.trans q44 (KeepT.trans q45 (KeepT.trans q46 q47))) _ _ (not_p d43 eF (fun _ z => by cases z)) eF (fun _ z => by cases z)), rd_no (by decide +kernel) (by decide +kernel), (by show 2 ≤ sizeLine; decide), fun t48 n48 => ?_⟩
    have ne48 := dice_ne d47 n48
    have s48 := same_new (o := HO.tup [V.str "go", V.int 0]) n48
    have h48 : upd H47 t48 (HO.tup [V.str "go", V.int 0]) t48 = some (HO.tup [V.str "go", V.int 0]) := upd_same
    have q48 : KeepT p H47 (upd H47 t48 (HO.tup [V.str "go", V.int 0])) := kt_same s48
    have d48 := dice_upd (o := HO.tup [V.str "go", V.int 0]) d47 ne48
    have b48 := b47.ext s48
    generalize upd H47 t48 (HO.tup [V.str "go", V.int 0]) = H48 at s48 h48 q48 d48 b48 ⊢
    refine ⟨rf, fs, 3, t48, .go 0, rfl, (hRf.kt d43 (KeepT.trans q44 (KeepT.trans q45 (KeepT.trans q46 (KeepT.trans q47 q48))))), okF, by omega, SqT.of (xs := (Ln.go 0).vs) h48, .inl len16, fun Hx sx0 => .inr ⟨rfl, fun H49 l1 sx1 nl1 el1 => ?_⟩⟩
    have s49 := sx0.trans sx1
    have nel1 := dice_ne (dice_same2 d48 sx0) nl1
    have q49 : KeepT p H48 H49 := kt_same s49
    have d49 := dice_same2 d48 s49
    have b49 := b48.ext s49
    refine ⟨(by show 1 ≤ sizeLine; decide), fun t50 n50 => ?_⟩
    have ne50 := dice_ne d49 n50
    have s50 := same_new (o := HO.lst [V.ref l1]) n50
    have h50 : upd H49 t50 (HO.lst [V.ref l1]) t50 = some (HO.lst [V.ref l1]) := upd_same
    have q50 : KeepT p H49 (upd H49 t50 (HO.lst [V.ref l1])) := kt_same s50
    have d50 := dice_upd (o := HO.lst [V.ref l1]) d49 ne50
    have b50 := b49.ext s50
    generalize upd H49 t50 (HO.lst [V.ref l1]) = H50 at s50 h50 q50 d50 b50 ⊢
    refine ⟨_, rfl, Or.inl ⟨rfl, _, SqL.of h50⟩, b50, fun H51 e51 b51 => ?_⟩
    have q51 : KeepT p H50 H51 := kt_ext e51
    have d51 := dice_ext d50 e51
    refine ⟨_, rfl, rf, df, _, rfl, ((KeepT.trans q44 (KeepT.trans q45 (KeepT.trans q46 (KeepT.trans q47 (KeepT.trans q48 (KeepT.trans q49 (KeepT.trans q50 q51))))))) _ _ (not_p d43 eF (fun _ z => by cases z)) eF (fun _ z => by cases z)), rd_no (by decide +kernel) (by decide +kernel), (by show 2 ≤ sizeLine; decide), fun t52 n52 => ?_⟩
    have ne52 := dice_ne d51 n52
    have s52 := same_new (o := HO.tup [V.str "go", V.int 0]) n52
    have h52 : upd H51 t52 (HO.tup [V.str "go", V.int 0]) t52 = some (HO.tup [V.str "go", V.int 0]) := upd_same
    have q52 : KeepT p H51 (upd H51 t52 (HO.tup [V.str "go", V.int 0])) := kt_same s52
    have d52 := dice_upd (o := HO.tup [V.str "go", V.int 0]) d51 ne52
    have b52 := b51.ext s52
    generalize upd H51 t52 (HO.tup [V.str "go", V.int 0]) = H52 at s52 h52 q52 d52 b52 ⊢
    have bd17 : numD (.int 17) fs.length = false := by rw [len16]; decide +kernel
    have sh17 : ∀ Hz : Hp, Shows Hz (V.int 17) "17" := fun Hz => .inr (.inr (.inl ⟨17, rfl, by decide +kernel, by decide +kernel⟩))
    refine ⟨rf, fs, _, _, _, rfl, (hRf.kt d43 (KeepT.trans q44 (KeepT.trans q45 (KeepT.trans q46 (KeepT.trans q47 (KeepT.trans q48 (KeepT.trans q49 (KeepT.trans q50 (KeepT.trans q51 q52))))))))), okF, .int _, .inl ⟨bd17, fun ddz ndz => .inl ⟨rfl, ddz, _, _, rfl, upd_same, sh17 _, fun H53 l2 sx2 nl2 el2 => ?_⟩⟩⟩
    have sdz := same_new (o := HO.xd [("value", V.int 17)]) ndz
    have s53 := sdz.trans sx2
    have nel2 := dice_ne (dice_same2 d52 sdz) nl2
    have q53 : KeepT p H52 H53 := kt_same s53
    have d53 := dice_same2 d52 s53
    have b53 := b52.ext s53
    have eT := (lst_kt h50 ne50 (KeepT.trans q51 (KeepT.trans q52 q53)))
    refine ⟨t50, _, _, rfl, rfl, eT, (by show 1 < sizeLine; decide), ?_⟩
    have el1n : upd H53 t50 (HO.lst ([V.ref l1] ++ [V.ref l2])) l1 = some (.lst [.str "reader"]) := by rw [upd_ne (ne_of_none el1 n50)]; exact lst_kt el1 nel1 (KeepT.trans q50 (KeepT.trans q51 (KeepT.trans q52 q53)))
    have el2n : upd H53 t50 (HO.lst ([V.ref l1] ++ [V.ref l2])) l2 = some (.lst [.str "number", .str "17"]) := by rw [upd_ne (fun z => by have e2 := el2; rw [z, eT] at e2; cases e2)]; exact el2
    have hT2 : upd H53 t50 (HO.lst ([V.ref l1] ++ [V.ref l2])) t50 = some (HO.lst ([V.ref l1] ++ [V.ref l2])) := upd_same
    have q54 : KeepT p H49 (upd H53 t50 (HO.lst ([V.ref l1] ++ [V.ref l2]))) := kt_to n50 (KeepT.trans q50 (KeepT.trans q51 (KeepT.trans q52 q53)))
    have d54 := dice_upd (o := HO.lst ([V.ref l1] ++ [V.ref l2])) d53 ne50
    have b54 := tabs_list (ys := [V.ref l1] ++ [V.ref l2]) b53 eT
    generalize upd H53 t50 (HO.lst ([V.ref l1] ++ [V.ref l2])) = H54 at el1n el2n hT2 q54 d54 b54 ⊢
    refine ⟨_, rfl, _, rfl, r45, dl, _, rfl, ((KeepT.trans q46 (KeepT.trans q47 (KeepT.trans q48 (KeepT.trans q49 q54)))) _ _ (not_p d45 eL (fun _ z => by cases z)) eL (fun _ z => by cases z)), rd_no (by decide +kernel) (by decide +kernel), (by show 2 ≤ sizeLine; decide), fun t55 n55 => ?_⟩
    have ne55 := dice_ne d54 n55
    have s55 := same_new (o := HO.tup [V.str "go", V.int 2]) n55
    have h55 : upd H54 t55 (HO.tup [V.str "go", V.int 2]) t55 = some (HO.tup [V.str "go", V.int 2]) := upd_same
    have q55 : KeepT p H54 (upd H54 t55 (HO.tup [V.str "go", V.int 2])) := kt_same s55
    have d55 := dice_upd (o := HO.tup [V.str "go", V.int 2]) d54 ne55
    have b55 := b54.ext s55
    generalize upd H54 t55 (HO.tup [V.str "go", V.int 2]) = H55 at s55 h55 q55 d55 b55 ⊢
    have okM1 : ∀ ss : RowsL, ss.map Prod.snd = putL 1 (.go 2) (lnsOf ls) → RdOk ss := fun ss e => okB_ok (ls := [.go 1, .go 2]) (by decide +kernel) (by rw [e, els]; rfl)
    refine ⟨r45, ls, _, _, _, rfl, (hRL.kt d45 (KeepT.trans q46 (KeepT.trans q47 (KeepT.trans q48 (KeepT.trans q49 (KeepT.trans q54 q55)))))), okL, .int _, .inr ⟨1, rfl, by omega, by omega, .inl ⟨t55, .go 2, rfl, SqT.of (xs := (Ln.go 2).vs) h55, okM1, fun H56 m1 ms1 s56 nm1 em1 hM1 => ?_⟩⟩⟩
    have q56 : KeepT p H55 H56 := kt_same s56
    have d56 := dice_same2 d55 s56
    have b56 := b55.ext s56
    obtain ⟨dm1, Lm1, Tm1, pm1, eM1, hLm1, _⟩ := id hM1
    have ee1 : lnsOf ms1 = [.go 1, .go 2] := by rw [show lnsOf ms1 = _ from em1, els]; rfl
    refine ⟨m1, dm1, _, rfl, eM1, m1, dm1, _, _, rfl, eM1, rd_lines Lm1 Tm1, ?_⟩
    refine ⟨_, rfl, r45, dl, _, rfl, ((KeepT.trans q46 (KeepT.trans q47 (KeepT.trans q48 (KeepT.trans q49 (KeepT.trans q54 (KeepT.trans q55 q56)))))) _ _ (not_p d45 eL (fun _ z => by cases z)) eL (fun _ z => by cases z)), rd_no (by decide +kernel) (by decide +kernel), (by show 2 ≤ sizeLine; decide), fun t57 n57 => ?_⟩
    have ne57 := dice_ne d56 n57
    have s57 := same_new (o := HO.tup [V.str "go", V.int 2]) n57
    have h57 : upd H56 t57 (HO.tup [V.str "go", V.int 2]) t57 = some (HO.tup [V.str "go", V.int 2]) := upd_same
    have q57 : KeepT p H56 (upd H56 t57 (HO.tup [V.str "go", V.int 2])) := kt_same s57
    have d57 := dice_upd (o := HO.tup [V.str "go", V.int 2]) d56 ne57
    have b57 := b56.ext s57
    generalize upd H56 t57 (HO.tup [V.str "go", V.int 2]) = H57 at s57 h57 q57 d57 b57 ⊢
    have okM2 : ∀ ss : RowsL, ss.map Prod.snd = putL 0 (.go 2) (lnsOf ls) → RdOk ss := fun ss e => okB_ok (ls := [.go 2, .go 2]) (by decide +kernel) (by rw [e, els]; rfl)
    refine ⟨r45, ls, _, _, _, rfl, (hRL.kt d45 (KeepT.trans q46 (KeepT.trans q47 (KeepT.trans q48 (KeepT.trans q49 (KeepT.trans q54 (KeepT.trans q55 (KeepT.trans q56 q57)))))))), okL, .int _, .inr ⟨0, rfl, by omega, by omega, .inl ⟨t57, .go 2, rfl, SqT.of (xs := (Ln.go 2).vs) h57, okM2, fun H58 m2 ms2 s58 nm2 em2 hM2 => ?_⟩⟩⟩
    have q58 : KeepT p H57 H58 := kt_same s58
    have d58 := dice_same2 d57 s58
    have b58 := b57.ext s58
    obtain ⟨dm2, Lm2, Tm2, pm2, eM2, hLm2, _⟩ := id hM2
    have ee2 : lnsOf ms2 = [.go 2, .go 2] := by rw [show lnsOf ms2 = _ from em2, els]; rfl
    refine ⟨m2, dm2, _, rfl, eM2, m2, dm2, _, _, rfl, eM2, rd_lines Lm2 Tm2, ?_⟩
    have okM3 : ∀ ss : RowsL, ss.map Prod.snd = cutL 0 (lnsOf ls) → RdOk ss := fun ss e => okB_ok (ls := []) (by decide +kernel) (by rw [e, els]; rfl)
    refine ⟨_, rfl, r45, dl, _, rfl, ((KeepT.trans q46 (KeepT.trans q47 (KeepT.trans q48 (KeepT.trans q49 (KeepT.trans q54 (KeepT.trans q55 (KeepT.trans q56 (KeepT.trans q57 q58)))))))) _ _ (not_p d45 eL (fun _ z => by cases z)) eL (fun _ z => by cases z)), rd_no (by decide +kernel) (by decide +kernel), r45, ls, _, _, rfl, (hRL.kt d45 (KeepT.trans q46 (KeepT.trans q47 (KeepT.trans q48 (KeepT.trans q49 (KeepT.trans q54 (KeepT.trans q55 (KeepT.trans q56 (KeepT.trans q57 q58))))))))), okL, .int _, .inr ⟨0, rfl, by omega, okM3, fun H59 m3 ms3 s59 nm3 em3 hM3 => ?_⟩⟩
    have q59 : KeepT p H58 H59 := kt_same s59
    have d59 := dice_same2 d58 s59
    have b59 := b58.ext s59
    obtain ⟨dm3, Lm3, Tm3, pm3, eM3, hLm3, _⟩ := id hM3
    have ee3 : lnsOf ms3 = [] := by rw [show lnsOf ms3 = _ from em3, els]; rfl
    refine ⟨m3, dm3, _, rfl, eM3, m3, dm3, _, _, rfl, eM3, rd_lines Lm3 Tm3, ?_⟩
    refine ⟨(by show 3 ≤ sizeLine; decide), fun t60 n60 => ?_⟩
    have ne60 := dice_ne d59 n60
    have s60 := same_new (o := HO.lst [V.ref Lm1, V.ref Lm2, V.ref Lm3]) n60
    have h60 : upd H59 t60 (HO.lst [V.ref Lm1, V.ref Lm2, V.ref Lm3]) t60 = some (HO.lst [V.ref Lm1, V.ref Lm2, V.ref Lm3]) := upd_same
    have q60 : KeepT p H59 (upd H59 t60 (HO.lst [V.ref Lm1, V.ref Lm2, V.ref Lm3])) := kt_same s60
    have d60 := dice_upd (o := HO.lst [V.ref Lm1, V.ref Lm2, V.ref Lm3]) d59 ne60
    have b60 := b59.ext s60
    generalize upd H59 t60 (HO.lst [V.ref Lm1, V.ref Lm2, V.ref Lm3]) = H60 at s60 h60 q60 d60 b60 ⊢
    refine ⟨t50, t60, _, _, rfl, rfl, (lst_kt hT2 ne50 (KeepT.trans q55 (KeepT.trans q56 (KeepT.trans q57 (KeepT.trans q58 (KeepT.trans q59 q60)))))), h60, (by show 5 ≤ sizeLine; decide), fun t61 n61 => ?_⟩
    have ne61 := dice_ne d60 n61
    have s61 := same_new (o := HO.lst ([V.ref l1] ++ [V.ref l2] ++ [V.ref Lm1, V.ref Lm2, V.ref Lm3])) n61
    have h61 : upd H60 t61 (HO.lst ([V.ref l1] ++ [V.ref l2] ++ [V.ref Lm1, V.ref Lm2, V.ref Lm3])) t61 = some (HO.lst ([V.ref l1] ++ [V.ref l2] ++ [V.ref Lm1, V.ref Lm2, V.ref Lm3])) := upd_same
    have q61 : KeepT p H60 (upd H60 t61 (HO.lst ([V.ref l1] ++ [V.ref l2] ++ [V.ref Lm1, V.ref Lm2, V.ref Lm3]))) := kt_same s61
    have d61 := dice_upd (o := HO.lst ([V.ref l1] ++ [V.ref l2] ++ [V.ref Lm1, V.ref Lm2, V.ref Lm3])) d60 ne61
    have b61 := b60.ext s61
    generalize upd H60 t61 (HO.lst ([V.ref l1] ++ [V.ref l2] ++ [V.ref Lm1, V.ref Lm2, V.ref Lm3])) = H61 at s61 h61 q61 d61 b61 ⊢
    have okU : ∀ ss : RowsL, ss.map Prod.snd = cutL 0 (lnsOf fs) → RdOk ss := fun ss e => okB_ok (ls := lessL) (by decide +kernel) (by rw [e, efs]; exact full_cut)
    refine ⟨_, rfl, Or.inl ⟨rfl, _, SqL.of h61⟩, _, rfl, rf, df, _, rfl, ((KeepT.trans q44 (KeepT.trans q45 (KeepT.trans q46 (KeepT.trans q47 (KeepT.trans q48 (KeepT.trans q49 (KeepT.trans q54 (KeepT.trans q55 (KeepT.trans q56 (KeepT.trans q57 (KeepT.trans q58 (KeepT.trans q59 (KeepT.trans q60 q61))))))))))))) _ _ (not_p d43 eF (fun _ z => by cases z)) eF (fun _ z => by cases z)), rd_no (by decide +kernel) (by decide +kernel), rf, fs, _, _, rfl, (hRf.kt d43 (KeepT.trans q44 (KeepT.trans q45 (KeepT.trans q46 (KeepT.trans q47 (KeepT.trans q48 (KeepT.trans q49 (KeepT.trans q54 (KeepT.trans q55 (KeepT.trans q56 (KeepT.trans q57 (KeepT.trans q58 (KeepT.trans q59 (KeepT.trans q60 q61)))))))))))))), okF, .int _, .inr ⟨0, rfl, by omega, okU, fun H62 u us s62 nu eu hU => ?_⟩⟩
    have q62 : KeepT p H61 H62 := kt_same s62
    have d62 := dice_same2 d61 s62
    have b62 := b61.ext s62
    obtain ⟨du, Lu, Tu, pu, eU, hLu, _⟩ := id hU
    have eus : lnsOf us = lessL := by rw [show lnsOf us = _ from eu, efs]; exact full_cut
    refine ⟨u, du, _, rfl, eU, u, du, _, _, rfl, eU, rd_lines Lu Tu, ?_⟩
    refine ⟨(by show 2 ≤ sizeLine; decide), fun t63 n63 => ?_⟩
    have ne63 := dice_ne d62 n63
    have s63 := same_new (o := HO.tup [V.str "go", V.int 15]) n63
    have h63 : upd H62 t63 (HO.tup [V.str "go", V.int 15]) t63 = some (HO.tup [V.str "go", V.int 15]) := upd_same
    have q63 : KeepT p H62 (upd H62 t63 (HO.tup [V.str "go", V.int 15])) := kt_same s63
    have d63 := dice_upd (o := HO.tup [V.str "go", V.int 15]) d62 ne63
    have b63 := b62.ext s63
    generalize upd H62 t63 (HO.tup [V.str "go", V.int 15]) = H63 at s63 h63 q63 d63 b63 ⊢
    refine ⟨(by show 1 ≤ sizeLine; decide), fun t64 n64 => ?_⟩
    have ne64 := dice_ne d63 n64
    have s64 := same_new (o := HO.tup [V.ref t63]) n64
    have h64 : upd H63 t64 (HO.tup [V.ref t63]) t64 = some (HO.tup [V.ref t63]) := upd_same
    have q64 : KeepT p H63 (upd H63 t64 (HO.tup [V.ref t63])) := kt_same s64
    have d64 := dice_upd (o := HO.tup [V.ref t63]) d63 ne64
    have b64 := b63.ext s64
    generalize upd H63 t64 (HO.tup [V.ref t63]) = H64 at s64 h64 q64 d64 b64 ⊢
    refine ⟨t64, 15, [V.ref t63], rfl, rfl, SqT.of h64, (fun z => nomatch z), by decide, by decide, (by show 1 ≤ 1000; decide), fun t65 n65 => ?_⟩
    rw [show (List.replicate (Int.toNat 15) [V.ref t63]).flatten = List.replicate 15 (V.ref t63) from rfl]
    skip
    have ne65 := dice_ne d64 n65
    have s65 := same_new (o := HO.tup (List.replicate 15 (V.ref t63))) n65
    have h65 : upd H64 t65 (HO.tup (List.replicate 15 (V.ref t63))) t65 = some (HO.tup (List.replicate 15 (V.ref t63))) := upd_same
    have q65 : KeepT p H64 (upd H64 t65 (HO.tup (List.replicate 15 (V.ref t63)))) := kt_same s65
    have d65 := dice_upd (o := HO.tup (List.replicate 15 (V.ref t63))) d64 ne65
    have b65 := b64.ext s65
    generalize upd H64 t65 (HO.tup (List.replicate 15 (V.ref t63))) = H65 at s65 h65 q65 d65 b65 ⊢
    obtain ⟨gs, egs, hFgs⟩ : ∃ fs : RowsL, lnsOf fs = List.replicate 15 (.go 15) ∧ LinesAt K H65 t65 fs := by
      refine ⟨List.replicate 15 (t63, Ln.go 15), List.map_replicate, ?_, fun r hr => ?_⟩
      · rw [List.map_replicate]; exact SqT.of h65
      · rw [List.eq_of_mem_replicate hr]; exact (sqT_kt (SqT.of h63) d63 (KeepT.trans q64 q65))
    have okG : RdOk gs := okB_ok (ls := lessL) (by decide +kernel) egs
    refine ⟨_, _, (hLu.kt d62 (KeepT.trans q63 (KeepT.trans q64 q65))).dp, hFgs.dp, dls_shaped (lns_safe (okU us eu)), dls_shaped (lns_safe okG), ?_⟩
    rw [dls_eqv, decide_eq_true (show lnsOf us = lnsOf gs by rw [eus, egs]; rfl)]
    have eT66 : H65 t61 = some (.lst [V.ref l1, V.ref l2, V.ref Lm1, V.ref Lm2, V.ref Lm3]) := (lst_kt h61 ne61 (KeepT.trans q62 (KeepT.trans q63 (KeepT.trans q64 q65))))
    refine ⟨t61, _, _, rfl, rfl, eT66, (by show 5 < sizeLine; decide), ?_⟩
    have q66 : KeepT p H60 (upd H65 t61 (HO.lst ([V.ref l1, V.ref l2, V.ref Lm1, V.ref Lm2, V.ref Lm3] ++ [V.bl true]))) := kt_to n61 (KeepT.trans q61 (KeepT.trans q62 (KeepT.trans q63 (KeepT.trans q64 q65))))
    have h66 : upd H65 t61 (HO.lst ([V.ref l1, V.ref l2, V.ref Lm1, V.ref Lm2, V.ref Lm3] ++ [V.bl true])) t61 = some (HO.lst ([V.ref l1, V.ref l2, V.ref Lm1, V.ref Lm2, V.ref Lm3] ++ [V.bl true])) := upd_same
    have ku66 : Keep t61 H65 (upd H65 t61 (HO.lst ([V.ref l1, V.ref l2, V.ref Lm1, V.ref Lm2, V.ref Lm3] ++ [V.bl true]))) := keep_upd
    have d66 := dice_upd (o := HO.lst ([V.ref l1, V.ref l2, V.ref Lm1, V.ref Lm2, V.ref Lm3] ++ [V.bl true])) d65 ne61
    have b66 := tabs_list (ys := [V.ref l1, V.ref l2, V.ref Lm1, V.ref Lm2, V.ref Lm3] ++ [V.bl true]) b65 eT66
    clear ku66
    generalize upd H65 t61 (HO.lst ([V.ref l1, V.ref l2, V.ref Lm1, V.ref Lm2, V.ref Lm3] ++ [V.bl true])) = H66 at q66 h66 d66 b66  ⊢
    have hT5 := h66
    refine ⟨(by show 1 ≤ sizeLine; decide), fun t67 n67 => ?_⟩
    have ne67 := dice_ne d66 n67
    have s67 := same_new (o := HO.lst [V.str "reader"]) n67
    have h67 : upd H66 t67 (HO.lst [V.str "reader"]) t67 = some (HO.lst [V.str "reader"]) := upd_same
    have q67 : KeepT p H66 (upd H66 t67 (HO.lst [V.str "reader"])) := kt_same s67
    have d67 := dice_upd (o := HO.lst [V.str "reader"]) d66 ne67
    have b67 := b66.ext s67
    generalize upd H66 t67 (HO.lst [V.str "reader"]) = H67 at s67 h67 q67 d67 b67 ⊢
    refine ⟨(by show 2 ≤ sizeLine; decide), fun t68 n68 => ?_⟩
    have ne68 := dice_ne d67 n68
    have s68 := same_new (o := HO.lst [V.str "number", V.str "17"]) n68
    have h68 : upd H67 t68 (HO.lst [V.str "number", V.str "17"]) t68 = some (HO.lst [V.str "number", V.str "17"]) := upd_same
    have q68 : KeepT p H67 (upd H67 t68 (HO.lst [V.str "number", V.str "17"])) := kt_same s68
    have d68 := dice_upd (o := HO.lst [V.str "number", V.str "17"]) d67 ne68
    have b68 := b67.ext s68
    generalize upd H67 t68 (HO.lst [V.str "number", V.str "17"]) = H68 at s68 h68 q68 d68 b68 ⊢
    refine ⟨(by show 2 ≤ sizeLine; decide), fun t69 n69 => ?_⟩
    have ne69 := dice_ne d68 n69
    have s69 := same_new (o := HO.tup [V.str "go", V.int 1]) n69
    have h69 : upd H68 t69 (HO.tup [V.str "go", V.int 1]) t69 = some (HO.tup [V.str "go", V.int 1]) := upd_same
    have q69 : KeepT p H68 (upd H68 t69 (HO.tup [V.str "go", V.int 1])) := kt_same s69
    have d69 := dice_upd (o := HO.tup [V.str "go", V.int 1]) d68 ne69
    have b69 := b68.ext s69
    generalize upd H68 t69 (HO.tup [V.str "go", V.int 1]) = H69 at s69 h69 q69 d69 b69 ⊢
    refine ⟨(by show 2 ≤ sizeLine; decide), fun t70 n70 => ?_⟩
    have ne70 := dice_ne d69 n70
    have s70 := same_new (o := HO.tup [V.str "go", V.int 2]) n70
    have h70 : upd H69 t70 (HO.tup [V.str "go", V.int 2]) t70 = some (HO.tup [V.str "go", V.int 2]) := upd_same
    have q70 : KeepT p H69 (upd H69 t70 (HO.tup [V.str "go", V.int 2])) := kt_same s70
    have d70 := dice_upd (o := HO.tup [V.str "go", V.int 2]) d69 ne70
    have b70 := b69.ext s70
    generalize upd H69 t70 (HO.tup [V.str "go", V.int 2]) = H70 at s70 h70 q70 d70 b70 ⊢
    refine ⟨(by show 2 ≤ sizeLine; decide), fun t71 n71 => ?_⟩
    have ne71 := dice_ne d70 n71
    have s71 := same_new (o := HO.tup [V.ref t69, V.ref t70]) n71
    have h71 : upd H70 t71 (HO.tup [V.ref t69, V.ref t70]) t71 = some (HO.tup [V.ref t69, V.ref t70]) := upd_same
    have q71 : KeepT p H70 (upd H70 t71 (HO.tup [V.ref t69, V.ref t70])) := kt_same s71
    have d71 := dice_upd (o := HO.tup [V.ref t69, V.ref t70]) d70 ne71
    have b71 := b70.ext s71
    generalize upd H70 t71 (HO.tup [V.ref t69, V.ref t70]) = H71 at s71 h71 q71 d71 b71 ⊢
    have hDu71 : LinesAt K H71 t71 ([(t69, Ln.go 1), (t70, Ln.go 2)] : RowsL) := by
      refine ⟨SqT.of h71, fun r hr => ?_⟩
      simp only [List.mem_cons, List.not_mem_nil, or_false] at hr
      rcases hr with rfl | rfl
      · exact (sqT_kt (SqT.of h69) d69 (KeepT.trans q70 q71))
      · exact (sqT_kt (SqT.of h70) d70 q71)
    refine ⟨(by show 2 ≤ sizeLine; decide), fun t72 n72 => ?_⟩
    have ne72 := dice_ne d71 n72
    have s72 := same_new (o := HO.tup [V.str "go", V.int 2]) n72
    have h72 : upd H71 t72 (HO.tup [V.str "go", V.int 2]) t72 = some (HO.tup [V.str "go", V.int 2]) := upd_same
    have q72 : KeepT p H71 (upd H71 t72 (HO.tup [V.str "go", V.int 2])) := kt_same s72
    have d72 := dice_upd (o := HO.tup [V.str "go", V.int 2]) d71 ne72
    have b72 := b71.ext s72
    generalize upd H71 t72 (HO.tup [V.str "go", V.int 2]) = H72 at s72 h72 q72 d72 b72 ⊢
    refine ⟨(by show 2 ≤ sizeLine; decide), fun t73 n73 => ?_⟩
    have ne73 := dice_ne d72 n73
    have s73 := same_new (o := HO.tup [V.str "go", V.int 2]) n73
    have h73 : upd H72 t73 (HO.tup [V.str "go", V.int 2]) t73 = some (HO.tup [V.str "go", V.int 2]) := upd_same
    have q73 : KeepT p H72 (upd H72 t73 (HO.tup [V.str "go", V.int 2])) := kt_same s73
    have d73 := dice_upd (o := HO.tup [V.str "go", V.int 2]) d72 ne73
    have b73 := b72.ext s73
    generalize upd H72 t73 (HO.tup [V.str "go", V.int 2]) = H73 at s73 h73 q73 d73 b73 ⊢
    refine ⟨(by show 2 ≤ sizeLine; decide), fun t74 n74 => ?_⟩
    have ne74 := dice_ne d73 n74
    have s74 := same_new (o := HO.tup [V.ref t72, V.ref t73]) n74
    have h74 : upd H73 t74 (HO.tup [V.ref t72, V.ref t73]) t74 = some (HO.tup [V.ref t72, V.ref t73]) := upd_same
    have q74 : KeepT p H73 (upd H73 t74 (HO.tup [V.ref t72, V.ref t73])) := kt_same s74
    have d74 := dice_upd (o := HO.tup [V.ref t72, V.ref t73]) d73 ne74
    have b74 := b73.ext s74
    generalize upd H73 t74 (HO.tup [V.ref t72, V.ref t73]) = H74 at s74 h74 q74 d74 b74 ⊢
    have hDu74 : LinesAt K H74 t74 ([(t72, Ln.go 2), (t73, Ln.go 2)] : RowsL) := by
      refine ⟨SqT.of h74, fun r hr => ?_⟩
      simp only [List.mem_cons, List.not_mem_nil, or_false] at hr
      rcases hr with rfl | rfl
      · exact (sqT_kt (SqT.of h72) d72 (KeepT.trans q73 q74))
      · exact (sqT_kt (SqT.of h73) d73 q74)
    refine ⟨(by show 0 ≤ sizeLine; decide), fun t75 n75 => ?_⟩
    have ne75 := dice_ne d74 n75
    have s75 := same_new (o := HO.tup []) n75
    have h75 : upd H74 t75 (HO.tup []) t75 = some (HO.tup []) := upd_same
    have q75 : KeepT p H74 (upd H74 t75 (HO.tup [])) := kt_same s75
    have d75 := dice_upd (o := HO.tup []) d74 ne75
    have b75 := b74.ext s75
    generalize upd H74 t75 (HO.tup []) = H75 at s75 h75 q75 d75 b75 ⊢
    refine ⟨(by show 6 ≤ sizeLine; decide), fun t76 n76 => ?_⟩
    have ne76 := dice_ne d75 n76
    have s76 := same_new (o := HO.lst [V.ref t67, V.ref t68, V.ref t71, V.ref t74, V.ref t75, V.bl true]) n76
    have h76 : upd H75 t76 (HO.lst [V.ref t67, V.ref t68, V.ref t71, V.ref t74, V.ref t75, V.bl true]) t76 = some (HO.lst [V.ref t67, V.ref t68, V.ref t71, V.ref t74, V.ref t75, V.bl true]) := upd_same
    have q76 : KeepT p H75 (upd H75 t76 (HO.lst [V.ref t67, V.ref t68, V.ref t71, V.ref t74, V.ref t75, V.bl true])) := kt_same s76
    have d76 := dice_upd (o := HO.lst [V.ref t67, V.ref t68, V.ref t71, V.ref t74, V.ref t75, V.bl true]) d75 ne76
    have b76 := b75.ext s76
    generalize upd H75 t76 (HO.lst [V.ref t67, V.ref t68, V.ref t71, V.ref t74, V.ref t75, V.bl true]) = H76 at s76 h76 q76 d76 b76 ⊢
    refine ⟨rfl, _, rfl, fun D6 n6 => ?_⟩
    refine lc_fil walk_str n6 (fun i acc H' => ∃ ks : RowsL, acc = (ks.map fun r => V.ref r.1) ∧ (∀ r ∈ ks, SqT K H' r.1 r.2.vs) ∧ ks.map Prod.snd = sixL.take i) ⟨[], rfl, fun r z => (by cases z), rfl⟩ (fun _ _ => trivial) ?_ ?_
    · rintro i v acc Ha Hb hi sa ea ⟨ks, rfl, hk, ek⟩ ⟨rfl, c, hc, rfl⟩
      refine ⟨rfl, tt_yes ?_⟩
      refine ⟨_, rfl, (by show 4 ≤ sizeLine; decide), fun t nt => ?_⟩
      have hi6 : i < 6 := by rw [← abc_size]; exact hi
      have sat : sixL[i]? = some (.ift ⟨#[c]⟩ "x" 0) := by
        have z := abc_at i hi6
        rw [hc] at z
        show (abcL.map fun s => Ln.ift s "x" 0)[i]? = _
        rw [List.getElem?_map, ← z]; rfl
      refine put_of n6 (fun i acc l H2 H3 e kp ⟨ks, z1, z2, z3⟩ => ⟨ks, z1, fun r hr => off_seq e kp (z2 r hr), z3⟩) sa ea (same_new nt) ?_ ⟨ks ++ [(t, .ift ⟨#[c]⟩ "x" 0)], by rw [List.map_append]; rfl, fun r hr => ?_, ?_⟩
      · have h1 := congrArg List.length ek
        rw [List.length_map, List.length_take] at h1
        rw [List.length_map, sizeLine_eq]; omega
      · rcases List.mem_append.mp hr with z | z
        · exact sqT_up (hk r z) (same_new nt)
        · rw [List.mem_singleton.mp z]; exact SqT.of upd_same
      · rw [List.map_append, ek, List.take_add_one, sat]; rfl
    rintro acc H77 s77 ek77 ⟨ks, rfl, hks, eks⟩
    have q77 : KeepT p H76 H77 := kt_same s77
    have d77 := dice_same2 d76 s77
    have b77 := b76.ext s77
    rw [abc_size] at eks
    have ek6 : lnsOf ks = sixL := eks
    have len6 : ks.length = 6 := by have := congrArg List.length ek6; rw [List.length_map] at this; exact this
    have ok6 : RdOk ks := okB_ok (ls := sixL) (by decide +kernel) ek6
    refine ⟨D6, _, rfl, SqL.of ek77, fun t78 n78 => ?_⟩
    have ne78 := dice_ne d77 n78
    have s78 := same_new (o := HO.tup (ks.map fun r => V.ref r.1)) n78
    have h78 : upd H77 t78 (HO.tup (ks.map fun r => V.ref r.1)) t78 = some (HO.tup (ks.map fun r => V.ref r.1)) := upd_same
    have q78 : KeepT p H77 (upd H77 t78 (HO.tup (ks.map fun r => V.ref r.1))) := kt_same s78
    have d78 := dice_upd (o := HO.tup (ks.map fun r => V.ref r.1)) d77 ne78
    have b78 := b77.ext s78
    generalize upd H77 t78 (HO.tup (ks.map fun r => V.ref r.1)) = H78 at s78 h78 q78 d78 b78 ⊢
    refine ⟨t78, ks, rfl, ⟨SqT.of h78, fun r hr => sqT_up (hks r hr) s78⟩, ok6, fun H79 rx s79 nrx hRx => ?_⟩
    have q79 : KeepT p H78 H79 := kt_same s79
    have d79 := dice_same2 d78 s79
    have b79 := b78.ext s79
    obtain ⟨dx6, Lx6, Tx6, px6, ex6, _, _⟩ := id hRx
    have sh5 : SeqAt.shaped (.list [.list [.str "reader"], .list [.str "number", .str "17"], dls [.go 1, .go 2], dls [.go 2, .go 2], dls [], .bool true]) = true := by decide +kernel
    have dp1 : Dp K H79 (.ref Lm1) (dls [.go 1, .go 2]) := by rw [← ee1]; exact (hLm1.kt d56 (KeepT.trans q57 (KeepT.trans q58 (KeepT.trans q59 (KeepT.trans q60 (KeepT.trans q66 (KeepT.trans q67 (KeepT.trans q68 (KeepT.trans q69 (KeepT.trans q70 (KeepT.trans q71 (KeepT.trans q72 (KeepT.trans q73 (KeepT.trans q74 (KeepT.trans q75 (KeepT.trans q76 (KeepT.trans q77 (KeepT.trans q78 q79)))))))))))))))))).dp
    have dp2 : Dp K H79 (.ref Lm2) (dls [.go 2, .go 2]) := by rw [← ee2]; exact (hLm2.kt d58 (KeepT.trans q59 (KeepT.trans q60 (KeepT.trans q66 (KeepT.trans q67 (KeepT.trans q68 (KeepT.trans q69 (KeepT.trans q70 (KeepT.trans q71 (KeepT.trans q72 (KeepT.trans q73 (KeepT.trans q74 (KeepT.trans q75 (KeepT.trans q76 (KeepT.trans q77 (KeepT.trans q78 q79)))))))))))))))).dp
    have dp3 : Dp K H79 (.ref Lm3) (dls []) := by rw [← ee3]; exact (hLm3.kt d59 (KeepT.trans q60 (KeepT.trans q66 (KeepT.trans q67 (KeepT.trans q68 (KeepT.trans q69 (KeepT.trans q70 (KeepT.trans q71 (KeepT.trans q72 (KeepT.trans q73 (KeepT.trans q74 (KeepT.trans q75 (KeepT.trans q76 (KeepT.trans q77 (KeepT.trans q78 q79))))))))))))))).dp
    refine ⟨_, rfl, _, rfl, .list [.list [.str "reader"], .list [.str "number", .str "17"], dls [.go 1, .go 2], dls [.go 2, .go 2], dls [], .bool true], .list [.list [.str "reader"], .list [.str "number", .str "17"], dls [.go 1, .go 2], dls [.go 2, .go 2], dls [], .bool true], .lst (SqL.of (lst_kt hT5 ne61 (KeepT.trans q67 (KeepT.trans q68 (KeepT.trans q69 (KeepT.trans q70 (KeepT.trans q71 (KeepT.trans q72 (KeepT.trans q73 (KeepT.trans q74 (KeepT.trans q75 (KeepT.trans q76 (KeepT.trans q77 (KeepT.trans q78 q79)))))))))))))) (.cons (.lst (SqL.of (lst_kt el1n nel1 (KeepT.trans q55 (KeepT.trans q56 (KeepT.trans q57 (KeepT.trans q58 (KeepT.trans q59 (KeepT.trans q60 (KeepT.trans q66 (KeepT.trans q67 (KeepT.trans q68 (KeepT.trans q69 (KeepT.trans q70 (KeepT.trans q71 (KeepT.trans q72 (KeepT.trans q73 (KeepT.trans q74 (KeepT.trans q75 (KeepT.trans q76 (KeepT.trans q77 (KeepT.trans q78 q79))))))))))))))))))))) (.cons (.str _) .nil)) (.cons (.lst (SqL.of (lst_kt el2n nel2 (KeepT.trans q55 (KeepT.trans q56 (KeepT.trans q57 (KeepT.trans q58 (KeepT.trans q59 (KeepT.trans q60 (KeepT.trans q66 (KeepT.trans q67 (KeepT.trans q68 (KeepT.trans q69 (KeepT.trans q70 (KeepT.trans q71 (KeepT.trans q72 (KeepT.trans q73 (KeepT.trans q74 (KeepT.trans q75 (KeepT.trans q76 (KeepT.trans q77 (KeepT.trans q78 q79))))))))))))))))))))) (.cons (.str _) (.cons (.str _) .nil))) (.cons dp1 (.cons dp2 (.cons dp3 (.cons (.bl _) .nil)))))), .lst (SqL.of (lst_kt h76 ne76 (KeepT.trans q77 (KeepT.trans q78 q79)))) (.cons (.lst (SqL.of (lst_kt h67 ne67 (KeepT.trans q68 (KeepT.trans q69 (KeepT.trans q70 (KeepT.trans q71 (KeepT.trans q72 (KeepT.trans q73 (KeepT.trans q74 (KeepT.trans q75 (KeepT.trans q76 (KeepT.trans q77 (KeepT.trans q78 q79))))))))))))) (.cons (.str _) .nil)) (.cons (.lst (SqL.of (lst_kt h68 ne68 (KeepT.trans q69 (KeepT.trans q70 (KeepT.trans q71 (KeepT.trans q72 (KeepT.trans q73 (KeepT.trans q74 (KeepT.trans q75 (KeepT.trans q76 (KeepT.trans q77 (KeepT.trans q78 q79)))))))))))) (.cons (.str _) (.cons (.str _) .nil))) (.cons (hDu71.kt d71 (KeepT.trans q72 (KeepT.trans q73 (KeepT.trans q74 (KeepT.trans q75 (KeepT.trans q76 (KeepT.trans q77 (KeepT.trans q78 q79)))))))).dp (.cons (hDu74.kt d74 (KeepT.trans q75 (KeepT.trans q76 (KeepT.trans q77 (KeepT.trans q78 q79))))).dp (.cons (.tup (sqT_kt (SqT.of h75) d75 (KeepT.trans q76 (KeepT.trans q77 (KeepT.trans q78 q79)))) .nil) (.cons (.bl _) .nil)))))), sh5, sh5, _, rfl, ?_⟩
    rw [SeqAt.eqv_refl _ (SeqAt.canLay_of_shaped sh5)]
    refine iteT ?_
    refine ⟨b79, fun H80 e80 b80 => ?_⟩
    have q80 : KeepT p H79 H80 := kt_ext e80
    have d80 := dice_ext d79 e80
    refine ⟨_, rfl, rx, dx6, _, rfl, (q80 _ _ (not_p d79 ex6 (fun _ z => by cases z)) ex6 (fun _ z => by cases z)), rd_no (by decide +kernel) (by decide +kernel), (by show 4 ≤ sizeLine; decide), fun t81 n81 => ?_⟩
    have ne81 := dice_ne d80 n81
    have s81 := same_new (o := HO.tup [V.str "if", V.str "g", V.str "x", V.int 0]) n81
    have h81 : upd H80 t81 (HO.tup [V.str "if", V.str "g", V.str "x", V.int 0]) t81 = some (HO.tup [V.str "if", V.str "g", V.str "x", V.int 0]) := upd_same
    have q81 : KeepT p H80 (upd H80 t81 (HO.tup [V.str "if", V.str "g", V.str "x", V.int 0])) := kt_same s81
    have d81 := dice_upd (o := HO.tup [V.str "if", V.str "g", V.str "x", V.int 0]) d80 ne81
    have b81 := b80.ext s81
    generalize upd H80 t81 (HO.tup [V.str "if", V.str "g", V.str "x", V.int 0]) = H81 at s81 h81 q81 d81 b81 ⊢
    refine ⟨rx, ks, 6, t81, .ift "g" "x" 0, rfl, (hRx.kt d79 (KeepT.trans q80 q81)), ok6, by omega, SqT.of (xs := (Ln.ift "g" "x" 0).vs) h81, .inr ⟨by omega, by rw [len6]; decide +kernel, fun ps hA => sev_many (by rw [ek6] at hA; exact hA)⟩, fun Hx sx0 => .inr ⟨rfl, fun H82 l6 sx6 nl6 el6 => ?_⟩⟩
    have s82 := sx0.trans sx6
    have nel6 := dice_ne (dice_same2 d81 sx0) nl6
    have q82 : KeepT p H81 H82 := kt_same s82
    have d82 := dice_same2 d81 s82
    have b82 := b81.ext s82
    refine ⟨(by show 1 ≤ sizeLine; decide), fun t83 n83 => ?_⟩
    have ne83 := dice_ne d82 n83
    have s83 := same_new (o := HO.lst [V.str "reader"]) n83
    have h83 : upd H82 t83 (HO.lst [V.str "reader"]) t83 = some (HO.lst [V.str "reader"]) := upd_same
    have q83 : KeepT p H82 (upd H82 t83 (HO.lst [V.str "reader"])) := kt_same s83
    have d83 := dice_upd (o := HO.lst [V.str "reader"]) d82 ne83
    have b83 := b82.ext s83
    generalize upd H82 t83 (HO.lst [V.str "reader"]) = H83 at s83 h83 q83 d83 b83 ⊢
    have sh6 : SeqAt.shaped (.list [.str "reader"]) = true := by decide +kernel
    refine ⟨.list [.str "reader"], .list [.str "reader"], .lst (SqL.of (lst_kt el6 nel6 q83)) (.cons (.str _) .nil), .lst (SqL.of h83) (.cons (.str _) .nil), sh6, sh6, ?_⟩
    rw [SeqAt.eqv_refl _ (SeqAt.canLay_of_shaped sh6)]
    exact k _
end
end Rd

/-! The end of a law whose defs make lambdas: its tables are empty when it is called -/
namespace Ox
open PySem PySem.Spec PyProof.Rows L2 LamX
open Classical in
theorem law_callTG {P : Program} {w : World} {K : PySem.W.Frag} {mg mb : Str → Option Value} {k : Nat} {fa a : Addr} {cs : List (Addr × Addr)} {fd : FuncData} {x : Str} {sp : Sp} {s₁ : Shared} {vs : List Value} {ns : List Int}
    (KX : K.In s₁.heap) (hns : s₁.heap.Ns mainGlobals mg) (hb : s₁.heap.Ns builtinsNs mb) (hbb : ∀ x : Str, x ≠ "__name__" → mb x = bootBuiltins x) (hlim : s₁.heap.NoLimit) (hsys : ∃ mm, s₁.heap.Ns sysModules mm) (hg : s₁.gens = #[])
    (tabs : ∀ p ∈ cs, s₁.heap.get? p.2 = some (PySem.W.tabObj #[]) ∧ K.lookup p.2 = none ∧ PySem.W.CodeHd s₁.heap p.1 p.2)
    (hbm : ∃ (bm : Addr) (ob : Obj), mg "__builtins__" = some (.ref bm) ∧ bm ≠ builtinsNs ∧ s₁.heap.get? bm = some ob ∧ ob.cls = .type "module" ∧ ob.dict = some builtinsNs ∧ ob.data = .plain)
    (ha : s₁.heap.get? a = some { cls := .type "list", data := .seq vs.toArray }) (hi : IntsAre vs ns) (hl : ns.length ≤ sizeLine) (hr : Room k callerA)
    (F : ∀ base : Heap, K.In base → base.Ns mainGlobals mg → (∃ o, base.get? sysModules = some o) → (∀ p ∈ cs, TabB base mg p.1 p.2) → FnG P w K mg base k fa fd [x] sp) (hbind : ∀ (s : Shared) (u : Value), BindsTo s fd ⟨[u], []⟩ [(x, u)])
    (hsp : ∀ H : Hp, (∀ p ∈ cs, H p.2 = some (.tbl #[])) → SqL K H a (ns.map V.int) → sp [.ref a] H (fun v _ => v = .bl true) fun _ _ _ => False) :
    codeAny (model P w) callerA (.call (.ref fa) ⟨[.ref a], []⟩) (fun r s' => r = .ok (.ret (.bool true)) ∧ OldK s₁.heap s'.heap ∧ s'.os = s₁.os ∧ AllBare s'.gens) s₁ := by
  have rv := vals_ints hi
  have lenV := hi.length
  have nota : ∀ p ∈ cs, p.2 ≠ a := fun p hp z => by
    have q := (tabs p hp).1
    rw [z, ha] at q
    exact nomatch (congrArg Obj.data (Option.some.inj q) : Data.seq vs.toArray _ = Data.fields #[])
  -- what is known of the heap: the tables are empty; the script, where it is no constant
  let script : HO := .frz { cls := .type "list", data := .seq vs.toArray } (.lst (ns.map V.int))
  let H : Hp := fun b => if ∃ p ∈ cs, p.2 = b then some (.tbl #[]) else if b = a ∧ K.lookup a = none then some script else none
  have tab_ : ∀ p ∈ cs, H p.2 = some (.tbl #[]) := fun p hp => if_pos ⟨p, hp, rfl⟩
  have scr_ : K.lookup a = none → H a = some script := fun hk => (if_neg (fun ⟨p, hp, e⟩ => nota p hp e)).trans (if_pos ⟨rfl, hk⟩)
  have says : ∀ {b u}, H b = some u → (∃ p ∈ cs, p.2 = b ∧ u = .tbl #[]) ∨ (b = a ∧ K.lookup a = none ∧ u = script) := fun {b u} e => by
    by_cases h1 : ∃ p ∈ cs, p.2 = b
    · obtain ⟨p, hp, rfl⟩ := h1
      rw [tab_ p hp] at e; cases e
      exact .inl ⟨p, hp, rfl, rfl⟩
    · have e1 := (if_neg h1).symm.trans e
      by_cases h2 : b = a ∧ K.lookup a = none
      · exact .inr ⟨h2.1, h2.2, (Option.some.inj ((if_pos h2).symm.trans e1)).symm⟩
      · exact nomatch (if_neg h2).symm.trans e1
  have hS : SqL K H a (ns.map V.int) := by
    cases hk : K.lookup a with
    | none => exact .inl (.inr ⟨_, scr_ hk⟩)
    | some o =>
      have e := KX a o hk
      rw [ha] at e; cases e
      exact .inr ⟨_, vs.toArray, _, hk, rfl, rfl, rfl, by rw [List.size_toArray, lenV]; exact hl, by simpa using rv⟩
  have hok : HOk P w H s₁.heap := fun b u e => by
    rcases says e with ⟨p, hp, rfl, rfl⟩ | ⟨rfl, _, rfl⟩
    · exact (tabs p hp).1
    · exact ⟨ha, by rw [List.length_map]; exact hl, vs, _, rv, ha⟩
  -- an object that is neither is not spoken of
  have clear_ : ∀ {b : Addr} {o : Obj}, s₁.heap.get? b = some o → (∀ us n, o.data ≠ .seq us n) → o.data ≠ .fields #[] → H b = none := fun {b o} e h1 h2 => by
    cases q : H b with
    | none => rfl
    | some u =>
      rcases says q with ⟨p, hp, rfl, _⟩ | ⟨rfl, _⟩
      · rw [(tabs p hp).1] at e; cases e; exact absurd rfl h2
      · rw [ha] at e; cases e; exact absurd rfl (h1 _ _)
  have base_ : ∀ {b : Addr} {o : Obj}, s₁.heap.get? b = some o → H b = none → (hidT s₁.heap H).get? b = some o := fun e n => hidT_get e n
  have nsB : ∀ {b : Addr} {m : Str → Option Value}, s₁.heap.Ns b m → (hidT s₁.heap H).Ns b m := fun {b m} ⟨o, es, ep, e, d, r⟩ =>
    ⟨o, es, ep, base_ e (clear_ e (fun us n z => by rw [d] at z; cases z) fun z => by rw [d] at z; cases z), d, r⟩
  have hKb : K.In (hidT s₁.heap H) := fun b o e => base_ (KX b o e) (by
    cases q : H b with
    | none => rfl
    | some u =>
      rcases says q with ⟨p, hp, rfl, _⟩ | ⟨rfl, hk, _⟩
      · rw [(tabs p hp).2.1] at e; cases e
      · rw [hk] at e; cases e)
  have hM : L2.Mod K mg (hidT s₁.heap H) := ⟨hKb, nsB hns, ⟨mb, nsB hb, hbb⟩, let ⟨mc, h1, h2⟩ := hlim; ⟨mc, nsB h1, h2⟩⟩
  have hS1 : ∃ o, (hidT s₁.heap H).get? sysModules = some o := by
    obtain ⟨mm, hm⟩ := hsys
    obtain ⟨o, es, ep, e, _⟩ := nsB hm
    exact ⟨o, e⟩
  obtain ⟨om, esm, epm, em, dm, _⟩ := id hns
  have TB : ∀ p ∈ cs, TabB (hidT s₁.heap H) mg p.1 p.2 := fun p hp => by
    obtain ⟨hT, _, hC⟩ := tabs p hp
    refine ⟨?_, ?_, fun z => ?_⟩
    · obtain ⟨o, us, file, tf, flags, tg, inF, text, tt, e1, r1, r2, r3, rest⟩ := hC
      refine ⟨o, us, file, tf, flags, tg, inF, text, tt, base_ e1 (clear_ e1 (fun _ n z => ?_) fun z => ?_), r1, r2, r3, rest⟩
      · rw [r2] at z; cases z
      · rw [r2] at z; cases z; simp at r3
    · obtain ⟨bm, ob, b1, b2, b3, b4, b5, b6⟩ := hbm
      refine ⟨bm, ob, b1, b2, fun q => ?_, fun q => ?_, base_ b3 (clear_ b3 (fun _ n z => ?_) fun z => ?_), b4, b5, b6⟩
      · rw [q, em] at b3; cases b3; rw [dm] at b6; cases b6
      · rw [q, hT] at b3; cases b3; cases b6
      · rw [b6] at z; cases z
      · rw [b6] at z; cases z
    · rw [z, hT] at em; cases em; cases dm
  have e0 : Env0 P w K mg (hidT s₁.heap H) callerA [] s₁ H := ⟨rfl, hM, fun b o e => of_hidT e, Nat.le_of_eq (hidT_size _ _), trivial, fun b hb => absurd (show b ∈ ([] : List Addr) from hb) (by simp), hok, .of_eq hg⟩
  refine codeAny_mono ((F _ hKb (nsB hns) hS1 TB).run callerA [] s₁ H ⟨[.ref a], []⟩ [.ref a] [.ref a] _ _ rfl hr e0 (hbind s₁ (.ref a)) (.cons rfl .nil) (hsp H tab_ hS)) fun r s' h => ?_
  match r, h with
  | .error e, h => exact False.elim h
  | .ok .next, h => exact False.elim h
  | .ok .brk, h => exact False.elim h
  | .ok .cont, h => exact False.elim h
  | .ok (.ret u), h =>
    obtain ⟨v, H', os, bare, un, hok', r', q⟩ := h
    have q' : v = .bl true := q
    subst q'
    obtain rfl : u = Value.bool true := r'
    have more : ∀ p ∈ cs, ∃ us : Array Value, s'.heap.get? p.2 = some (PySem.W.tabObj us) := fun p hp =>
      let ⟨us, z⟩ := un.tbls p.2 #[] (tab_ p hp)
      ⟨_, hok' p.2 _ z⟩
    have stay : ∀ b o, (¬ ∃ p ∈ cs, p.2 = b) → s₁.heap.get? b = some o → s'.heap.get? b = some o := fun b o nb e => by
      cases q : H b with
      | none => exact un.keep b o e q (by intro z; exact absurd (show b ∈ ([] : List Addr) from z) (by simp)) (by simp)
      | some u =>
        rcases says q with ⟨p, hp, z, _⟩ | ⟨rfl, _, rfl⟩
        · exact absurd ⟨p, hp, z⟩ nb
        · obtain ⟨e1, _⟩ := hok b _ q
          obtain ⟨e2, _⟩ := hok' b _ (un.frzs b _ _ q)
          rw [e] at e1; cases e1
          exact e2
    refine ⟨rfl, ⟨fun b o e => ?_, fun b o e => ?_⟩, os, bare⟩
    · by_cases hb : ∃ p ∈ cs, p.2 = b
      · obtain ⟨p, hp, rfl⟩ := hb
        obtain ⟨us, hm⟩ := more p hp
        obtain ⟨hT, _, hC⟩ := tabs p hp
        rw [hT] at e; cases e
        exact .inr (.inl ⟨(hC.tab hT).isCodeTable, rfl, #[], us, rfl, by rw [Array.empty_append]; exact hm⟩)
      · exact .inl (stay b o hb e)
    · by_cases hb : ∃ p ∈ cs, p.2 = b
      · obtain ⟨p, hp, rfl⟩ := hb
        obtain ⟨us, hm⟩ := more p hp
        exact ⟨_, hm⟩
      · exact ⟨o, stay b o hb e⟩
theorem walkTG {l : PySem.W.OpenLaw} {n k : Nat} {q : Program} {loose : List Str} {XP : (Str → Option Value) → Heap → Prop} {YP : World → Heap → Prop} {d : DefRec} {K : Params → PySem.W.Frag} {x : Str} (hn : l.most = some n) (hn2 : n ≤ sizeLine) (hdf : d.params.defaults = []) (hr : Room k callerA)
    (hq : importsNone q = true) (hY : ∀ (w : World) (h : Heap), YP w h → (K w.params).In h)
    (F : ∀ (w : World) (mg : Str → Option Value) (fa : Addr) (h : Heap), YP w h → (K w.params).In h → h.Ns mainGlobals mg → mg d.name = some (.ref fa) →
      ∃ (fd : FuncData) (cs : List (Addr × Addr)) (sp : Sp), (∀ p ∈ cs, h.get? p.2 = some (PySem.W.tabObj #[]) ∧ (K w.params).lookup p.2 = none ∧ PySem.W.CodeHd h p.1 p.2) ∧ (∀ (s : Shared) (u : Value), BindsTo s fd ⟨[u], []⟩ [(x, u)]) ∧
        (∀ (H : Hp) (a : Addr) (ns : List Int), ns.length ≤ n → (∀ p ∈ cs, H p.2 = some (.tbl #[])) → SqL (K w.params) H a (ns.map V.int) → sp [.ref a] H (fun v _ => v = .bl true) fun _ _ _ => False) ∧
        ∀ base : Heap, (K w.params).In base → base.Ns mainGlobals mg → (∃ o, base.get? sysModules = some o) → (∀ p ∈ cs, TabB base mg p.1 p.2) → FnG l.prog w (K w.params) mg base k fa fd [x] sp) : PySem.W.WalkO q loose XP YP l.row.toRowW d [] (fun f vs => PySem.call f vs) := by
  refine Att.attach_call hn hdf fun w s₀ s₁ mg mb fa o pm cd doc a vs ns G Y ho hd hcd hmg hobj hints hlen hg => ?_
  have KX := hY w _ Y
  obtain ⟨fd, cs, sp, tabs, hb, hsp, hF⟩ := F w mg fa _ Y KX G.T.g hmg
  obtain ⟨mm, hm, _⟩ := (G.T.seer hq).mods
  exact law_callTG KX G.T.g G.T.b G.T.builtins G.T.nolimit ⟨mm, hm⟩ hg tabs G.T.bmain hobj hints (Nat.le_trans hlen hn2) hr hF hb fun H hH hS => hsp H a ns hlen hH hS
end Ox

namespace Rd
open PySem PySem.Spec PyProof.Rows L2 Tq Dn Dc Ox LamX
def noB (K : PySem.W.Frag) (C : Addr) : Bool := tys.all fun t => PySem.W.kitOne K (.type t) (.ref C) == some false
def nfB (K : PySem.W.Frag) (C : Addr) : Bool := tys.all fun t => PySem.W.notFirst K C (.type t)
/-- a promise under which nothing is raised holds where something may be -/
theorem fnr_lift {P : Program} {w : World} {K : PySem.W.Frag} {mg : Str → Option Value} {base : Heap} {k : Nat} {f : Addr} {sp : Sp} {CX : CXT} (F : FnR P w K mg base CX0 k f sp) : FnR P w K mg base CX k f sp :=
  fun A outer s H us vs Q E hr e0 r h => codeAny_mono (F A outer s H us vs Q E hr e0 r h) fun r s' h => match r, h with
    | .ok (.ret _), h => h
    | .ok .next, h => h
    | .ok .brk, h => h
    | .ok .cont, h => h
    | .error _, h => False.elim h
theorem plainRC {CX : CXT} {P : Program} {w : World} {K : PySem.W.Frag} {mg : Str → Option Value} {base : Heap} {k : Nat} {f : Addr} {fd : FuncData} {ps : List Str} {sp : Sp} (F : FnOk P w K mg base CX k f fd ps sp) (hb : Binds K fd ps []) : FnR P w K mg base CX k f sp :=
  (F.raw hb .nil).imp fun vs H Q E h => by rw [List.append_nil]; exact h
theorem fnr_or {P : Program} {w : World} {K : PySem.W.Frag} {mg : Str → Option Value} {base : Heap} {k : Nat} {f : Addr} {sa sb : Sp} {CX : CXT} (A_ : FnR P w K mg base CX k f sa) (B_ : FnR P w K mg base CX k f sb) : FnR P w K mg base CX k f (fun vs H Q E => sa vs H Q E ∨ sb vs H Q E) :=
  fun A outer s H us vs Q E hr e0 r h => h.elim (A_ A outer s H us vs Q E hr e0 r) (B_ A outer s H us vs Q E hr e0 r)
theorem tabS_nil {H : Hp} {P : Addr} {q : Str} (h : H P = some (.tbl #[])) : TabS H P q := ⟨#[], h, trivial, fun pos cv z => by cases z⟩
theorem all_mk {P : Program} {w : World} {K : PySem.W.Frag} {h : Heap} {mg : Str → Option Value} {fa C CN CR J cc1 cc2 P1 P2 : Addr} {f0 f1 f2 f3 f4 f5 f6 f7 f8 f9 f10 f11 f12 f13 f14 f15 f16 f17 f18 f19 f20 f21 f22 : Addr} {g0 g1 g2 g3 g4 g5 g6 g7 g8 g9 g10 g11 g12 : Addr} {p1 p2 p3 p4 p5 p6 : Addr} {rest1 rest2 rest3 rest4 rest5 rest6 : List Value} {tL tT : Tok} (X : K.In h) (G : h.Ns mainGlobals mg) (hfa : mg "law" = some (.ref fa)) (hT1 : h.get? P1 = some (PySem.W.tabObj #[])) (hT2 : h.get? P2 = some (PySem.W.tabObj #[])) (hPP : P1 ≠ P2)
    {od0 an0 : Option Addr} {sl0 : Array (Option Value)} {oc0 kV0 dc0 pm0 cd0 ct0 : Value}
    {od1 an1 : Option Addr} {sl1 : Array (Option Value)} {oc1 kV1 dc1 pm1 cd1 ct1 : Value}
    {od2 an2 : Option Addr} {sl2 : Array (Option Value)} {oc2 kV2 dc2 pm2 cd2 ct2 : Value}
    {od3 an3 : Option Addr} {sl3 : Array (Option Value)} {oc3 kV3 dc3 pm3 cd3 ct3 : Value}
    {od4 an4 : Option Addr} {sl4 : Array (Option Value)} {oc4 kV4 dc4 pm4 cd4 ct4 : Value}
    {od5 an5 : Option Addr} {sl5 : Array (Option Value)} {oc5 kV5 dc5 pm5 cd5 ct5 : Value}
    {od6 an6 : Option Addr} {sl6 : Array (Option Value)} {oc6 kV6 dc6 pm6 cd6 ct6 : Value}
    {od7 an7 : Option Addr} {sl7 : Array (Option Value)} {oc7 kV7 dc7 pm7 cd7 ct7 : Value}
    {od8 an8 : Option Addr} {sl8 : Array (Option Value)} {oc8 kV8 dc8 pm8 cd8 ct8 : Value}
    {od9 an9 : Option Addr} {sl9 : Array (Option Value)} {oc9 kV9 dc9 pm9 cd9 ct9 : Value}
    {od10 an10 : Option Addr} {sl10 : Array (Option Value)} {oc10 kV10 dc10 pm10 cd10 ct10 : Value}
    {od11 an11 : Option Addr} {sl11 : Array (Option Value)} {oc11 kV11 dc11 pm11 cd11 ct11 : Value}
    {od12 an12 : Option Addr} {sl12 : Array (Option Value)} {oc12 kV12 dc12 pm12 cd12 ct12 : Value}
    {od13 an13 : Option Addr} {sl13 : Array (Option Value)} {oc13 kV13 dc13 pm13 cd13 ct13 : Value}
    {od14 an14 : Option Addr} {sl14 : Array (Option Value)} {oc14 kV14 dc14 pm14 cd14 ct14 : Value}
    {od15 an15 : Option Addr} {sl15 : Array (Option Value)} {oc15 kV15 dc15 pm15 cd15 ct15 : Value}
    {od16 an16 : Option Addr} {sl16 : Array (Option Value)} {oc16 kV16 dc16 pm16 cd16 ct16 : Value}
    {od17 an17 : Option Addr} {sl17 : Array (Option Value)} {oc17 kV17 dc17 pm17 cd17 ct17 : Value}
    {od18 an18 : Option Addr} {sl18 : Array (Option Value)} {oc18 kV18 dc18 pm18 cd18 ct18 : Value}
    {od19 an19 : Option Addr} {sl19 : Array (Option Value)} {oc19 kV19 dc19 pm19 cd19 ct19 : Value}
    {od20 an20 : Option Addr} {sl20 : Array (Option Value)} {oc20 kV20 dc20 pm20 cd20 ct20 : Value}
    {od21 an21 : Option Addr} {sl21 : Array (Option Value)} {oc21 kV21 dc21 pm21 ct21 : Value}
    {od22 an22 : Option Addr} {sl22 : Array (Option Value)} {oc22 kV22 dc22 pm22 ct22 : Value}
    {mod0 man0 : Option Addr} {msl0 : Array (Option Value)} {moc0 mkV0 mdc0 mpm0 mcd0 mct0 : Value}
    {mod1 man1 : Option Addr} {msl1 : Array (Option Value)} {moc1 mkV1 mdc1 mpm1 mcd1 mct1 : Value}
    {mod2 man2 : Option Addr} {msl2 : Array (Option Value)} {moc2 mkV2 mdc2 mpm2 mcd2 mct2 : Value}
    {mod3 man3 : Option Addr} {msl3 : Array (Option Value)} {moc3 mkV3 mdc3 mpm3 mcd3 mct3 : Value}
    {mod4 man4 : Option Addr} {msl4 : Array (Option Value)} {moc4 mkV4 mdc4 mpm4 mcd4 mct4 : Value}
    {mod5 man5 : Option Addr} {msl5 : Array (Option Value)} {moc5 mkV5 mdc5 mpm5 mcd5 mct5 : Value}
    {mod6 man6 : Option Addr} {msl6 : Array (Option Value)} {moc6 mkV6 mdc6 mpm6 mcd6 mct6 : Value}
    {mod7 man7 : Option Addr} {msl7 : Array (Option Value)} {moc7 mkV7 mdc7 mpm7 mcd7 mct7 : Value}
    {mod8 man8 : Option Addr} {msl8 : Array (Option Value)} {moc8 mkV8 mdc8 mpm8 mcd8 mct8 : Value}
    {mod9 man9 : Option Addr} {msl9 : Array (Option Value)} {moc9 mkV9 mdc9 mpm9 mcd9 mct9 : Value}
    {mod10 man10 : Option Addr} {msl10 : Array (Option Value)} {moc10 mkV10 mdc10 mpm10 mcd10 mct10 : Value}
    {mod11 man11 : Option Addr} {msl11 : Array (Option Value)} {moc11 mkV11 mdc11 mpm11 mcd11 mct11 : Value}
    {mod12 man12 : Option Addr} {msl12 : Array (Option Value)} {moc12 mkV12 mdc12 mpm12 mcd12 mct12 : Value}
    {nm0 qn0 : Str} {N0 : Addr} {bs0 : List Value} {sn0 : List Str} {sub0 : List Value} {ab0 : Bool} {col0 : Option Bool} {dd0 : Option Addr} {m00 m01 m02 m03 m05 : Option Value} {iod0 ian0 : Option Addr} {isl0 : Array (Option Value)} {ioc0 idc0 ipm0 icd0 ict0 : Value} {p01 p02 q01 q02 q03 q04 : Pos}
    (gC : PySem.W.nsIn K mainGlobals "Reader" = some (some (.ref C)))
    (gN : PySem.W.nsIn K mainGlobals "InvalidNumber" = some (some (.ref CN)))
    (gR : PySem.W.nsIn K mainGlobals "InvalidReader" = some (some (.ref CR)))
    (gL : PySem.W.nsIn K mainGlobals "MAX_LINES" = some (some (.int 16 tL)))
    (gT : PySem.W.nsIn K mainGlobals "MAX_TESTED" = some (some (.int 6 tT)))
    (d0 : PySem.W.nsIn K mainGlobals "is_name" = some (some (.ref f0)))
    (l0 : K.lookup f0 = some ⟨oc0, od0, .func (PySem.W.fnOf "is_name" "is_name" (defArgs sName) (defBody sName) (defScope sName) .none kV0 dc0 pm0 an0 cd0 ct0), sl0⟩)
    (c0 : PySem.W.codeIn K cd0 "is_name" = true)
    (k0 : PySem.W.keepIn K (.ref f0) = true)
    (d1 : PySem.W.nsIn K mainGlobals "ascending" = some (some (.ref f1)))
    (l1 : K.lookup f1 = some ⟨oc1, od1, .func (PySem.W.fnOf "ascending" "ascending" (defArgs sAsc) (defBody sAsc) (defScope sAsc) .none kV1 dc1 pm1 an1 cd1 ct1), sl1⟩)
    (c1 : PySem.W.codeIn K cd1 "ascending" = true)
    (k1 : PySem.W.keepIn K (.ref f1) = true)
    (d2 : PySem.W.nsIn K mainGlobals "is_whole_number" = some (some (.ref f2)))
    (l2 : K.lookup f2 = some ⟨oc2, od2, .func (PySem.W.fnOf "is_whole_number" "is_whole_number" (defArgs sWhole) (defBody sWhole) (defScope sWhole) .none kV2 dc2 pm2 an2 cd2 ct2), sl2⟩)
    (c2 : PySem.W.codeIn K cd2 "is_whole_number" = true)
    (k2 : PySem.W.keepIn K (.ref f2) = true)
    (d3 : PySem.W.nsIn K mainGlobals "is_number" = some (some (.ref f3)))
    (l3 : K.lookup f3 = some ⟨oc3, od3, .func (PySem.W.fnOf "is_number" "is_number" (defArgs sNumb) (defBody sNumb) (defScope sNumb) .none kV3 dc3 pm3 an3 cd3 ct3), sl3⟩)
    (c3 : PySem.W.codeIn K cd3 "is_number" = true)
    (k3 : PySem.W.keepIn K (.ref f3) = true)
    (d4 : PySem.W.nsIn K mainGlobals "is_number_within" = some (some (.ref f4)))
    (l4 : K.lookup f4 = some ⟨oc4, od4, .func (PySem.W.fnOf "is_number_within" "is_number_within" (defArgs sWithin) (defBody sWithin) (defScope sWithin) .none kV4 dc4 pm4 an4 cd4 ct4), sl4⟩)
    (c4 : PySem.W.codeIn K cd4 "is_number_within" = true)
    (k4 : PySem.W.keepIn K (.ref f4) = true)
    (d5 : PySem.W.nsIn K mainGlobals "are_names" = some (some (.ref f5)))
    (l5 : K.lookup f5 = some ⟨oc5, od5, .func (PySem.W.fnOf "are_names" "are_names" (defArgs sNames) (defBody sNames) (defScope sNames) .none kV5 dc5 pm5 an5 cd5 ct5), sl5⟩)
    (c5 : PySem.W.codeIn K cd5 "are_names" = true)
    (k5 : PySem.W.keepIn K (.ref f5) = true)
    (d6 : PySem.W.nsIn K mainGlobals "is_line" = some (some (.ref f6)))
    (l6 : K.lookup f6 = some ⟨oc6, od6, .func (PySem.W.fnOf "is_line" "is_line" (defArgs sLine) (defBody sLine) (defScope sLine) .none kV6 dc6 pm6 an6 cd6 ct6), sl6⟩)
    (c6 : PySem.W.codeIn K cd6 "is_line" = true)
    (k6 : PySem.W.keepIn K (.ref f6) = true)
    (d7 : PySem.W.nsIn K mainGlobals "pairs_of" = some (some (.ref f7)))
    (l7 : K.lookup f7 = some ⟨oc7, od7, .func (PySem.W.fnOf "pairs_of" "pairs_of" (defArgs sPairs) (defBody sPairs) (defScope sPairs) .none kV7 dc7 pm7 an7 cd7 ct7), sl7⟩)
    (c7 : PySem.W.codeIn K cd7 "pairs_of" = true)
    (k7 : PySem.W.keepIn K (.ref f7) = true)
    (d8 : PySem.W.nsIn K mainGlobals "with_numbers" = some (some (.ref f8)))
    (l8 : K.lookup f8 = some ⟨oc8, od8, .func (PySem.W.fnOf "with_numbers" "with_numbers" (defArgs sWn) (defBody sWn) (defScope sWn) .none kV8 dc8 pm8 an8 cd8 ct8), sl8⟩)
    (c8 : PySem.W.codeIn K cd8 "with_numbers" = true)
    (k8 : PySem.W.keepIn K (.ref f8) = true)
    (d9 : PySem.W.nsIn K mainGlobals "_law_dice" = some (some (.ref f9)))
    (l9 : K.lookup f9 = some ⟨oc9, od9, .func (PySem.W.fnOf "_law_dice" "_law_dice" (defArgs sDice) (defBody sDice) (defScope sDice) .none kV9 dc9 pm9 an9 cd9 ct9), sl9⟩)
    (c9 : PySem.W.codeIn K cd9 "_law_dice" = true)
    (k9 : PySem.W.keepIn K (.ref f9) = true)
    (d10 : PySem.W.nsIn K mainGlobals "_law_roll" = some (some (.ref f10)))
    (l10 : K.lookup f10 = some ⟨oc10, od10, .func (PySem.W.fnOf "_law_roll" "_law_roll" (defArgs sRoll) (defBody sRoll) (defScope sRoll) .none kV10 dc10 pm10 an10 cd10 ct10), sl10⟩)
    (c10 : PySem.W.codeIn K cd10 "_law_roll" = true)
    (k10 : PySem.W.keepIn K (.ref f10) = true)
    (d11 : PySem.W.nsIn K mainGlobals "_law_one_of" = some (some (.ref f11)))
    (l11 : K.lookup f11 = some ⟨oc11, od11, .func (PySem.W.fnOf "_law_one_of" "_law_one_of" (defArgs sOne) (defBody sOne) (defScope sOne) .none kV11 dc11 pm11 an11 cd11 ct11), sl11⟩)
    (c11 : PySem.W.codeIn K cd11 "_law_one_of" = true)
    (k11 : PySem.W.keepIn K (.ref f11) = true)
    (d12 : PySem.W.nsIn K mainGlobals "_law_line" = some (some (.ref f12)))
    (l12 : K.lookup f12 = some ⟨oc12, od12, .func (PySem.W.fnOf "_law_line" "_law_line" (defArgs sLn) (defBody sLn) (defScope sLn) .none kV12 dc12 pm12 an12 cd12 ct12), sl12⟩)
    (c12 : PySem.W.codeIn K cd12 "_law_line" = true)
    (k12 : PySem.W.keepIn K (.ref f12) = true)
    (d13 : PySem.W.nsIn K mainGlobals "_law_lines" = some (some (.ref f13)))
    (l13 : K.lookup f13 = some ⟨oc13, od13, .func (PySem.W.fnOf "_law_lines" "_law_lines" (defArgs sLns) (defBody sLns) (defScope sLns) .none kV13 dc13 pm13 an13 cd13 ct13), sl13⟩)
    (c13 : PySem.W.codeIn K cd13 "_law_lines" = true)
    (k13 : PySem.W.keepIn K (.ref f13) = true)
    (d14 : PySem.W.nsIn K mainGlobals "_law_moved" = some (some (.ref f14)))
    (l14 : K.lookup f14 = some ⟨oc14, od14, .func (PySem.W.fnOf "_law_moved" "_law_moved" (defArgs sMv) (defBody sMv) (defScope sMv) .none kV14 dc14 pm14 an14 cd14 ct14), sl14⟩)
    (c14 : PySem.W.codeIn K cd14 "_law_moved" = true)
    (k14 : PySem.W.keepIn K (.ref f14) = true)
    (d15 : PySem.W.nsIn K mainGlobals "_law_with" = some (some (.ref f15)))
    (l15 : K.lookup f15 = some ⟨oc15, od15, .func (PySem.W.fnOf "_law_with" "_law_with" (defArgs sPut) (defBody sPut) (defScope sPut) .none kV15 dc15 pm15 an15 cd15 ct15), sl15⟩)
    (c15 : PySem.W.codeIn K cd15 "_law_with" = true)
    (k15 : PySem.W.keepIn K (.ref f15) = true)
    (d16 : PySem.W.nsIn K mainGlobals "_law_without" = some (some (.ref f16)))
    (l16 : K.lookup f16 = some ⟨oc16, od16, .func (PySem.W.fnOf "_law_without" "_law_without" (defArgs sCut) (defBody sCut) (defScope sCut) .none kV16 dc16 pm16 an16 cd16 ct16), sl16⟩)
    (c16 : PySem.W.codeIn K cd16 "_law_without" = true)
    (k16 : PySem.W.keepIn K (.ref f16) = true)
    (d17 : PySem.W.nsIn K mainGlobals "_law_course" = some (some (.ref f17)))
    (l17 : K.lookup f17 = some ⟨oc17, od17, .func (PySem.W.fnOf "_law_course" "_law_course" (defArgs sCrs) (defBody sCrs) (defScope sCrs) .none kV17 dc17 pm17 an17 cd17 ct17), sl17⟩)
    (c17 : PySem.W.codeIn K cd17 "_law_course" = true)
    (k17 : PySem.W.keepIn K (.ref f17) = true)
    (d18 : PySem.W.nsIn K mainGlobals "_law_met" = some (some (.ref f18)))
    (l18 : K.lookup f18 = some ⟨oc18, od18, .func (PySem.W.fnOf "_law_met" "_law_met" (defArgs sMet) (defBody sMet) (defScope sMet) .none kV18 dc18 pm18 an18 cd18 ct18), sl18⟩)
    (c18 : PySem.W.codeIn K cd18 "_law_met" = true)
    (k18 : PySem.W.keepIn K (.ref f18) = true)
    (d19 : PySem.W.nsIn K mainGlobals "_law_alike" = some (some (.ref f19)))
    (l19 : K.lookup f19 = some ⟨oc19, od19, .func (PySem.W.fnOf "_law_alike" "_law_alike" (defArgs sAl) (defBody sAl) (defScope sAl) .none kV19 dc19 pm19 an19 cd19 ct19), sl19⟩)
    (c19 : PySem.W.codeIn K cd19 "_law_alike" = true)
    (k19 : PySem.W.keepIn K (.ref f19) = true)
    (d20 : PySem.W.nsIn K mainGlobals "_law_is_told" = some (some (.ref f20)))
    (l20 : K.lookup f20 = some ⟨oc20, od20, .func (PySem.W.fnOf "_law_is_told" "_law_is_told" (defArgs sIt) (defBody sIt) (defScope sIt) .none kV20 dc20 pm20 an20 cd20 ct20), sl20⟩)
    (c20 : PySem.W.codeIn K cd20 "_law_is_told" = true)
    (k20 : PySem.W.keepIn K (.ref f20) = true)
    (d21 : PySem.W.nsIn K mainGlobals "_law_right" = some (some (.ref f21)))
    (l21 : K.lookup f21 = some ⟨oc21, od21, .func (PySem.W.fnOf "_law_right" "_law_right" (defArgs sRj) (defBody sRj) (defScope sRj) .none kV21 dc21 pm21 an21 (.ref cc1) ct21), sl21⟩)
    (c21 : PySem.W.codeIn K (.ref cc1) "_law_right" = true)
    (k21 : PySem.W.keepIn K (.ref f21) = true)
    (d22 : PySem.W.nsIn K mainGlobals "law" = some (some (.ref f22)))
    (l22 : K.lookup f22 = some ⟨oc22, od22, .func (PySem.W.fnOf "law" "law" (defArgs sLw) (defBody sLw) (defScope sLw) .none kV22 dc22 pm22 an22 (.ref cc2) ct22), sl22⟩)
    (c22 : PySem.W.codeIn K (.ref cc2) "law" = true)
    (k22 : PySem.W.keepIn K (.ref f22) = true)
    (z0 : PySem.W.nsIn K mainGlobals "len" = some none)
    (z1 : PySem.W.nsIn K mainGlobals "int" = some none)
    (z2 : PySem.W.nsIn K mainGlobals "abs" = some none)
    (z3 : PySem.W.nsIn K mainGlobals "max" = some none)
    (z4 : PySem.W.nsIn K mainGlobals "list" = some none)
    (z5 : PySem.W.nsIn K mainGlobals "range" = some none)
    (z6 : PySem.W.nsIn K mainGlobals "all" = some none)
    (z7 : PySem.W.nsIn K mainGlobals "isinstance" = some none)
    (z8 : PySem.W.nsIn K mainGlobals "str" = some none)
    (z9 : PySem.W.nsIn K mainGlobals "bool" = some none)
    (z10 : PySem.W.nsIn K mainGlobals "tuple" = some none)
    (z11 : PySem.W.nsIn K mainGlobals "sorted" = some none)
    (z12 : PySem.W.nsIn K mainGlobals "set" = some none)
    (z13 : PySem.W.nsIn K mainGlobals "min" = some none)
    (z14 : PySem.W.nsIn K mainGlobals "enumerate" = some none)
    (z15 : PySem.W.nsIn K mainGlobals "dict" = some none)
    (z16 : PySem.W.nsIn K mainGlobals "repr" = some none)
    (ma0 : PySem.W.findIn K (.ref C) "__init__" = some (some (.ref g0)))
    (mf0 : PySem.W.isFn K (.ref g0) = true)
    (ml0 : K.lookup g0 = some ⟨moc0, mod0, .func (PySem.W.fnOf "__init__" "Reader.__init__" (defArgs sInit) (defBody sInit) (defScope sInit) .none mkV0 mdc0 mpm0 man0 mcd0 mct0), msl0⟩)
    (mc0 : PySem.W.codeIn K mcd0 "Reader.__init__" = true)
    (mk0 : PySem.W.keepIn K (.ref g0) = true)
    (ma1 : PySem.W.findCls K (.ref C) (.type "type") "of" = some (.get (.builtin "classmethod.__get__") (.ref p1) .none (.ref C)))
    (mr1 : PySem.W.recIn K p1 "classmethod" = some (.ref g1 :: rest1))
    (mi1 : PySem.W.fnIn K g1 = true)
    (ml1 : K.lookup g1 = some ⟨moc1, mod1, .func (PySem.W.fnOf "of" "Reader.of" (defArgs sOf) (defBody sOf) (defScope sOf) .none mkV1 mdc1 mpm1 man1 mcd1 mct1), msl1⟩)
    (mc1 : PySem.W.codeIn K mcd1 "Reader.of" = true)
    (mk1 : PySem.W.keepIn K (.ref g1) = true)
    (ma2 : PySem.W.findIn K (.ref C) "lines" = some (some (.ref p2)))
    (mg2 : PySem.W.specialIn K (.ref p2) "__get__" = some (some (.builtin "property.__get__")))
    (mt2 : PySem.W.takesIn K (.ref p2) = some true)
    (mr2 : PySem.W.recIn K p2 "property" = some (.ref g2 :: rest2))
    (ml2 : K.lookup g2 = some ⟨moc2, mod2, .func (PySem.W.fnOf "lines" "Reader.lines" (defArgs sLines) (defBody sLines) (defScope sLines) .none mkV2 mdc2 mpm2 man2 mcd2 mct2), msl2⟩)
    (mc2 : PySem.W.codeIn K mcd2 "Reader.lines" = true)
    (mk2 : PySem.W.keepIn K (.ref g2) = true)
    (ma3 : PySem.W.findIn K (.ref C) "tested" = some (some (.ref p3)))
    (mg3 : PySem.W.specialIn K (.ref p3) "__get__" = some (some (.builtin "property.__get__")))
    (mt3 : PySem.W.takesIn K (.ref p3) = some true)
    (mr3 : PySem.W.recIn K p3 "property" = some (.ref g3 :: rest3))
    (ml3 : K.lookup g3 = some ⟨moc3, mod3, .func (PySem.W.fnOf "tested" "Reader.tested" (defArgs sTested) (defBody sTested) (defScope sTested) .none mkV3 mdc3 mpm3 man3 mcd3 mct3), msl3⟩)
    (mc3 : PySem.W.codeIn K mcd3 "Reader.tested" = true)
    (mk3 : PySem.W.keepIn K (.ref g3) = true)
    (ma4 : PySem.W.findIn K (.ref C) "pairs" = some (some (.ref p4)))
    (mg4 : PySem.W.specialIn K (.ref p4) "__get__" = some (some (.builtin "property.__get__")))
    (mt4 : PySem.W.takesIn K (.ref p4) = some true)
    (mr4 : PySem.W.recIn K p4 "property" = some (.ref g4 :: rest4))
    (ml4 : K.lookup g4 = some ⟨moc4, mod4, .func (PySem.W.fnOf "pairs" "Reader.pairs" (defArgs sPrs) (defBody sPrs) (defScope sPrs) .none mkV4 mdc4 mpm4 man4 mcd4 mct4), msl4⟩)
    (mc4 : PySem.W.codeIn K mcd4 "Reader.pairs" = true)
    (mk4 : PySem.W.keepIn K (.ref g4) = true)
    (ma5 : PySem.W.findIn K (.ref C) "is_plain" = some (some (.ref p5)))
    (mg5 : PySem.W.specialIn K (.ref p5) "__get__" = some (some (.builtin "property.__get__")))
    (mt5 : PySem.W.takesIn K (.ref p5) = some true)
    (mr5 : PySem.W.recIn K p5 "property" = some (.ref g5 :: rest5))
    (ml5 : K.lookup g5 = some ⟨moc5, mod5, .func (PySem.W.fnOf "is_plain" "Reader.is_plain" (defArgs sPlain) (defBody sPlain) (defScope sPlain) .none mkV5 mdc5 mpm5 man5 mcd5 mct5), msl5⟩)
    (mc5 : PySem.W.codeIn K mcd5 "Reader.is_plain" = true)
    (mk5 : PySem.W.keepIn K (.ref g5) = true)
    (ma6 : PySem.W.findIn K (.ref C) "readings" = some (some (.ref p6)))
    (mg6 : PySem.W.specialIn K (.ref p6) "__get__" = some (some (.builtin "property.__get__")))
    (mt6 : PySem.W.takesIn K (.ref p6) = some true)
    (mr6 : PySem.W.recIn K p6 "property" = some (.ref g6 :: rest6))
    (ml6 : K.lookup g6 = some ⟨moc6, mod6, .func (PySem.W.fnOf "readings" "Reader.readings" (defArgs sReadings) (defBody sReadings) (defScope sReadings) .none mkV6 mdc6 mpm6 man6 mcd6 mct6), msl6⟩)
    (mc6 : PySem.W.codeIn K mcd6 "Reader.readings" = true)
    (mk6 : PySem.W.keepIn K (.ref g6) = true)
    (ma7 : PySem.W.findIn K (.ref C) "with_line" = some (some (.ref g7)))
    (mf7 : PySem.W.isFn K (.ref g7) = true)
    (ml7 : K.lookup g7 = some ⟨moc7, mod7, .func (PySem.W.fnOf "with_line" "Reader.with_line" (defArgs sWith) (defBody sWith) (defScope sWith) .none mkV7 mdc7 mpm7 man7 mcd7 mct7), msl7⟩)
    (mc7 : PySem.W.codeIn K mcd7 "Reader.with_line" = true)
    (mk7 : PySem.W.keepIn K (.ref g7) = true)
    (ma8 : PySem.W.findIn K (.ref C) "without_line" = some (some (.ref g8)))
    (mf8 : PySem.W.isFn K (.ref g8) = true)
    (ml8 : K.lookup g8 = some ⟨moc8, mod8, .func (PySem.W.fnOf "without_line" "Reader.without_line" (defArgs sWout) (defBody sWout) (defScope sWout) .none mkV8 mdc8 mpm8 man8 mcd8 mct8), msl8⟩)
    (mc8 : PySem.W.codeIn K mcd8 "Reader.without_line" = true)
    (mk8 : PySem.W.keepIn K (.ref g8) = true)
    (ma9 : PySem.W.findIn K (.ref C) "__len__" = some (some (.ref g9)))
    (mf9 : PySem.W.isFn K (.ref g9) = true)
    (ml9 : K.lookup g9 = some ⟨moc9, mod9, .func (PySem.W.fnOf "__len__" "Reader.__len__" (defArgs sLen) (defBody sLen) (defScope sLen) .none mkV9 mdc9 mpm9 man9 mcd9 mct9), msl9⟩)
    (mc9 : PySem.W.codeIn K mcd9 "Reader.__len__" = true)
    (mk9 : PySem.W.keepIn K (.ref g9) = true)
    (ma10 : PySem.W.findIn K (.ref C) "__eq__" = some (some (.ref g10)))
    (mf10 : PySem.W.isFn K (.ref g10) = true)
    (ml10 : K.lookup g10 = some ⟨moc10, mod10, .func (PySem.W.fnOf "__eq__" "Reader.__eq__" (defArgs sEq) (defBody sEq) (defScope sEq) .none mkV10 mdc10 mpm10 man10 mcd10 mct10), msl10⟩)
    (mc10 : PySem.W.codeIn K mcd10 "Reader.__eq__" = true)
    (mk10 : PySem.W.keepIn K (.ref g10) = true)
    (ma11 : PySem.W.findIn K (.ref C) "__str__" = some (some (.ref g11)))
    (mf11 : PySem.W.isFn K (.ref g11) = true)
    (ml11 : K.lookup g11 = some ⟨moc11, mod11, .func (PySem.W.fnOf "__str__" "Reader.__str__" (defArgs sStr) (defBody sStr) (defScope sStr) .none mkV11 mdc11 mpm11 man11 mcd11 mct11), msl11⟩)
    (mc11 : PySem.W.codeIn K mcd11 "Reader.__str__" = true)
    (mk11 : PySem.W.keepIn K (.ref g11) = true)
    (ma12 : PySem.W.findIn K (.ref C) "_need_line" = some (some (.ref g12)))
    (mf12 : PySem.W.isFn K (.ref g12) = true)
    (ml12 : K.lookup g12 = some ⟨moc12, mod12, .func (PySem.W.fnOf "_need_line" "Reader._need_line" (defArgs sNeed) (defBody sNeed) (defScope sNeed) .none mkV12 mdc12 mpm12 man12 mcd12 mct12), msl12⟩)
    (mc12 : PySem.W.codeIn K mcd12 "Reader._need_line" = true)
    (mk12 : PySem.W.keepIn K (.ref g12) = true)
    (cpg : PySem.W.plainGet K C Str.empty = true)
    (chd : PySem.W.hasDictIn K C = true)
    (cpo : PySem.W.plainOver K C = true)
    (csa : PySem.W.findIn K (.ref C) "__setattr__" = some (some (.builtin "object.__setattr__")))
    (cnL : PySem.W.findIn K (.ref C) "_lines" = some none)
    (cnT : PySem.W.findIn K (.ref C) "_tested" = some none)
    (cmk : PySem.W.makesIn K C = true)
    (ckp : PySem.W.keepIn K (.ref C) = true)
    (crd : PySem.W.readsIn K C (.type "type") = true)
    (cga : PySem.W.specialIn K (.ref C) "__getattribute__" = some (some (.builtin "type.__getattribute__")))
    (cne : PySem.W.findIn K (.ref C) "__ne__" = some (some (.builtin "object.__ne__")))
    (cso : PySem.W.subIn K (.ref C) (.type "object") = some true)
    (cha : PySem.W.findIn K (.ref C) "__class__" = some (some (.builtin "object.__class__")))
    (chn : PySem.W.specialIn K (.builtin "object.__class__") "__get__" = some (some (.builtin "getset_descriptor.__get__")))
    (cht : PySem.W.takesIn K (.builtin "object.__class__") = some true)
    (chm : PySem.W.mroIn K C (.type "object") = some true)
    (cse : (PySem.W.kitOne K (.ref C) (.ref C) == some true) = true)
    (bno : noB K C = true)
    (bnf : nfB K C = true)
    (x0 : K.lookup CN = some (excClassObj nm0 qn0 CN N0 bs0 PySem.Mk0.bIx true sn0 sub0 ab0 col0 dd0 m00 m01 m02 m03 m05 "IndexError.__new__"))
    (ega : PySem.W.findIn K (.ref CN) "__getattribute__" = some (some (.builtin "BaseException.__getattribute__")))
    (egg : PySem.W.findIn K (.ref CN) "__getattr__" = some none)
    (exC : PySem.W.subIn K (.ref CN) (.type "BaseException") = some true)
    (ehd : PySem.W.hasDictIn K CN = true)
    (ekp : PySem.W.keepIn K (.ref CN) = true)
    (ety : PySem.W.typeIn K (.ref CN) = some (.type "type"))
    (s0 : PySem.W.findIn K (.ref CN) "__setattr__" = some (some (.builtin "object.__setattr__")))
    (n0 : PySem.W.findIn K (.ref CN) "value" = some none)
    (i0 : PySem.W.findIn K (.ref CN) "__init__" = some (some (.ref J)))
    (t0 : PySem.W.typeIn K (.ref J) = some (.type "function"))
    (y0 : K.lookup J = some ⟨ioc0, iod0, .func (PySem.W.fnOf "__init__" "InvalidNumber.__init__" (PySem.Mk0.oA "value" p01 p02) (PySem.Mk0.oB "value" q01 q02 q03 q04) (PySem.Mk0.oS "value") .none .none idc0 ipm0 ian0 icd0 ict0), isl0⟩)
    (v0 : PySem.W.codeIn K icd0 "InvalidNumber.__init__" = true)
    (eNN : (PySem.W.exmOne K (.ref CN) (.ref CN) == some true) = true)
    (eRN : (PySem.W.exmOne K (.ref CR) (.ref CN) == some false) = true)
    (eRR : (PySem.W.exmOne K (.ref CR) (.ref CR) == some true) = true)
    (rx : PySem.W.excIn K CR bVe "ValueError.__new__" = true)
    (rk : PySem.W.keepIn K (.ref CR) = true)
    (rb : PySem.W.subIn K (.ref CR) (.type "BaseException") = some true)
    (rt : PySem.W.typeIn K (.ref CR) = some (.type "type"))
    (nt1 : K.lookup P1 = none)
    (ch1 : PySem.W.codeHdIn K cc1 P1 = true)
    (nt2 : K.lookup P2 = none)
    (ch2 : PySem.W.codeHdIn K cc2 P2 = true)
    : ∃ (fd : FuncData) (cs : List (Addr × Addr)) (sp : Sp), (∀ p ∈ cs, h.get? p.2 = some (PySem.W.tabObj #[]) ∧ K.lookup p.2 = none ∧ PySem.W.CodeHd h p.1 p.2) ∧ (∀ (s : Shared) (u : Value), BindsTo s fd ⟨[u], []⟩ [("_law_script", u)]) ∧
        (∀ (H : Hp) (a : Addr) (ns : List Int), ns.length ≤ 63 → (∀ p ∈ cs, H p.2 = some (.tbl #[])) → SqL K H a (ns.map V.int) → sp [.ref a] H (fun v _ => v = .bl true) fun _ _ _ => False) ∧
        ∀ base : Heap, K.In base → base.Ns mainGlobals mg → (∃ o, base.get? sysModules = some o) → (∀ p ∈ cs, TabB base mg p.1 p.2) → FnG P w K mg base 12 fa fd ["_law_script"] sp := by
  have e := hfa.symm.trans (PySem.W.mg_of X G d22)
  cases e
  have o0 : PySem.Mk0.OTxt K CN J "value" "InvalidNumber.__init__" "IndexError" "IndexError.__new__" PySem.Mk0.bIx :=
    { fn := by decide, F := ⟨_, _, PySem.F.excBase_IndexError⟩, Z := PySem.Mk0.z_ix, cls := ⟨_, _, _, _, _, _, _, _, _, _, _, _, _, _, x0⟩, sa := s0, ga := ega, gg := egg, noN := n0, iC := i0, tC := t0, kC := ekp, exC := exC, tyC := ety, hdC := ehd, def_ := ⟨_, _, _, _, _, _, _, _, _, _, _, _, _, _, y0, v0⟩ }
  have F0 := fun_mk (st := sName) l0 c0 k0
  have b0 := F0.binds (ps := ["value"]) fun _ _ _ _ _ _ us hl => match us, hl with | [_], _ => rfl
  have M0 := PySem.W.mg_of X G d0
  have F1 := fun_mk (st := sAsc) l1 c1 k1
  have b1 := F1.binds (ps := ["values"]) fun _ _ _ _ _ _ us hl => match us, hl with | [_], _ => rfl
  have M1 := PySem.W.mg_of X G d1
  have F2 := fun_mk (st := sWhole) l2 c2 k2
  have b2 := F2.binds (ps := ["value"]) fun _ _ _ _ _ _ us hl => match us, hl with | [_], _ => rfl
  have M2 := PySem.W.mg_of X G d2
  have F3 := fun_mk (st := sNumb) l3 c3 k3
  have b3 := F3.binds (ps := ["value"]) fun _ _ _ _ _ _ us hl => match us, hl with | [_], _ => rfl
  have M3 := PySem.W.mg_of X G d3
  have F4 := fun_mk (st := sWithin) l4 c4 k4
  have b4 := F4.binds (ps := ["value", "most"]) fun _ _ _ _ _ _ us hl => match us, hl with | [_, _], _ => rfl
  have M4 := PySem.W.mg_of X G d4
  have F5 := fun_mk (st := sNames) l5 c5 k5
  have b5 := F5.binds (ps := ["values"]) fun _ _ _ _ _ _ us hl => match us, hl with | [_], _ => rfl
  have M5 := PySem.W.mg_of X G d5
  have F6 := fun_mk (st := sLine) l6 c6 k6
  have b6 := F6.binds (ps := ["value", "many"]) fun _ _ _ _ _ _ us hl => match us, hl with | [_, _], _ => rfl
  have M6 := PySem.W.mg_of X G d6
  have F7 := fun_mk (st := sPairs) l7 c7 k7
  have b7 := F7.binds (ps := ["lines", "words"]) fun _ _ _ _ _ _ us hl => match us, hl with | [_, _], _ => rfl
  have M7 := PySem.W.mg_of X G d7
  have F8 := fun_mk (st := sWn) l8 c8 k8
  have b8 := F8.binds (ps := ["line", "limit", "by"]) fun _ _ _ _ _ _ us hl => match us, hl with | [_, _, _], _ => rfl
  have M8 := PySem.W.mg_of X G d8
  have F9 := fun_mk (st := sDice) l9 c9 k9
  have b9 := F9.binds (ps := ["_law_script", "_law_at"]) fun _ _ _ _ _ _ us hl => match us, hl with | [_, _], _ => rfl
  have M9 := PySem.W.mg_of X G d9
  have F10 := fun_mk (st := sRoll) l10 c10 k10
  have b10 := F10.binds (ps := ["_law_dice_here", "_law_total"]) fun _ _ _ _ _ _ us hl => match us, hl with | [_, _], _ => rfl
  have M10 := PySem.W.mg_of X G d10
  have F11 := fun_mk (st := sOne) l11 c11 k11
  have b11 := F11.binds (ps := ["_law_dice_here", "_law_items"]) fun _ _ _ _ _ _ us hl => match us, hl with | [_, _], _ => rfl
  have M11 := PySem.W.mg_of X G d11
  have F12 := fun_mk (st := sLn) l12 c12 k12
  have b12 := F12.binds (ps := ["_law_dice_here", "_law_size"]) fun _ _ _ _ _ _ us hl => match us, hl with | [_, _], _ => rfl
  have M12 := PySem.W.mg_of X G d12
  have F13 := fun_mk (st := sLns) l13 c13 k13
  have b13 := F13.binds (ps := ["_law_dice_here", "_law_most"]) fun _ _ _ _ _ _ us hl => match us, hl with | [_, _], _ => rfl
  have M13 := PySem.W.mg_of X G d13
  have F14 := fun_mk (st := sMv) l14 c14 k14
  have b14 := F14.binds (ps := ["_law_line_here", "_law_at", "_law_by"]) fun _ _ _ _ _ _ us hl => match us, hl with | [_, _, _], _ => rfl
  have M14 := PySem.W.mg_of X G d14
  have F15 := fun_mk (st := sPut) l15 c15 k15
  have b15 := F15.binds (ps := ["_law_lines_here", "_law_at", "_law_line_here"]) fun _ _ _ _ _ _ us hl => match us, hl with | [_, _, _], _ => rfl
  have M15 := PySem.W.mg_of X G d15
  have F16 := fun_mk (st := sCut) l16 c16 k16
  have b16 := F16.binds (ps := ["_law_lines_here", "_law_at"]) fun _ _ _ _ _ _ us hl => match us, hl with | [_, _], _ => rfl
  have M16 := PySem.W.mg_of X G d16
  have F17 := fun_mk (st := sCrs) l17 c17 k17
  have b17 := F17.binds (ps := ["_law_lines_here", "_law_answers"]) fun _ _ _ _ _ _ us hl => match us, hl with | [_, _], _ => rfl
  have M17 := PySem.W.mg_of X G d17
  have F18 := fun_mk (st := sMet) l18 c18 k18
  have b18 := F18.binds (ps := ["_law_call"]) fun _ _ _ _ _ _ us hl => match us, hl with | [_], _ => rfl
  have M18 := PySem.W.mg_of X G d18
  have F19 := fun_mk (st := sAl) l19 c19 k19
  have b19 := F19.binds (ps := ["_law_one", "_law_two", "_law_answers"]) fun _ _ _ _ _ _ us hl => match us, hl with | [_, _, _], _ => rfl
  have M19 := PySem.W.mg_of X G d19
  have F20 := fun_mk (st := sIt) l20 c20 k20
  have b20 := F20.binds (ps := ["_law_one"]) fun _ _ _ _ _ _ us hl => match us, hl with | [_], _ => rfl
  have M20 := PySem.W.mg_of X G d20
  have F21 := fun_mk (st := sRj) l21 c21 k21
  have b21 := F21.binds (ps := ["_law_dice_here"]) fun _ _ _ _ _ _ us hl => match us, hl with | [_], _ => rfl
  have M21 := PySem.W.mg_of X G d21
  have F22 := fun_mk (st := sLw) l22 c22 k22
  have E0 := fun_mk (st := sInit) ml0 mc0 mk0
  have E1 := fun_mk (st := sOf) ml1 mc1 mk1
  have e1 := E1.binds (ps := ["cls", "lines"]) fun _ _ _ _ _ _ us hl => match us, hl with | [_, _], _ => rfl
  have E2 := fun_mk (st := sLines) ml2 mc2 mk2
  have e2 := E2.binds (ps := ["self"]) fun _ _ _ _ _ _ us hl => match us, hl with | [_], _ => rfl
  have E3 := fun_mk (st := sTested) ml3 mc3 mk3
  have e3 := E3.binds (ps := ["self"]) fun _ _ _ _ _ _ us hl => match us, hl with | [_], _ => rfl
  have E4 := fun_mk (st := sPrs) ml4 mc4 mk4
  have e4 := E4.binds (ps := ["self"]) fun _ _ _ _ _ _ us hl => match us, hl with | [_], _ => rfl
  have E5 := fun_mk (st := sPlain) ml5 mc5 mk5
  have e5 := E5.binds (ps := ["self"]) fun _ _ _ _ _ _ us hl => match us, hl with | [_], _ => rfl
  have E6 := fun_mk (st := sReadings) ml6 mc6 mk6
  have e6 := E6.binds (ps := ["self"]) fun _ _ _ _ _ _ us hl => match us, hl with | [_], _ => rfl
  have E7 := fun_mk (st := sWith) ml7 mc7 mk7
  have e7 := E7.binds (ps := ["self", "at", "line"]) fun _ _ _ _ _ _ us hl => match us, hl with | [_, _, _], _ => rfl
  have E8 := fun_mk (st := sWout) ml8 mc8 mk8
  have e8 := E8.binds (ps := ["self", "at"]) fun _ _ _ _ _ _ us hl => match us, hl with | [_, _], _ => rfl
  have E9 := fun_mk (st := sLen) ml9 mc9 mk9
  have e9 := E9.binds (ps := ["self"]) fun _ _ _ _ _ _ us hl => match us, hl with | [_], _ => rfl
  have E10 := fun_mk (st := sEq) ml10 mc10 mk10
  have e10 := E10.binds (ps := ["self", "other"]) fun _ _ _ _ _ _ us hl => match us, hl with | [_, _], _ => rfl
  have E11 := fun_mk (st := sStr) ml11 mc11 mk11
  have e11 := E11.binds (ps := ["self"]) fun _ _ _ _ _ _ us hl => match us, hl with | [_], _ => rfl
  have E12 := fun_mk (st := sNeed) ml12 mc12 mk12
  have e12 := E12.binds (ps := ["self", "at"]) fun _ _ _ _ _ _ us hl => match us, hl with | [_, _], _ => rfl
  refine ⟨PySem.W.fnOf "law" "law" (defArgs sLw) (defBody sLw) (defScope sLw) .none kV22 dc22 pm22 an22 (.ref cc2) ct22, [(cc1, P1), (cc2, P2)], spLw K [(P1, (envOfC "_law_right" (defScope sRj) 0 f21 (.ref cc1)).qual ++ "<lambda>"), (P2, (envOfC "law" (defScope sLw) 0 fa (.ref cc2)).qual ++ "<lambda>")], fun q hq => ?_, fun s u => .of_eq rfl, fun H a ns hl ht hS => ⟨a, ns, rfl, hS, fun q hq => ?_, fun _ => rfl⟩, fun base hKb _ hsys hTB => ?_⟩
  · simp only [List.mem_cons, List.not_mem_nil, or_false] at hq
    rcases hq with rfl | rfl
    · exact ⟨hT1, nt1, PySem.W.codeHd_of_K X ch1⟩
    · exact ⟨hT2, nt2, PySem.W.codeHd_of_K X ch2⟩
  · simp only [List.mem_cons, List.not_mem_nil, or_false] at hq
    rcases hq with rfl | rfl
    · exact tabS_nil (ht _ (.head _))
    · exact tabS_nil (ht _ (.tail _ (.head _)))
  have B1 := hTB _ (.head _)
  have B2 := hTB _ (.tail _ (.head _))
  have TB : TxB K mg := ⟨PySem.W.mg_none_of X G z0, PySem.W.mg_none_of X G z1, PySem.W.mg_none_of X G z2, PySem.W.mg_none_of X G z3, PySem.W.mg_none_of X G z4, PySem.W.mg_none_of X G z5⟩
  have TM : TxM K mg := { TB with all := PySem.W.mg_none_of X G z6, isi := PySem.W.mg_none_of X G z7, str := PySem.W.mg_none_of X G z8, bool := PySem.W.mg_none_of X G z9, tuple := PySem.W.mg_none_of X G z10, sorted := PySem.W.mg_none_of X G z11, set := PySem.W.mg_none_of X G z12, min := PySem.W.mg_none_of X G z13, enum := PySem.W.mg_none_of X G z14, dict := PySem.W.mg_none_of X G z15, repr := PySem.W.mg_none_of X G z16 }
  have R0 := ok_name (P := P) (w := w) (base := base) F0 TM
  have R2 := ok_whole (P := P) (w := w) (base := base) F2 TM
  have R3 := ok_numb (P := P) (w := w) (base := base) F3 ⟨_, _, M2, k2, b2, R2⟩
  have R4 := ok_within (P := P) (w := w) (base := base) F4 ⟨_, _, M3, k3, b3, R3⟩
  have TN : TxN K mg P w base := { TM with whole := ⟨_, _, M2, k2, b2, R2⟩, numb := ⟨_, _, M3, k3, b3, R3⟩, within_ := ⟨_, _, M4, k4, b4, R4⟩, name := ⟨_, _, M0, k0, b0, R0⟩ }
  have R5 := ok_names (P := P) (w := w) (base := base) F5 TN
  have TL : TxL K mg P w base := { TN with names := ⟨_, _, M5, k5, b5, R5⟩ }
  have R6 := ok_line (P := P) (w := w) (base := base) F6 TL
  have RX := ok_ascX (P := P) (w := w) (base := base) F1 TM
  have RS := ok_ascS (P := P) (w := w) (base := base) F1 TM
  have TP : TxP K mg P w base := { TL with line := ⟨_, _, M6, k6, b6, R6⟩, ascX := ⟨_, _, M1, k1, b1, RX⟩, ascS := ⟨_, _, M1, k1, b1, RS⟩ }
  have R7 := ok_pairs (P := P) (w := w) (base := base) F7 TP
  have TR : TxR0 K mg P w base C := { TP with cl := ⟨cpg, chd, cpo, csa⟩, nL := cnL, nT := cnT, mgC := PySem.W.mg_of X G gC, mxL := ⟨_, PySem.W.mg_of X G gL⟩, mxT := ⟨_, PySem.W.mg_of X G gT⟩, pairs := ⟨_, _, M7, k7, b7, R7⟩ }
  have Q0 := ok_init E0 TR
  have MK0 : Mk K C g0 := ⟨cmk, ma0, mf0, ckp⟩
  have TR1 : TxR1 K mg P w base C := { TR with made_ := ⟨_, MK0, Q0⟩ }
  have Q1 := ok_of E1 TR1
  have CRd : ClX.CRead K C (.type "type") := ⟨crd, cga⟩
  have CM1 : ClX.CMet K C (.type "type") "of" p1 g1 := ⟨ma1, ⟨_, mr1⟩, mi1⟩
  have I : TxI K C := ⟨cha, chn, cht, chm, beq_iff_eq.mp cse, fun t ht => beq_iff_eq.mp (List.all_eq_true.mp bno t ht)⟩
  have Q2 := ok_lines E2 TR
  have Q3 := ok_tested E3 TR
  have Q4 := ok_prs E4 TR
  have Q5 := ok_plain E5 TR
  have Q6 := ok_readings E6 TR
  have Q9 := ok_len E9 TR
  have Q11 := ok_str E11 TR
  have Q10 := ok_eq E10 TR I
  have gNm := PySem.W.mg_of X G gN
  have gRm := PySem.W.mg_of X G gR
  have TG : TxG K mg P w base C CN := { TR with gN := gNm, oN := ⟨_, o0⟩ }
  have Q12 := ok_need E12 TG
  have TG2 : TxG2 K mg P w base C CN := { TG with need := ⟨_, _, ⟨ma12, mf12, mk12⟩, e12, Q12⟩ }
  have R8 := ok_wn (P := P) (w := w) (base := base) F8 TM
  have TX : TxX K mg P w base C CR := { TR with gR := gRm, xR := rx, kR := rk, bR := rb, tR := rt }
  have TX1 : TxX1 K mg P w base C CR := { TX with madeX := ⟨_, MK0, ok_initX E0 TX⟩ }
  have TX2 : TxX2 K mg P w base C CR := { TX with madeY := ⟨_, MK0, ok_initY E0 TX⟩ }
  have TB3 : TxB3 K mg P w base C CN CR := { TG2 with wn := ⟨_, _, M8, k8, b8, R8⟩, ofB := ⟨_, _, _, CRd, CM1, fnr_or (fnr_lift (plainR Q1 e1)) (plainRC (ok_ofX E1 TX1) e1)⟩ }
  have TB4 : TxB4 K mg P w base C CN CR := { TB3 with ofY := ⟨_, _, _, CRd, CM1, plainRC (ok_ofY E1 TX2) e1⟩ }
  have Q7 := ok_with E7 TB3
  have Q8 := ok_wout E8 TB3
  have QY := ok_withY E7 TB4
  have R9 := ok_dice (P := P) (w := w) (base := base) F9 TB
  have R10 := ok_roll (P := P) (w := w) (base := base) F10 TB
  have TD : TxD K mg P w base := { TB with roll := ⟨_, _, M10, k10, b10, R10⟩ }
  have R11 := ok_one  F11 TD
  have T2 : TxE2 K mg P w base := { TM with roll := ⟨_, _, M10, k10, b10, R10⟩, one := ⟨_, _, M11, k11, b11, R11⟩ }
  have R12 := ok_ln  F12 T2
  have T3 : TxE3 K mg P w base := { T2 with ln := ⟨_, _, M12, k12, b12, R12⟩ }
  have R13 := ok_lns  F13 T3
  have R14 := ok_mv (P := P) (w := w) (base := base) F14 TM
  have R15 := ok_put (P := P) (w := w) (base := base) F15 TM ⟨_, _, M14, k14, b14, R14⟩
  have R16 := ok_cut (P := P) (w := w) (base := base) F16 TM ⟨_, _, M14, k14, b14, R14⟩
  have R17 := ok_crs (P := P) (w := w) (base := base) F17 TM
  have R19 := ok_al (P := P) (w := w) (base := base) F19 TM ⟨_, _, M17, k17, b17, R17⟩
  have TU : TxU K mg P w base C := { TR with of_ := ⟨_, _, _, CRd, CM1, plainR Q1 e1⟩, lines_ := ⟨_, _, _, ⟨ma2, mg2, mt2, ⟨_, mr2⟩⟩, e2, Q2⟩, tested_ := ⟨_, _, _, ⟨ma3, mg3, mt3, ⟨_, mr3⟩⟩, e3, Q3⟩, prs_ := ⟨_, _, _, ⟨ma4, mg4, mt4, ⟨_, mr4⟩⟩, e4, Q4⟩, plain_ := ⟨_, _, _, ⟨ma5, mg5, mt5, ⟨_, mr5⟩⟩, e5, Q5⟩, reads_ := ⟨_, _, _, ⟨ma6, mg6, mt6, ⟨_, mr6⟩⟩, e6, Q6⟩, len_ := ⟨_, ⟨ma9, mf9⟩, plainR Q9 e9⟩, str_ := ⟨_, ⟨ma11, mf11⟩, plainR Q11 e11⟩, eq_ := ⟨_, ⟨ma10, mf10⟩, plainR Q10 e10⟩, nf := fun t ht => List.all_eq_true.mp bnf t ht, ii := I }
  have R20 := ok_it  F20 TU
  have TY : TxY K mg base CN CR := { gN := gNm, gR := gRm, oN := ⟨_, o0⟩, eNN := beq_iff_eq.mp eNN, eRN := beq_iff_eq.mp eRN, eRR := beq_iff_eq.mp eRR, repr := PySem.W.mg_none_of X G z16, sysm := hsys }
  have TF : TxF K mg P w base C CN CR := { TU with roll := ⟨_, _, M10, k10, b10, R10⟩, one := ⟨_, _, M11, k11, b11, R11⟩, ln := ⟨_, _, M12, k12, b12, R12⟩, lns := ⟨_, _, M13, k13, b13, R13⟩, put := ⟨_, _, M15, k15, b15, R15⟩, cut := ⟨_, _, M16, k16, b16, R16⟩, al := ⟨_, _, M19, k19, b19, R19⟩, it := ⟨_, _, M20, k20, b20, R20⟩, wi := ⟨_, _, ⟨ma7, mf7, mk7⟩, e7, Q7⟩, wo := ⟨_, _, ⟨ma8, mf8, mk8⟩, e8, Q8⟩, ne0 := cne, sub0 := cso, y := TY, met := ⟨_, _, _, _, _, _, _, _, _, _, M18, k18, c18, l18, b18⟩ }
  have R21 := ok_rj F21 TF rfl B1 (TS := [(P1, (envOfC "_law_right" (defScope sRj) 0 f21 (.ref cc1)).qual ++ "<lambda>"), (P2, (envOfC "law" (defScope sLw) 0 fa (.ref cc2)).qual ++ "<lambda>")]) (fun n => .head _) (fun n q hq e => by
    simp only [List.mem_cons, List.not_mem_nil, or_false] at hq
    rcases hq with rfl | rfl
    · rfl
    · exact absurd e.symm hPP)
  have TZ : TxW K mg P w base C CN CR _ := { TF with dice := ⟨_, _, M9, k9, b9, R9⟩, right := ⟨_, _, M21, k21, b21, R21⟩, made_ := ⟨_, MK0, Q0⟩, wiY := ⟨_, _, ⟨ma7, mf7, mk7⟩, e7, QY⟩ }
  exact ok_lw F22 TZ rfl B2 (fun n => .tail _ (.head _)) (fun n q hq e => by
    simp only [List.mem_cons, List.not_mem_nil, or_false] at hq
    rcases hq with rfl | rfl
    · exact absurd e hPP
    · rfl)
end Rd

open PySem PySem.W PyProof.Rows
set_option maxRecDepth 100000 in
set_option maxHeartbeats 0 in
theorem PySem.Challenge.cw_asunmoved_k17_lines_put_in_and_taken_out_holds : PySem.Challenge.rw_asunmoved_k17_lines_put_in_and_taken_out.Holds := by
  w_on; o_law; k_head; (case hw => w_witness2)
  k_fill
  refine Ox.walkTG (l := PySem.Challenge.rw_asunmoved_k17_lines_put_in_and_taken_out) (n := 63) (k := 12) (x := "_law_script") rfl (by decide) rfl ⟨rfl, by decide, by decide⟩ (by decide +kernel) (fun w h Y => PySem.W.km_in_of Y) ?F
  case F =>
    intro w mg fa h Y KX G hmg
    have hT8 := PySem.W.km_tabs_of Y
    refine' Rd.all_mk KX G hmg (hT8 731 (by decide)) (hT8 736 (by decide)) (by decide) ?kz_gC ?kz_gN ?kz_gR ?kz_gL ?kz_gT ?kz_d0 ?kz_l0 ?kz_c0 ?kz_k0 ?kz_d1 ?kz_l1 ?kz_c1 ?kz_k1 ?kz_d2 ?kz_l2 ?kz_c2 ?kz_k2 ?kz_d3 ?kz_l3 ?kz_c3 ?kz_k3 ?kz_d4 ?kz_l4 ?kz_c4 ?kz_k4 ?kz_d5 ?kz_l5 ?kz_c5 ?kz_k5 ?kz_d6 ?kz_l6 ?kz_c6 ?kz_k6 ?kz_d7 ?kz_l7 ?kz_c7 ?kz_k7 ?kz_d8 ?kz_l8 ?kz_c8 ?kz_k8 ?kz_d9 ?kz_l9 ?kz_c9 ?kz_k9 ?kz_d10 ?kz_l10 ?kz_c10 ?kz_k10 ?kz_d11 ?kz_l11 ?kz_c11 ?kz_k11 ?kz_d12 ?kz_l12 ?kz_c12 ?kz_k12 ?kz_d13 ?kz_l13 ?kz_c13 ?kz_k13 ?kz_d14 ?kz_l14 ?kz_c14 ?kz_k14 ?kz_d15 ?kz_l15 ?kz_c15 ?kz_k15 ?kz_d16 ?kz_l16 ?kz_c16 ?kz_k16 ?kz_d17 ?kz_l17 ?kz_c17 ?kz_k17 ?kz_d18 ?kz_l18 ?kz_c18 ?kz_k18 ?kz_d19 ?kz_l19 ?kz_c19 ?kz_k19 ?kz_d20 ?kz_l20 ?kz_c20 ?kz_k20 ?kz_d21 ?kz_l21 ?kz_c21 ?kz_k21 ?kz_d22 ?kz_l22 ?kz_c22 ?kz_k22 ?kz_z0 ?kz_z1 ?kz_z2 ?kz_z3 ?kz_z4 ?kz_z5 ?kz_z6 ?kz_z7 ?kz_z8 ?kz_z9 ?kz_z10 ?kz_z11 ?kz_z12 ?kz_z13 ?kz_z14 ?kz_z15 ?kz_z16 ?kz_ma0 ?kz_mf0 ?kz_ml0 ?kz_mc0 ?kz_mk0 ?kz_ma1 ?kz_mr1 ?kz_mi1 ?kz_ml1 ?kz_mc1 ?kz_mk1 ?kz_ma2 ?kz_mg2 ?kz_mt2 ?kz_mr2 ?kz_ml2 ?kz_mc2 ?kz_mk2 ?kz_ma3 ?kz_mg3 ?kz_mt3 ?kz_mr3 ?kz_ml3 ?kz_mc3 ?kz_mk3 ?kz_ma4 ?kz_mg4 ?kz_mt4 ?kz_mr4 ?kz_ml4 ?kz_mc4 ?kz_mk4 ?kz_ma5 ?kz_mg5 ?kz_mt5 ?kz_mr5 ?kz_ml5 ?kz_mc5 ?kz_mk5 ?kz_ma6 ?kz_mg6 ?kz_mt6 ?kz_mr6 ?kz_ml6 ?kz_mc6 ?kz_mk6 ?kz_ma7 ?kz_mf7 ?kz_ml7 ?kz_mc7 ?kz_mk7 ?kz_ma8 ?kz_mf8 ?kz_ml8 ?kz_mc8 ?kz_mk8 ?kz_ma9 ?kz_mf9 ?kz_ml9 ?kz_mc9 ?kz_mk9 ?kz_ma10 ?kz_mf10 ?kz_ml10 ?kz_mc10 ?kz_mk10 ?kz_ma11 ?kz_mf11 ?kz_ml11 ?kz_mc11 ?kz_mk11 ?kz_ma12 ?kz_mf12 ?kz_ml12 ?kz_mc12 ?kz_mk12 ?kz_cpg ?kz_chd ?kz_cpo ?kz_csa ?kz_cnL ?kz_cnT ?kz_cmk ?kz_ckp ?kz_crd ?kz_cga ?kz_cne ?kz_cso ?kz_cha ?kz_chn ?kz_cht ?kz_chm ?kz_cse ?kz_bno ?kz_bnf ?kz_x0 ?kz_ega ?kz_egg ?kz_exC ?kz_ehd ?kz_ekp ?kz_ety ?kz_s0 ?kz_n0 ?kz_i0 ?kz_t0 ?kz_y0 ?kz_v0 ?kz_eNN ?kz_eRN ?kz_eRR ?kz_rx ?kz_rk ?kz_rb ?kz_rt ?kz_nt1 ?kz_ch1 ?kz_nt2 ?kz_ch2
    (case kz_gC => k_is); (case kz_gN => k_is); (case kz_gR => k_is); (case kz_gL => k_is); (case kz_gT => k_is); (case kz_d0 => k_is)
    (case kz_l0 => k_is); (case kz_c0 => k_is); (case kz_k0 => k_is); (case kz_d1 => k_is); (case kz_l1 => k_is); (case kz_c1 => k_is)
    (case kz_k1 => k_is); (case kz_d2 => k_is); (case kz_l2 => k_is); (case kz_c2 => k_is); (case kz_k2 => k_is); (case kz_d3 => k_is)
    (case kz_l3 => k_is); (case kz_c3 => k_is); (case kz_k3 => k_is); (case kz_d4 => k_is); (case kz_l4 => k_is); (case kz_c4 => k_is)
    (case kz_k4 => k_is); (case kz_d5 => k_is); (case kz_l5 => k_is); (case kz_c5 => k_is); (case kz_k5 => k_is); (case kz_d6 => k_is)
    (case kz_l6 => k_is); (case kz_c6 => k_is); (case kz_k6 => k_is); (case kz_d7 => k_is); (case kz_l7 => k_is); (case kz_c7 => k_is)
    (case kz_k7 => k_is); (case kz_d8 => k_is); (case kz_l8 => k_is); (case kz_c8 => k_is); (case kz_k8 => k_is); (case kz_d9 => k_is)
    (case kz_l9 => k_is); (case kz_c9 => k_is); (case kz_k9 => k_is); (case kz_d10 => k_is); (case kz_l10 => k_is); (case kz_c10 => k_is)
    (case kz_k10 => k_is); (case kz_d11 => k_is); (case kz_l11 => k_is); (case kz_c11 => k_is); (case kz_k11 => k_is); (case kz_d12 => k_is)
    (case kz_l12 => k_is); (case kz_c12 => k_is); (case kz_k12 => k_is); (case kz_d13 => k_is); (case kz_l13 => k_is); (case kz_c13 => k_is)
    (case kz_k13 => k_is); (case kz_d14 => k_is); (case kz_l14 => k_is); (case kz_c14 => k_is); (case kz_k14 => k_is); (case kz_d15 => k_is)
    (case kz_l15 => k_is); (case kz_c15 => k_is); (case kz_k15 => k_is); (case kz_d16 => k_is); (case kz_l16 => k_is); (case kz_c16 => k_is)
    (case kz_k16 => k_is); (case kz_d17 => k_is); (case kz_l17 => k_is); (case kz_c17 => k_is); (case kz_k17 => k_is); (case kz_d18 => k_is)
    (case kz_l18 => k_is); (case kz_c18 => k_is); (case kz_k18 => k_is); (case kz_d19 => k_is); (case kz_l19 => k_is); (case kz_c19 => k_is)
    (case kz_k19 => k_is); (case kz_d20 => k_is); (case kz_l20 => k_is); (case kz_c20 => k_is); (case kz_k20 => k_is); (case kz_d21 => k_is)
    (case kz_l21 => k_is); (case kz_c21 => k_is); (case kz_k21 => k_is); (case kz_d22 => k_is); (case kz_l22 => k_is); (case kz_c22 => k_is)
    (case kz_k22 => k_is); (case kz_z0 => k_is); (case kz_z1 => k_is); (case kz_z2 => k_is); (case kz_z3 => k_is); (case kz_z4 => k_is)
    (case kz_z5 => k_is); (case kz_z6 => k_is); (case kz_z7 => k_is); (case kz_z8 => k_is); (case kz_z9 => k_is); (case kz_z10 => k_is)
    (case kz_z11 => k_is); (case kz_z12 => k_is); (case kz_z13 => k_is); (case kz_z14 => k_is); (case kz_z15 => k_is); (case kz_z16 => k_is)
    (case kz_ma0 => k_is); (case kz_mf0 => k_is); (case kz_ml0 => k_is); (case kz_mc0 => k_is); (case kz_mk0 => k_is); (case kz_ma1 => k_is)
    (case kz_mr1 => k_is); (case kz_mi1 => k_is); (case kz_ml1 => k_is); (case kz_mc1 => k_is); (case kz_mk1 => k_is); (case kz_ma2 => k_is)
    (case kz_mg2 => k_is); (case kz_mt2 => k_is); (case kz_mr2 => k_is); (case kz_ml2 => k_is); (case kz_mc2 => k_is); (case kz_mk2 => k_is)
    (case kz_ma3 => k_is); (case kz_mg3 => k_is); (case kz_mt3 => k_is); (case kz_mr3 => k_is); (case kz_ml3 => k_is); (case kz_mc3 => k_is)
    (case kz_mk3 => k_is); (case kz_ma4 => k_is); (case kz_mg4 => k_is); (case kz_mt4 => k_is); (case kz_mr4 => k_is); (case kz_ml4 => k_is)
    (case kz_mc4 => k_is); (case kz_mk4 => k_is); (case kz_ma5 => k_is); (case kz_mg5 => k_is); (case kz_mt5 => k_is); (case kz_mr5 => k_is)
    (case kz_ml5 => k_is); (case kz_mc5 => k_is); (case kz_mk5 => k_is); (case kz_ma6 => k_is); (case kz_mg6 => k_is); (case kz_mt6 => k_is)
    (case kz_mr6 => k_is); (case kz_ml6 => k_is); (case kz_mc6 => k_is); (case kz_mk6 => k_is); (case kz_ma7 => k_is); (case kz_mf7 => k_is)
    (case kz_ml7 => k_is); (case kz_mc7 => k_is); (case kz_mk7 => k_is); (case kz_ma8 => k_is); (case kz_mf8 => k_is); (case kz_ml8 => k_is)
    (case kz_mc8 => k_is); (case kz_mk8 => k_is); (case kz_ma9 => k_is); (case kz_mf9 => k_is); (case kz_ml9 => k_is); (case kz_mc9 => k_is)
    (case kz_mk9 => k_is); (case kz_ma10 => k_is); (case kz_mf10 => k_is); (case kz_ml10 => k_is); (case kz_mc10 => k_is); (case kz_mk10 => k_is)
    (case kz_ma11 => k_is); (case kz_mf11 => k_is); (case kz_ml11 => k_is); (case kz_mc11 => k_is); (case kz_mk11 => k_is); (case kz_ma12 => k_is)
    (case kz_mf12 => k_is); (case kz_ml12 => k_is); (case kz_mc12 => k_is); (case kz_mk12 => k_is); (case kz_cpg => k_is); (case kz_chd => k_is)
    (case kz_cpo => k_is); (case kz_csa => k_is); (case kz_cnL => k_is); (case kz_cnT => k_is); (case kz_cmk => k_is); (case kz_ckp => k_is)
    (case kz_crd => k_is); (case kz_cga => k_is); (case kz_cne => k_is); (case kz_cso => k_is); (case kz_cha => k_is); (case kz_chn => k_is)
    (case kz_cht => k_is); (case kz_chm => k_is); (case kz_x0 => k_is); (case kz_ega => k_is); (case kz_egg => k_is); (case kz_exC => k_is)
    (case kz_ehd => k_is); (case kz_ekp => k_is); (case kz_ety => k_is); (case kz_s0 => k_is); (case kz_n0 => k_is); (case kz_i0 => k_is)
    (case kz_t0 => k_is); (case kz_y0 => k_is); (case kz_v0 => k_is); (case kz_rk => k_is); (case kz_rb => k_is); (case kz_rt => k_is)
    (case kz_cse => kernel_rfl)
    (case kz_bno => kernel_rfl)
    (case kz_bnf => kernel_rfl)
    (case kz_eNN => kernel_rfl)
    (case kz_eRN => kernel_rfl)
    (case kz_eRR => kernel_rfl)
    (case kz_rx => kernel_rfl)
    (case kz_nt1 => kernel_rfl)
    (case kz_ch1 => kernel_rfl)
    (case kz_nt2 => kernel_rfl)
    (case kz_ch2 => kernel_rfl)
#print axioms PySem.Challenge.cw_asunmoved_k17_lines_put_in_and_taken_out_holds

